import Derived.Test.YtiimkkahmpmhdaaGreatDoorZb
import Derived.Test.YtiimkkahmpmhdaaGreatDoorZc
import Derived.Test.YtiimkkahmpmhdaaGreatDoorZd
open Go.Proofs.Tryz
open Go.Proofs.Tryz renaming prog→yP
open Go.Value renaming string→sV,pointer→pV,int→iV,slice→lV,bool→bV,tuple→tV,agg→gV
open Go.Ending renaming returned→rV
namespace Go.Proofs.YtiimkkahmpmhdaaGreatDoor
open Go.RowKit
set_option maxRecDepth 100000
set_option maxHeartbeats 0
set_option linter.all false
theorem kj{l:List yB}{n i j x y}(hi:i<n)(b:j<i)(d:l[i]? =some x)(e:l[j]? =some y)(a:ai x=ai y)(c:x≠y):cQ l n=true:=by
 cases h:cQ l n with
 |true=>rfl
 |false=>exact absurd (Pt h i j x y hi b d e a) c
theorem SM{F:Nd}(a:F.read):aX≠str F.code:=fun e=>Pk a (by
 have h:=congrArg (fun b:yB=>b.data.toList) e
 simp only[FV] at h
 exact h.symm)
theorem SN{F}(hF:aI F)(hr:F.read)(he:bM F=cw)(l:List yB):cQ (str F.code::l++[aX]) (str F.code::l++[aX]).length=true:=by
 refine kj (i:=l.length+1) (j:=0) (x:=aX) (y:=str F.code) (by simp) (by omega) (by simp) rfl ?_ (SM hr);rw[Kc hF hr] at he;have e2:dS F.code=dS [128]:=he;refine Eq.symm ?_;rw[<-lW,e2,lW];rfl
theorem SO{t:Nd}(a:t.some)(r)(f:Nat):eG (f+1) t r 0=t.code::eG f (aA t r 0).1 (aA t r 0).2.1 (aA t r 0).2.2.1:=by
 show(if t.isNil=true then [] else dZ t 0++_)=_;rw[QW (by rw[(gn _).2 a];simp)];unfold dZ;rw[QX (.inl rfl)];rfl
theorem S6{F dep bl}(a:aw F dep)(c:F.read)(d:bl=true->F.fw)(f:0<dep->32<=F.code.length):
 ∃m,gh (dS F.code) F.code dep bl=.ok m/\Tx m F/\m.read:=by
 obtain⟨h6,e⟩:=a.aJ.nw c;obtain⟨m,h1,h2,h3⟩:=S5 6 (QU _) F dep bl h6 a c d;have b:gh (dS F.code) F.code dep bl=.ok (m.gy (dS F.code)):=by
  unfold gh;rw[QW (fun h=>h rfl),QW (by rintro ⟨h,g⟩;have:=f h;omega)];have:=O1 F.item h6 e;show wX _ dep bl (fL (bm 6 F.item))=_;rw[this];show AR _ (aT 6 F.item dep bl)=_;rw[h1];rfl
 refine⟨_,b,?_,(nP b).2.1⟩;cases m with
 |nil=>exact h2
 |unread x=>exact absurd h3 h2.2.2
 |leaf _ _ _=>exact h2
 |ext _ _ _=>exact h2
 |branch _ _ _=>exact h2
def S7(n t:Nd)(d:Nat):Prop:=(t=.nil/\n=.nil)\/(t.read/\n=.unread (dS t.code)/\(d=0\/t.hash≠[])/\(0<d->32<=t.code.length))\/(t.read/\n.read/\Tx n t/\d≠0/\t.hash=[])
theorem S8{c k d r}(h:SY c k)(g:cR k)(j:dw k r)(i:d≠0):S7 c k d:=by
 obtain⟨h1,h2,h3⟩:=h;have b:=h1.nil;by_cases f:k.some
 ·have e:k.read:=by cases k<;>first|exact f.elim|exact j.elim|trivial
  rw[(gn k).2 f] at b;by_cases a:k.hash=[]
  ·refine .inr (.inr ⟨e,?_,h1,i,a⟩);cases c with
   |nil=>cases b
   |unread x=>exact absurd (h2.trans a) h1.2.2
   | _=>trivial
  ·obtain⟨h4,h5⟩:=g.Dy e a;refine .inr (.inl ⟨e,?_,.inr a,fun _=>h5⟩);cases c with
   |nil=>cases b
   |unread x=>rw[<-h4];exact congrArg Nd.unread h2
   |leaf _ _ _=>exact absurd (h2.symm.trans (h3 trivial)) a
   |ext _ _ _=>exact absurd (h2.symm.trans (h3 trivial)) a
   |branch _ _ _=>exact absurd (h2.symm.trans (h3 trivial)) a
 ·have e1:k=.nil:=by cases k<;>first|rfl|exact absurd trivial f
  refine .inl ⟨e1,?_⟩;rw[e1] at b;cases c<;>first|rfl|cases b
theorem S9(f:Nat)(r)(d:Nat):eG f .nil r d=[]:=by cases f<;>rfl
theorem Ta:∀(f:Nat) (n t) (r) (d:Nat) (bl:Bool) (V:yL),aw t d->bD t->dw t r->ak r->(t.some->r.length+1<=f)->(bl=true->t.some->t.fw)->S7 n t d->
 iR f n r d bl ((eG f t r d).map str) V=some (if t.isNil=true then V else aG t r):=by
 intro f;induction f with
 |zero=>
  intro n t r d bl V a b g o l z u;have D:t=.nil:=by cases t<;>first|rfl|exact absurd (l trivial) (Nat.not_succ_le_zero _)
  subst D;rcases u with⟨_,rfl⟩|⟨h,_⟩|⟨h,_⟩
  ·rfl
  ·exact h.elim
  ·exact h.elim
 |succ f ih=>
  intro n t r d bl V a b g o l z u;by_cases s:t.some
  ·have A:¬t.isNil=true:=by rw[(gn t).2 s];simp
   have E:eG (f+1) t r d=dZ t d++eG f (aA t r d).1 (aA t r d).2.1 (aA t r d).2.2.1:=QW A;have key:∃n1,n.isNil=false/\nK n d bl ((eG (f+1) t r d).map str)=some (n1,(eG f (aA t r d).1 (aA t r d).2.1 (aA t r d).2.2.1).map str)/\Tx n1 t/\n1.read:=by
    rw[E];rcases u with⟨h,_⟩|⟨h1,rfl,h3,h4⟩|⟨h1,h2,h3,h4,h5⟩
    ·subst h;exact s.elim
    ·obtain⟨m,e1,e2,e3⟩:=S6 a h1 (fun h=>z h s) h4;refine⟨m,rfl,?_,e2,e3⟩;unfold dZ;rw[QX h3];show(match gh (dS t.code) (str t.code).data.toList d bl with| .error _=>none| .ok n=>some (n,_))=_;rw[FV,e1];rfl
    ·refine⟨n,?_,?_,h3,h2⟩
     ·rw[gn];cases n<;>first|exact h2.elim|trivial
     ·unfold dZ;rw[QW (by rintro (h|h);exact h4 h;exact h h5),SF];cases n<;>first|exact h2.elim|rfl
   obtain⟨n1,k0,k1,k2,k3⟩:=key;show(if n.isNil=true then _ else wW _ (nK n d bl _))=_;rw[QW (by rw[k0];simp),k1,QW A];show iR f (aA n1 r d).1 (aA n1 r d).2.1 (aA n1 r d).2.2.1 (aA n1 r d).2.2.2 _ (n1.at r)=_;cases n1 with
   |nil=>exact k3.elim
   |unread _=>exact k3.elim
   |leaf h0 p v=>
    obtain⟨i,rfl⟩:=k2;show iR f .nil [] 0 false ((eG f .nil [] 0).map str) _=_;rw[S9,Oq];rfl
   |ext h0 q k'=>
    obtain⟨i,k,rfl,k4⟩:=k2;by_cases e:aF q r=q.length
    ·have G:q.length≠0:=fun h=>a.bu.1 (Rm.1 h)
     have C:=(g9 q r).2;rw[e] at C;have B:k.some:=nk a.bu.2.1;have w:=ih k' k (r.drop q.length) (d+q.length) true (Nd.at (.ext h0 q k') r) (dY a) b.loose (g e) (cS o _) (fun _=>by have:=l trivial;rw[Q8];omega) (fun _ _=>a.bu.2.1) (S8 k4 b (g e) (by omega));rw[QW (by rw[(gn k).2 B];simp)] at w;have w1:aA (.ext h0 q k') r d=(k',r.drop q.length,d+q.length,true):=QX e;have w2:aA (.ext i q k) r d=(k,r.drop q.length,d+q.length,true):=QX e;rw[w1,w2];refine w.trans ?_;show _=some (if aF q r=q.length then aG k (r.drop q.length) else []);rw[QX e]
    ·have w1:aA (.ext h0 q k') r d=(.nil,[],0,false):=QW e;have w2:aA (.ext i q k) r d=(.nil,[],0,false):=QW e;rw[w1,w2];show iR f .nil [] 0 false ((eG f .nil [] 0).map str) _=some (if aF q r=q.length then _ else []);rw[S9,Oq,QW e];rfl
   |branch h0 v ks'=>
    obtain⟨i,ks,rfl,k4⟩:=k2;cases r with
    |nil=>
     show iR f .nil [] 0 false ((eG f .nil [] 0).map str) _=_;rw[S9,Oq];rfl
    |cons c r=>
     have j:c.toNat<16:=o c (QY ..);have w:=ih (ks' c.toNat) (ks c.toNat) r (d+1) false (Nd.at (.branch h0 v ks') (c::r)) (di a _ j) (b _ j).loose g (fun y F=>o y (QZ _ F)) (fun _=>by have:=l trivial;rw[Ro] at this;omega) (fun h=>by cases h) (S8 (k4 _ j) (b _ j) g (by omega));refine w.trans ?_;show _=some (aG (ks c.toNat) r);by_cases x:(ks c.toNat).isNil=true
     ·rw[QX x];have:ks c.toNat=.nil:=by generalize ks c.toNat=K at*;cases K<;>first|rfl|cases x
      rw[this];rfl
     ·rw[QW x]
  ·have e1:t=.nil:=by cases t<;>first|rfl|exact absurd trivial s
   subst e1;rcases u with⟨_,rfl⟩|⟨h,_⟩|⟨h,_⟩
   ·rfl
   ·exact h.elim
   ·exact h.elim
theorem Tp:∀(f:Nat) (n) (r) (d:Nat) (bl:Bool) (V) (p q:List yB) (a b),iR f n r d bl p V=some a->iR f n r d bl q V=some b->p=q\/∃x y,x∈p/\y∈q/\ai x=ai y/\x≠y:=by
 intro f;have A2:∀{p q:List yB} {V a b:yL},oF p V=some a->oF q V=some b->p=q:=fun {p q V a b} h1 h2=>by
  unfold oF at h1 h2;split at h1
  ·next e1=>
   split at h2
   ·next e2=>rw[e1,e2]
   ·cases h2
  ·cases h1
 induction f with
 |zero=>
  intro n r d bl V p q a b h1 h2;by_cases hn:n.isNil=true
  ·have A0:(if n.isNil=true then oF p V else none)=some a:=h1;have A1:(if n.isNil=true then oF q V else none)=some b:=h2;rw[QX hn] at A0 A1;exact .inl (A2 A0 A1)
  ·have A0:(if n.isNil=true then oF p V else none)=some a:=h1;rw[QW hn] at A0;cases A0
 |succ f ih=>
  intro n r d bl V p q a b h1 h2;have A0:(if n.isNil=true then oF p V else wW (fun t1 q=>iR f (aA t1 r d).1 (aA t1 r d).2.1 (aA t1 r d).2.2.1 (aA t1 r d).2.2.2 q (t1.at r)) (nK n d bl p))=some a:=h1;have A1:(if n.isNil=true then oF q V else wW (fun t1 q=>iR f (aA t1 r d).1 (aA t1 r d).2.1 (aA t1 r d).2.2.1 (aA t1 r d).2.2.2 q (t1.at r)) (nK n d bl q))=some b:=h2;by_cases hn:n.isNil=true
  ·rw[QX hn] at A0 A1;exact .inl (A2 A0 A1)
  ·rw[QW hn] at A0 A1;cases n with
   |nil=>exact absurd rfl hn
   |leaf _ _ _=>exact ih _ _ _ _ _ p q a b A0 A1
   |ext _ _ _=>exact ih _ _ _ _ _ p q a b A0 A1
   |branch _ _ _=>exact ih _ _ _ _ _ p q a b A0 A1
   |unread h=>
    cases p with
    |nil=>cases A0
    |cons x p=>
     cases q with
     |nil=>cases A1
     |cons y q=>
      by_cases A3:x=y
      ·subst A3;cases hx:gh h x.data.toList d bl with
       |error c=>
        have e:nK (.unread h) d bl (x::p)=none:=by
         show(match gh h x.data.toList d bl with| .error _=>none| .ok n=>some (n,p))=none;rw[hx]
        rw[e] at A0;cases A0
       |ok m=>
        have e1:nK (.unread h) d bl (x::p)=some (m,p):=by
         show(match gh h x.data.toList d bl with| .error _=>none| .ok n=>some (n,p))=_;rw[hx]
        have e2:nK (.unread h) d bl (x::q)=some (m,q):=by
         show(match gh h x.data.toList d bl with| .error _=>none| .ok n=>some (n,q))=_;rw[hx]
        rw[e1] at A0;rw[e2] at A1;rcases ih _ _ _ _ _ p q a b A0 A1 with k|⟨u,v,k1,k2,k3⟩
        ·exact .inl (by rw[k])
        ·exact .inr ⟨u,v,QZ _ k1,QZ _ k2,k3⟩
      ·have hh:∀(z:yB) (l:List yB) (c:yL) (g:Nd->List yB->Option yL),wW g (nK (.unread h) d bl (z::l))=some c->ai z=str h:=fun z l c g hz=>by
        cases hx:gh h z.data.toList d bl with
        |error e=>
         have e:nK (.unread h) d bl (z::l)=none:=by
          show(match gh h z.data.toList d bl with| .error _=>none| .ok n=>some (n,l))=none;rw[hx]
         rw[e] at hz;cases hz
        |ok m=>
         have:=(nP hx).2.2.2.2.1;rw[<-this,lW,jc]
       exact .inr ⟨x,y,QY ..,QY ..,(hh x p a _ A0).trans (hh y q b _ A1).symm,A3⟩
theorem Tb:∀(f k n:Nat),n<256 ^ k->(cT f n).length<=k
 | 0,_,_,_=>Ri _
 |f+1,k,n,h=>by
  show(if n=0 then [] else cT f (n / 256)++[UInt8.ofNat (n % 256)]).length<=k
  by_cases h0:n=0
  ·rw[QX h0];exact Ri _
  ·rw[QW h0,Q4,Sa]
   cases k with
   |zero=>have:n<1:=h;omega
   |succ k=>
    have:=Tb f k (n / 256) (Nat.div_lt_of_lt_mul (by rw[Nat.pow_succ,Nat.mul_comm] at h;exact h))
    omega
theorem Tc(a n k:Nat)(h:n<256 ^ k)(b:0<k):(cX a n).length<=k+1:=by
 unfold cX;split
 ·rw[Sa];omega
 ·rw[Ro];have:=Tb 8 k n h;omega
theorem Td(b:yL)(h:b.length<65536):(gG b).length<=b.length+3:=by
 unfold gG;rw[Q4];have:=Tc 192 b.length 2 h (by omega);omega
theorem Te(t:yL)(h:t.length<256):(dg t).length<=t.length+2:=by
 unfold dg;split
 ·omega
 ·rw[Q4];have:=Tc 128 t.length 1 h (by omega);omega
theorem Tf{k}(hF:aI k):(bm 5 k.ref).length<=33:=by
 by_cases hs:k.some
 ·by_cases he:k.hash=[]
  ·have hr:k.read:=by
    cases k with
    |nil=>exact hs.elim
    |unread x=>
     have h2:x.length=32:=hF;rw[show x=[] from he] at h2;cases h2
    | _=>trivial
   have A0:(bm 6 k.item).length<32:=(hF.ET hr).short he;rw[lu hs he];rw[vV 5 _ (lk 4 _ (lk 3 _ (vH k hF hs he)))] at A0;omega
  ·have hl:k.hash.length=32:=by
    cases k with
    |nil=>exact hs.elim
    |unread x=>exact hF
    |leaf _ _ _=>exact hF.1.two.resolve_left he
    |ext _ _ _=>exact hF.1.two.resolve_left he
    |branch _ _ _=>exact hF.1.two.resolve_left he
   rw[js hs he,ir,p8 _ hl];exact QU _
 ·have e1:k=.nil:=by cases k<;>first|rfl|exact absurd trivial hs
  subst e1;show(bm 5 (ay [])).length<=33;rw[ir];decide
theorem Tg{t}(a:aI t)(b:t.read):t.code.length<=693:=by
 cases t with
 |nil=>exact b.elim
 |unread _=>exact b.elim
 |leaf h p v=>
  show(bm 6 (Nd.leaf h p v).item).length<=693;rw[Pj];have h1:=Te (cN p true) (by rw[qy];have:=a.2.2.1;omega);have h2:=Te v (by have:=a.2.2.2;omega);have h3:=a.2.2.1;have h4:=a.2.2.2;rw[qy] at h1;have h5:=Td (dg (cN p true)++dg v) (by rw[Q4];omega);rw[Q4] at h5;omega
 |ext h p k=>
  show(bm 6 (Nd.ext h p k).item).length<=693;rw[Gd];have h1:=Te (cN p false) (by rw[qy];have:=a.2.2.1;omega);have h2:=Tf a.2.2.2.2;have h3:=a.2.2.1;rw[qy] at h1;have h5:=Td (dg (cN p false)++bm 5 k.ref) (by rw[Q4];omega);rw[Q4] at h5;omega
 |branch h v ks=>
  show(bm 6 (Nd.branch h v ks).item).length<=693;rw[zH];have h2:=Te v (by have:=a.2.1;omega);have h4:=a.2.1;have h1:=Fp ((List.range 16).map (fun i=>bm 5 (ks i).ref)) 33 fun c d=>by
   obtain⟨i,hi,rfl⟩:=Rt.1 d;exact Tf (a.2.2 i (Sg.1 hi))
  have h3:(lM 5 v ks).flatten.length<=690:=by
   unfold lM;rw[List.flatten_append,Q4];simp only[List.flatten_cons,List.flatten_nil,Rz];rw[Rr,List.length_range] at h1;omega
  have h5:=Td (lM 5 v ks).flatten (by omega);omega
theorem Th:∀(f:Nat) (t) (r) (d:Nat),aw t d->dw t r->ak r->(eG f t r d).length<=r.length+1/\∀c∈eG f t r d,c.length<=693:=by
 intro f;induction f with
 |zero=>intro t r d _ _ _;exact⟨Ri _,fun c g=>by cases g⟩
 |succ f ih=>
  intro t r d i m l;by_cases j:t.some
  ·have n:t.read:=by cases t<;>first|exact j.elim|exact m.elim|trivial
   have w:eG (f+1) t r d=dZ t d++eG f (aA t r d).1 (aA t r d).2.1 (aA t r d).2.2.1:=QW (by rw[(gn t).2 j];simp);have s:(dZ t d).length<=1/\∀c∈dZ t d,c.length<=693:=by
    unfold dZ;split
    ·exact⟨QU _,fun c g=>by rw[Q2.1 g];exact Tg i.aJ n⟩
    ·exact⟨Ri _,fun c g=>by cases g⟩
   have o:(eG f (aA t r d).1 (aA t r d).2.1 (aA t r d).2.2.1).length<=r.length/\(∀c∈eG f (aA t r d).1 (aA t r d).2.1 (aA t r d).2.2.1,c.length<=693)->(eG (f+1) t r d).length<=r.length+1/\∀c∈eG (f+1) t r d,c.length<=693:=fun⟨a,b⟩=>by
    rw[w];exact⟨by rw[Q4];omega,fun c g=>(Re.1 g).elim (s.2 c) (b c)⟩
   refine o ?_;cases t with
   |nil=>exact j.elim
   |unread _=>exact n.elim
   |leaf h p v=>
    show(eG f .nil [] 0).length<=_/\∀c∈eG f .nil [] 0,_;rw[S9];exact⟨Ri _,fun c g=>by cases g⟩
   |ext h q k=>
    by_cases e:aF q r=q.length
    ·have w2:aA (.ext h q k) r d=(k,r.drop q.length,d+q.length,true):=QX e;have z:q.length≠0:=fun h=>i.bu.1 (Rm.1 h)
     have u:=(g9 q r).2;rw[e] at u;rw[w2];obtain⟨a,b⟩:=ih k (r.drop q.length) (d+q.length) (dY i) (m e) (cS l _);rw[Q8] at a;exact⟨by show(eG f k (r.drop q.length) (d+q.length)).length<=_;omega,b⟩
    ·have w2:aA (.ext h q k) r d=(.nil,[],0,false):=QW e;rw[w2];show(eG f .nil [] 0).length<=_/\∀c∈eG f .nil [] 0,_;rw[S9];exact⟨Ri _,fun c g=>by cases g⟩
   |branch h v ks=>
    cases r with
    |nil=>
     show(eG f .nil [] 0).length<=_/\∀c∈eG f .nil [] 0,_;rw[S9];exact⟨Ri _,fun c g=>by cases g⟩
    |cons c r=>
     have g:c.toNat<16:=l c (QY ..);exact ih (ks c.toNat) r (d+1) (di i _ g) m fun y x=>l y (QZ _ x)
  ·have e1:t=.nil:=by cases t<;>first|rfl|exact absurd trivial j
   subst e1;exact⟨Ri _,fun c g=>by cases g⟩
theorem Ti{t key}(b:aw t 0)(e:bD t)(c:dw t (aC key))(i:key.size<=40)(f:t.some->bM t≠cw):rK (str (bM t)) key ((eG 81 t (aC key) 0).map str)=some (aG t (aC key)):=by
 have g:S7 (cl (bM t)) t 0:=by
  unfold cl;by_cases a:t.some
  ·have d:t.read:=by cases t<;>first|exact a.elim|exact c.elim|trivial
   rw[QW (f a),Kc b.aJ d];exact .inr (.inl ⟨d,rfl,.inl rfl,fun h=>absurd h (Nat.lt_irrefl 0)⟩)
  ·have e1:t=.nil:=by cases t<;>first|rfl|exact absurd trivial a
   subst e1;rw[QX (show bM .nil=cw from rfl)];exact .inl ⟨rfl,rfl⟩
 have h:=Ta 81 (cl (bM t)) t (aC key) 0 false [] b e c (ch key) (fun _=>by rw[gA];omega) (fun h=>by cases h) g;unfold rK;rw[FV,h];cases t<;>first|rfl|exact congrArg some (QW (by simp[Nd.isNil]))
theorem Tq{b key a}(h:gf b key a=0):∃v,rK b key a=some v/\eo b key a=str v:=by
 unfold gf at h;unfold eo;split at h
 ·cases h
 ·next h1=>
  rw[QW h1];split at h
  ·cases h
  ·next h2=>
   rw[QW h2];cases hv:rK b key a with
   |none=>rw[hv] at h;cases h
   |some v=>exact⟨v,rfl,rfl⟩
theorem Tr{b key a}(h:gf b key a≠0):eo b key a=⟨#[]⟩:=by
 unfold gf at h;unfold eo;split
 ·rfl
 ·next h1=>
  rw[QW h1] at h;split
  ·rfl
  ·next h2=>
   rw[QW h2] at h;cases hv:rK b key a with
   |none=>rfl
   |some v=>rw[hv] at h;exact absurd rfl h
theorem Tj{d key:yB}{c v}(h1:d.size=32)(h2:key.size<=40)(h3:jV c=false)(h:rK d key c=some v):gf d key c=0/\eo d key c=str v:=by
 have a:¬d.size≠32:=fun k=>k h1
 have b:¬(40<key.size\/jV c=true):=by rw[h3];rintro (k|k);omega;cases k
 unfold gf eo;rw[QW a,QW b,QW a,QW b,h];exact⟨rfl,rfl⟩
theorem Tk{t key}(d:aw t 0)(f:dw t (aC key))(h:key.size<=40):jV ((eG 81 t (aC key) 0).map str)=false:=by
 obtain⟨a,b⟩:=Th 81 t (aC key) 0 d f (ch key);rw[gA] at a;unfold jV;rw[Bool.or_eq_false_iff];refine⟨Q9 (by rw[Rr];omega),List.any_eq_false.2 fun p g=>?_⟩;obtain⟨c,e,rfl⟩:=Rt.1 g;have:=b c e;rw[SD,aH];omega
theorem Tl(a:Bool)(e:Int):bQ a true e=true:=by unfold bQ;simp
theorem Tm{m key}:str (dj m key).data.toList=dj m key:=by unfold str;simp
theorem fC.told{G}{b:Prop}{t m base Q F}(h:fC G b t m base Q F)(key)(a:dw t (aC key)):str (aG t (aC key))=dj m key:=by
 rw[h.part.find a (ch key),h.tree.find _ (ch key),sI,Tm]
theorem Tn{G t}{key:yB}(h40:¬40<key.size):bg G t key=(aE G t key).1/\cE G t key=(aE G t key).2:=by
 unfold bg cE;rw[QW h40,QW h40];exact⟨rfl,rfl⟩
theorem To{G p i t m base}(d:aw t 0)(o:bD t)(key)(h:i=true\/jE G (p=true) t m base):qt G p i t m key=true:=by
 unfold qt;by_cases h40:40<key.size
 ·rw[QX h40]
 ·obtain⟨g1,g2⟩:=Tn (G:=G) (t:=t) h40;rw[QW h40,g1,g2];by_cases h0:(aE G t key).2=0
  ·rw[QW (by simpa using h0)];have f:=kA G t key d (by omega) h0;have e:=jf G t key d;have q:=nS G t key d o;have n:bj G t key=eG 81 (aE G t key).1 (aC key) 0:=by unfold bj;rw[QW h40,QX h0]
   have r:i=true\/str (aG (aE G t key).1 (aC key))=dj m key:=h.imp id fun⟨Q,F,j⟩=>(j.opened d key).1.told key f
   rw[n];clear h n g1 g2 h0 d o;generalize (aE G t key).1=t1 at*;obtain⟨a,b⟩:=Th 81 t1 (aC key) 0 e f (ch key);rw[gA] at a;unfold qu;rw[QW (by rw[Rr];omega),QW (by
    rw[List.any_eq_true];rintro ⟨x,u,v⟩;obtain⟨c,l,rfl⟩:=Rt.1 u;have:=b c l;rw[SD,aH] at v;omega)]
   by_cases g:t1.some/\bM t1=cw
   ·have s:t1.read:=by cases t1<;>first|exact g.1.elim|exact f.elim|trivial
    have l:=SN e.aJ s g.2 ((eG 80 (aA t1 (aC key) 0).1 (aA t1 (aC key) 0).2.1 (aA t1 (aC key) 0).2.2.1).map str);rw[SO g.1 _ 80,List.map_cons,QX l];split<;>rfl
   ·obtain⟨v1,v2⟩:=Tj (by rw[aH,oV e.aJ]) (by omega) (Tk e f (by omega)) (Ti e q f (by omega) fun a b=>g ⟨a,b⟩);rw[v1,v2];rcases r with k|k
    ·rw[k];split
     ·rfl
     ·split<;>rfl
    ·rw[QX ⟨rfl,k⟩]
  ·rw[QX h0];rcases h with k|⟨Q,F,j⟩
   ·rw[k];exact Tl _ _
   ·exact yt i (j.opened d key).2 h0
theorem Ts{G u f t m base}(c:aw t 0)(r:bD t)(key)(q:List yB)(h:f=true\/jE G (u=true) t m base):Fi G u f t m key q=true:=by
 unfold Fi;by_cases h40:40<key.size
 ·rw[QX h40]
 ·obtain⟨g1,g2⟩:=Tn (G:=G) (t:=t) h40;rw[QW h40,g1,g2];by_cases h0:(aE G t key).2=0
  ·rw[QW (by simpa using h0)];have n:=kA G t key c (by omega) h0;have p:=jf G t key c;have w:=nS G t key c r;have o:bj G t key=eG 81 (aE G t key).1 (aC key) 0:=by unfold bj;rw[QW h40,QX h0]
   have z:f=true\/str (aG (aE G t key).1 (aC key))=dj m key:=h.imp id fun⟨Q,F,g⟩=>(g.opened c key).1.told key n
   rw[o];clear h o g1 g2 h0 c r;generalize (aE G t key).1=t1 at*;unfold Fj;by_cases e:gf (str (bM t1)) key q≠0
   ·rw[QX e,Tr e];exact(gH _).mpr rfl
   ·rw[QW e];obtain⟨v,e1,e2⟩:=Tq (Classical.not_not.1 e);rw[e2];by_cases d:t1.some/\bM t1=cw
    ·have B:t1.read:=by cases t1<;>first|exact d.1.elim|exact n.elim|trivial
     have l:=SN p.aJ B d.2 ((eG 80 (aA t1 (aC key) 0).1 (aA t1 (aC key) 0).2.1 (aA t1 (aC key) 0).2.2.1).map str++q);rw[SO d.1 _ 80,List.map_cons,List.cons_append,QX l];split<;>rfl
    ·have e3:=Ti p w n (by omega) fun a b=>d ⟨a,b⟩
     rcases z with k|k
     ·rw[k];split
      ·rfl
      ·split<;>rfl
     ·rcases Tp 81 _ _ _ _ _ _ _ _ _ e3 e1 with k2|⟨x,y,k1,k2,k3,k4⟩
      ·rw[<-k2,e3] at e1;rw[<-Option.some.inj e1,QX k]
      ·generalize (eG 81 t1 (aC key) 0).map str=cs at*;obtain⟨i,hi⟩:=List.getElem?_of_mem k1;obtain⟨j,s⟩:=List.getElem?_of_mem k2;have A:=(Rb.1 hi).1;have C:=(Rb.1 s).1;have l:cQ (cs++q++[aX]) (cs++q++[aX]).length=true:=by
        refine kj (i:=cs.length+j) (j:=i) (x:=y) (y:=x) (by rw[Q4,Q4];omega) (by omega) ?_ ?_ k3.symm (fun h=>k4 h.symm)
        ·rw[RA (by rw[Q4];omega),RY (by omega),Nat.add_sub_cancel_left];exact s
        ·rw[RA (by rw[Q4];omega),RA A];exact hi
       rw[QX l];split<;>rfl
  ·rw[QX h0];rcases h with k|⟨Q,F,g⟩
   ·rw[k];exact Tl _ _
   ·exact yt f (g.opened c key).2 h0
theorem JS{l w R i g}(h:bS l w R i g)(k x y z:Int)(f:Rg y)(s t:yB)(c:s.size<=1073741824)(d:t.size<=1073741824)(a:R.N+9000<4000000000)(b:aR R.m+2<1000000000):
 Calls yP 29 #[pV (qA R.rb),fX k x y z s t] w fun e w'=>bE e/\dE l w R i g 5000 w':=by
 by_cases q:k=31\/k=32
 ·exact rwrite1 h k x y z q f s t c d a b
 ·exact rwrite2 h k x y z ⟨fun e=>q (.inl e),fun e=>q (.inr e)⟩ f s t c d a b
def rz(a:Nat)(d:Dt)(n0:Nat)(k x y z:Int)(s t:yB)(W:World):Prop:=∃l,Inv a l W d/\gY W n0 k x y z s t/\l n0=0
theorem rz.idle{e d n0}{k x y z:Int}{s t W a}(h:rz e d n0 k x y z s t W)(c:yW W a):rz e d n0 k x y z s t a:=by
 obtain⟨l,f,b,g⟩:=h;exact⟨_,f.idle (Mv.below (dT []) l c),b.below c,(j5 b.lt).trans g⟩
structure GP(wb:Nat)(d:Dt)(L a b s:Nat)(R:bN)(n0:Nat)(k x y z:Int)(st tt:yB)(W:World)(l:Nat->Nat)(d1:Dt)(R1:bN):Prop where
 inv:Inv wb l W d1
 cn:fG L a b s d1
 same:gL d d1
 mem:R1∈d1.aB
 rb:R1.rb=R.rb
 bx:gY W n0 k x y z st tt
 lb:l n0=0
theorem yr{T l l' W a n}{k x y z:Int}{s t}(h:gY W n k x y z s t)(b:l n=0)(m:Mv T l l' W a)(h0:¬T 0):gY a n k x y z s t/\l' n=0:=⟨h.mv b m h0,(m.aM n h.lt).trans b⟩
theorem Inv.after{g l w w' d}(h:Inv g l w d){R}(e:R∈d.aB){L a b s K}(f:fG L a b s d)(k:dE l w R (d.us R.sb) (d.ps R.sb) K w'):∃l' d',Inv g l' w' d'/\fG L (a+K) (b+2) s d'/\gL d d':=by
 obtain⟨l',i,m,p,c,j,o⟩:=k;have n:=(f.hw R e).2;exact⟨l',_,h.oX e c.iI m p,(f.put h e c.iI j o (by rw[c.base];exact n) (by rw[c.seen];exact QU _:i.seen.length<=R.seen.length+0)),⟨rfl,rfl,rfl,rfl,fun _ _=>rfl⟩⟩
theorem Kl{G l w d}(h:Inv G l w d){L a b s}(S:fG L a b s d)(ha:a+9000<4000000000)(hb:b+2<=500000)(hL:L+1<1000000)(C8:s+2<1000000)(k x y z:Int)(M:Rg x)(hy:Rg y)(F u:yB)(h1:F.size<=1073741824)(h2:u.size<=1073741824):
 Calls yP 9 #[pV (qA G),fX k x y z F u] w fun e w'=>bE e/\∃l' r,Inv G l' w' r/\fG (L+1) (a+6000) (b+2) (s+2) r/\gL d r:=by
 obtain⟨ar,cr,A2⟩:=h.BR;have C7:=S.len;obtain⟨R,hR⟩:∃R:bN,R=d.aB.getD (bO x d.aB.length) ⟨0,0,0,0,0,[],0,lV none 0 0,[],lV none 0 0,[],lV none 0 0,[],false⟩:=⟨_,rfl⟩
 have B7:0<d.aB.length->d.aB[bO x d.aB.length]? =some R:=fun h0=>by
  rw[hR,Q3,QV (kz x _ h0)];rfl
 have J:0<d.aB.length->R∈d.aB:=fun h0=>Rv (B7 h0)
 obtain⟨Y,cs,A3⟩:∃Y cs,0<d.aB.length->R.sv=lV Y R.seen.length cs:=by
  by_cases h0:0<d.aB.length
  ·obtain⟨Y,cs,A3,_⟩:=dr (h.rl R (J h0)).y.sn;exact⟨Y,cs,fun _=>A3⟩
  ·exact⟨none,0,fun h1=>absurd h1 h0⟩
 have q:∀W,(∃l' r,Inv G l' W r/\fG (L+1) (a+6000) (b+2) (s+2) r/\gL d r)=(∃l' r,Inv G l' W r/\fG (L+1) (a+6000) (b+2) (s+2) r/\gL d r):=fun _=>rfl
 have hcut:∀{l:Nat->Nat} {W W':World},yW W W'->Mv (fun _=>False) l (fA l W.heap.size) W W':=fun hb=>Mv.below _ _ hb
 unfold fX;refine(Kk w G R.rb d.aB.length cr R.seen.length cs ar Y k x y z F u (str cw) (ai u) (by omega)
  (rz G d w.heap.size k x y z F u) (fun W=>∃l d1 o,GP G d L a b (s+2) R w.heap.size k x y z F u W l d1 o) (fun W=>∃l' r,Inv G l' W r/\fG (L+1) (a+6000) (b+2) (s+2) r/\gL d r)
  (fun A W=>∃l0 w0,Inv G l0 w0 d/\A=w0.heap.size/\yW w0 W/\eI W A (fun _=>lV none 0 0) [])
  (fun A n W=>∃l T,Inv G l W d/\SX l W n A T [T] 1 (fun _=>lV none 0 0) []/\(∀C∈d.ao,C.sb≠A)/\(∀Q∈d.aB,Q.sb≠A/\Q.sp≠n))
  (fun a1 n1 c1 W=>∃l d1 o,GP G d L a b (s+1) R w.heap.size k x y z F u W l d1 o/\o.sv=lV a1 n1 c1)
  ?_ ?_ ?_ ?_ ?_ ?_ ?_ ?_ ?_ ?_ ?_ ?_ ?_ ?_ ?_ ?_ ?_ ?_ ?_ ?_ ?_ ?_ ?_).mono ?_
 ·have C1:yW w (w.alloc (.cells #[iV .i64 k,iV .i64 x,iV .i64 y,iV .i64 z,sV F,sV u] 33)):=(Q1 _ _).alloc (QU _) _;exact⟨_,h.idle (Mv.below (dT []) l C1),gY.new w k x y z F u,nr (QU _)⟩
 ·obtain⟨_,k1,kw,_⟩:=h.pU;rw[A2] at k1;exact⟨k1,kw⟩
 ·rintro W ⟨l,p,f,_⟩;obtain⟨_,k1,kw,_⟩:=p.pU;rw[A2] at k1;obtain⟨b0,b1,_,_,b4,b5⟩:=f.cells;exact⟨⟨k1,kw⟩,b0,b1,b4,b5,f.lt⟩
 ·intro W n p;exact p.idle (gB (Q1 _ _) n)
 ·rintro W ⟨l,p,_,_⟩;refine(so 3 W).mono ?_;rintro e w1 ⟨v,hP,E⟩;exact⟨_,v,l,W,p,rfl,E,yn p.bt.size hP⟩
 ·rintro A W ⟨l0,w0,p,e1,E,hs⟩;refine(og W (p.bt.below E)).mono ?_;rintro e w' ⟨v,O⟩;exact⟨v,l0,w0,p,e1,E.trans (O.mono E.size),hs.below O⟩
 ·rintro A W ⟨l0,w0,p,e1,E,hs⟩;have hm:∀x,bW A (fun _=>Value.slice none 0 0) x->x=A:=fun x M=>by
   rcases M with h|⟨c,_,h⟩
   ·exact h
   ·simp[Value.ownBlock] at h
  have m1:Mv (fun _=>False) l0 (fun x=>if x<w0.heap.size then l0 x else if x=A then pr A 0 else 0) w0 W:=⟨E.os,E.tape,E.output,E.size,fun k hk=>QX hk,fun k hk _=>E.block k hk⟩
  refine(xH hs (l:=fun x=>if x<w0.heap.size then l0 x else if x=A then pr A 0 else 0) (fun x M=>by rw[hm x M,e1];simp) (p.bt.below E) (fun k hk=>by
   have:=p.bt.size;rw[QX (by omega)];exact p.l3 k hk) _ (by rw[aH];exact jY _)).mono ?_
  rintro e w' ⟨n,T,l',v,hn,m,A4⟩;refine⟨n,v,l',T,p.idle ((m1.trans m).jb _),A4,fun C hC e=>?_,fun Q q=>⟨fun e=>?_,fun e=>?_⟩⟩
  ·have:=kQ (p.gK hC).2.2.1;omega
  ·have:=kQ (p.ky q).2.2.2;omega
  ·have:=kQ (p.ky q).2.2.1;have:=E.size;omega
 ·rintro A n W ⟨l,T,p,_⟩;obtain⟨_,k1,kw,_⟩:=p.pU;rw[A2] at k1;exact⟨k1,kw⟩
 ·rintro A n W ⟨l,T,p,hX,B6,A8⟩;obtain⟨X,A7⟩:∃X,X=W.alloc (.cells #[bV false] 61):=⟨_,rfl⟩
  have z1:X.heap.size=W.heap.size+1:=by rw[A7];exact mM W _
  have m1:Mv (fun _=>False) l (eN l W.heap.size (pr W.heap.size 0)) W X:=by rw[A7];exact Mv.pH l W _ _
  have B5:=p.idle (m1.jb _);have C0:=hX.move m1 id id fun _=>id
  obtain⟨t,D⟩:∃t:bN,t=⟨X.heap.size,A,n,T,W.heap.size,[T],1,lV none 0 0,[],lV none 0 0,[],lV none 0 0,[],false⟩:=⟨_,rfl⟩
  have C3:Af (eN l W.heap.size (pr W.heap.size 0)) X t (fun _=>lV none 0 0) []:=by
   rw[D];exact⟨C0,⟨RO _ _ _ _,fun _ h=>by cases h⟩,⟨(fun g hg=>by cases hg),fun _ h=>by cases h⟩,RO _ _ _ _,(fun _ h=>by cases h),(by show 0<_;decide),(by show 0<_;decide),⟨rfl,rfl⟩⟩
  obtain⟨U,V,w',I,C6,A1,l',mA,Z⟩:=Dj B5 C3 (by rw[D]) (by rw[D];exact fun g hg=>by cases hg) (by rw[D,A7];exact py W _) (by rw[D];exact nM (QU _)) (by omega) (by rw[D];exact fun Q q=>(A8 Q q).2) ⟨by rw[D];exact B6,by rw[D];exact fun Q q e=>absurd e (A8 Q q).1⟩;rw[D] at I;simp only at I;rw[A2,A7] at I;have H:w'.heap[G]? =some (.cells #[d.bv,d.rv] 30 (0,0)):=A1.trans B5.wo.ah;rw[show(W.alloc (.cells #[bV false] 61)).heap.size=W.heap.size+1 from mM W _] at I;refine⟨U,_,V,w',_,I,⟨by rw[Q5 w' G 1 _ _ _ H];rfl,Rx w' G 1 _ _ H,(Q0.1 H).1⟩,l',_,Z,?_,?_⟩
  ·have B3:∀Q∈d.aB++[t],Q∈d.aB\/Q=t:=fun Q q=>by
    rcases Re.1 q with h1|h1
    ·exact .inl h1
    ·exact .inr (Q2.1 h1)
   refine⟨by show(d.aB++[t]).length<=_;rw[Q4,Sa];omega,fun Q q=>?_,fun Q q=>?_,fun Q q=>?_⟩
   ·show(bf d.ps t.sb [] Q.sb).length+dm Q.sb (d.aB++[t])<=_;rw[xm];have h1:dm Q.sb [t]<=1:=by
     show(if t.sb=Q.sb then t.N else 0)+0<=1;have:t.N=1:=by rw[D]
     rw[this];split<;>omega
    rcases B3 Q q with q|e
    ·have C2:Q.sb≠t.sb:=by rw[D];exact(A8 Q q).1
     rw[cZ _ _ C2];have:=S.fN Q q;omega
    ·rw[e] at h1⊢;rw[de];have h5:dm t.sb d.aB=0:=by
      have h6:∀rs:List bN,(∀Q∈rs,Q.sb≠t.sb)->dm t.sb rs=0:=by
       intro rs B9;induction rs with
       |nil=>rfl
       |cons P rs ih=>
        show(if P.sb=t.sb then P.N else 0)+dm t.sb rs=0;rw[QW (B9 P (QY ..)),ih fun Q q=>B9 Q (QZ _ q)]
      exact h6 d.aB fun Q q=>by rw[D];exact(A8 Q q).1
     show 0+(dm t.sb d.aB+dm t.sb [t])<=_;omega
   ·rcases B3 Q q with q|e
    ·have:=S.hw Q q;exact⟨by omega,by omega⟩
    ·rw[e,D];exact⟨Ri _,Ri _⟩
   ·rcases B3 Q q with q|e
    ·have:=S.sn Q q;omega
    ·rw[e,D];exact Ri _
  ·exact⟨rfl,rfl,rfl,rfl,fun B f=>cZ _ _ (by rw[D];exact B6 B f)⟩
 ·rintro W ⟨l,p,_,_⟩ _;exact⟨l,d,p,S.mono (by omega) (by omega) (by omega) (by omega),gL.refl d⟩
 ·intro W h0;exact pk x _ M h0 (by omega) W
 ·rintro W ⟨l,p,_,_⟩ h0;exact p.Cd A2 (B7 h0)
 ·rintro W ⟨l,p,f,hl⟩;refine(iE u (by unfold maxLen;omega) W p.bt).mono ?_;rintro e w' ⟨v,B1⟩;exact⟨v,rz.idle ⟨l,p,f,hl⟩ B1⟩
 ·rintro W ⟨l,p,_,_⟩ h0;obtain⟨_,_,_,_,c4,_⟩:=(p.rl R (J h0)).y.cells;rw[A3 h0] at c4;exact⟨c4,(p.rl R (J h0)).y.ij⟩
 ·rintro W ⟨l,p,f,hl⟩ h0;have mD:Mv (fun _=>False) l l W W.drew:=Mv.tg l W 1 _;have B0:=p.idle (mD.jb _);have A5:=B0.rl R (J h0);have C4:=S.sn R (J h0);obtain⟨U,n',V,w',l',I,m,A1,mm,A4⟩:=A5.Ch F h1 (by omega);rw[A3 h0] at I;have A6:¬((0:Nat)=pr R.rb 0):=fun e=>by have:=ie R.rb 0;omega
  have B4:gY W.drew w.heap.size k x y z F u:=f;have E:=yr B4 hl m A6;have O:=yr B4 hl mm A6;have H:w'.heap[R.rb]? =_:=A1.trans A5.y.ah;have A0:kg R {R with sv:=lV U n' V,seen:=R.seen++[F]}:=⟨rfl,rfl,rfl,rfl⟩
  have Z:=B0.oX (J h0) A0 (mm.mono fun x M=>.inr (.inl M)) A4;have B2:=S.put B0 (J h0) A0 (K:=0) (j:=0) (i:=1) (QU _) (QU _) (S.hw R (J h0)).2 (by show(R.seen++[F]).length<=_;simp);refine⟨U,n',V,w',I,⟨⟨?_,?_⟩,Rx w' R.rb 4 _ _ H,(Q0.1 H).1⟩,l',_,_,⟨Z,B2,⟨rfl,rfl,rfl,rfl,fun _ _=>rfl⟩,Rt.2 ⟨R,J h0,rfl⟩,?_,O.1,O.2⟩,?_⟩
  ·rw[Q5 w' R.rb 4 _ _ _ H,A3 h0];rfl
  ·exact E.1.cells.2.2.2.2.1
  ·unfold fc;rw[QX rfl]
  ·unfold fc;rw[QX rfl]
 ·rintro a1 n1 c1 W ⟨l,d1,o,f,e⟩;have A9:=f.inv.rl o f.mem;obtain⟨_,_,_,_,c4,_⟩:=A9.y.cells;have B8:=A9.y.ij;rw[f.rb] at c4 B8;rw[e] at c4;exact⟨c4,B8⟩
 ·rintro a1 n1 c1 W ⟨l,d1,o,f,e⟩;have A5:=f.inv.rl o f.mem;have C4:=f.cn.sn o f.mem;obtain⟨U,n',V,w',l',I,m,A1,mm,A4⟩:=A5.Ch (ai u) (by have:(ai u).size=32:=eL _;omega) (by omega);rw[e] at I;have A6:¬((0:Nat)=pr o.rb 0):=fun e=>by have:=ie o.rb 0;omega
  have O:=yr f.bx f.lb mm A6;have H:w'.heap[o.rb]? =_:=A1.trans A5.y.ah;have A0:kg o {o with sv:=lV U n' V,seen:=o.seen++[ai u]}:=⟨rfl,rfl,rfl,rfl⟩
  have Z:=f.inv.oX f.mem A0 (mm.mono fun x M=>.inr (.inl M)) A4;have B2:=f.cn.put f.inv f.mem A0 (K:=0) (j:=0) (i:=1) (QU _) (QU _) (f.cn.hw o f.mem).2 (by show(o.seen++[ai u]).length<=_;simp);rw[<-f.rb];refine⟨U,n',V,w',_,I,⟨by rw[Q5 w' o.rb 4 _ _ _ H];rfl,Rx w' o.rb 4 _ _ H,(Q0.1 H).1⟩,l',_,_,⟨Z,B2,f.same.trans ⟨rfl,rfl,rfl,rfl,fun _ _=>rfl⟩,Rt.2 ⟨o,f.mem,rfl⟩,?_,O.1,O.2⟩⟩;unfold fc;rw[QX rfl];exact f.rb
 ·rintro W ⟨l,d1,o,f⟩;obtain⟨b0,b1,b2,b3,b4,b5⟩:=f.bx.cells;exact⟨b0,b1,b2,b3,b4,b5,f.bx.lt⟩
 ·rintro W ⟨l,d1,o,f⟩ _;have A9:=f.inv.rl o f.mem;have hN:=(f.cn.N f.mem).1;have hm:oL l W o (d1.us o.sb) (d1.ps o.sb) 0 W:=⟨l,o,Mv.refl _ _ _,A9,ke.refl o,QU _,by omega⟩
  have:=hm.asks F (ai u) h1 (by have:(ai u).size=32:=eL _;omega) (by omega);rw[f.rb] at this;refine this.mono ?_;rintro e w' ⟨v,hT⟩;obtain⟨l',r,h3,h4,h5⟩:=f.inv.after f.mem f.cn hT;exact⟨v,l',r,h3,h4.mono (by omega) (by omega) (QU _) (QU _),f.same.trans h5⟩
 ·rintro W ⟨l,d1,o,f⟩ _;have:=Pq f.inv f.mem f.cn (by omega) (by omega) (by omega);rw[f.rb] at this;refine this.mono ?_;rintro e w' ⟨v,l',r,h3,h4,h5⟩;exact⟨v,l',r,h3,h4.mono (QU _) (by omega) (by omega) (QU _),f.same.trans h5⟩
 ·rintro W ⟨l,d1,o,f⟩ _;have:=QA (f.inv.rl o f.mem) (by have:=(f.cn.hw o f.mem).1;omega) y hy;rw[f.rb] at this;refine this.mono ?_;rintro e w' ⟨v,B1⟩;exact⟨v,_,d1,f.inv.idle ((hcut B1).jb _),f.cn.mono (by omega) (by omega) (by omega) (QU _),f.same⟩
 ·rintro W ⟨l,d1,o,f⟩ _;have hN:=(f.cn.N f.mem).1;have:=Jy (f.inv.rl o f.mem) F (ai u) h1 (by have:(ai u).size=32:=eL _;omega) (by omega) (by have:=(f.cn.hw o f.mem).1;omega);rw[f.rb] at this;refine this.mono ?_;rintro e w' ⟨v,hT⟩;obtain⟨l',r,h3,h4,h5⟩:=f.inv.after f.mem f.cn hT;exact⟨v,l',r,h3,h4.mono (by omega) (by omega) (QU _) (QU _),f.same.trans h5⟩
 ·rintro W ⟨l,d1,o,f⟩;have hN:=(f.cn.N f.mem).1;have C5:=(f.cn.hw o f.mem).1;have:=JS (f.inv.rl o f.mem) k x y z hy F u h1 h2 (by omega) (by omega);rw[f.rb] at this;refine this.mono ?_;rintro e w' ⟨v,hT⟩;obtain⟨l',r,h3,h4,h5⟩:=f.inv.after f.mem f.cn hT;exact⟨v,l',r,h3,h4.mono (by omega) (by omega) (QU _) (QU _),f.same.trans h5⟩
 ·rintro e w' ⟨h3,h4⟩;exact⟨h3,h4.out⟩
def BQ(a:Nat)(d:Dt)(n c:Nat)(W:World):Prop:=∃l' d',Inv a l' W d'/\fS n c d'/\Sem d'/\RS d d'
theorem Inv.tv{g l w w' d}(h:Inv g l w d){B}(f:B∈d.ao){n c e a}(p:fS n c d)(i:Sem d)(h1:n<=e)(h2:c<=a){t m mv}(j:e8 l (eP B) w {B with t:=t,m:=m,mv:=mv} w')(q:m.length<=e)(r:cO iT t<=12*a)(k:d.ag B.hb=true\/jE (ae (d.ps B.sb)) (d.yes B.hb=true) t m B.base):BQ g d e a w':=by
 obtain⟨l',S',s,o⟩:=j;have b:rF B {B with t:=t,m:=m,mv:=mv}:=⟨rfl,rfl,rfl,rfl⟩
 exact⟨l',_,h.book f b s o,p.put h1 h2 f b q rfl r,i.put b k,⟨rfl,rfl,fun _ _=>rfl⟩⟩
theorem Sem.cases{d}(h:Sem d){B}(a:B∈d.ao):d.ag B.hb=true\/∃Q F,fC (ae (d.ps B.sb)) (d.yes B.hb=true) B.t B.m B.base Q F:=h B a
theorem MR{u l w d}(h:Inv u l w d){B}(g:B∈d.ao)(i:Sem d)(k y:Int)(s r){d1}(b:d1=d.cI B.sb B.hb (d.yes B.hb || decide (d.ps B.sb≠[])) (d.ag B.hb) r (jj (d.ps B.sb) k y s)):Sem (d1.cI B.sb B.hb (d1.yes B.hb) (pW d1 B) (d1.us B.sb) (d1.ps B.sb)):=by
 have q1:d1.ao=d.ao:=by rw[b];rfl
 have q2:d1.ag B.hb=d.ag B.hb:=by rw[b];exact de _ _ _
 have q3:d1.yes B.hb=(d.yes B.hb || decide (d.ps B.sb≠[])):=by rw[b];exact de _ _ _
 have q4:d1.ps B.sb=jj (d.ps B.sb) k y s:=by rw[b];exact de _ _ _
 have q5:∀C:dI,C.hb≠B.hb->d1.ag C.hb=d.ag C.hb/\d1.yes C.hb=d.yes C.hb:=fun C e=>by rw[b];exact⟨cZ _ _ e,cZ _ _ e⟩
 have q6:∀C:dI,C.sb≠B.sb->d1.ps C.sb=d.ps C.sb:=fun C e=>by rw[b];exact cZ _ _ e
 intro C n;have f:C∈d.ao:=by rw[<-q1];exact n
 show bf d1.ag B.hb _ C.hb=true\/jE (ae (bf d1.ps B.sb _ C.sb)) (bf d1.yes B.hb _ C.hb=true) C.t C.m C.base;rw[jN,jN];by_cases e:C.hb=B.hb
 ·have e2:=(h.hs C f B g).1 e;rw[e,de];cases hw:pW d1 B with
  |true=>exact .inl rfl
  |false=>
   right;obtain⟨f1,f2⟩:=AE hw;rw[q2] at f1;rcases i.cases f with k1|⟨Q,F,a⟩
   ·rw[e,f1] at k1;cases k1
   ·have p:=f2 C (by rw[q1];exact f) e;rw[e2,q3];rw[e,e2] at a;by_cases j:d.ps B.sb=[]
    ·have q:jj (d.ps B.sb) k y s=d.ps B.sb:=by rw[j];unfold jj;simp
     rw[q4,q];refine⟨Q,F,a.tree,a.part,fun c o=>?_,a.mH⟩;rcases a.sure c o with k2|⟨k2,k3⟩
     ·exact .inl k2
     ·exact .inr ⟨by rw[k2];rfl,k3⟩
    ·exact⟨Q,F,a.N9 p (by rw[Ra j,Bool.or_true])⟩
 ·have e2:C.sb≠B.sb:=fun k=>e ((h.hs C f B g).2 k)
  rw[cZ _ _ e,(q5 C e).1,(q5 C e).2,q6 C e2];exact i C f
theorem PY{p l W d}(g:Inv p l W d){B}(f:B∈d.ao){n c}(h:fS n c d)(j:Sem d)(s t:yB)(w:c+(7+s.size+t.size)<=1048576)(y:n+1<200000):
 Calls yP 14 #[pV (qA B.bb),sV s,sV t] W fun e w'=>∃b,e=rV (bV b)/\BQ p d (n+1) (c+(7+s.size+t.size)) w':=by
 have o:s.size<=maxLen/\t.size<=maxLen/\s.size<=1048576/\t.size<=1048576:=by unfold maxLen;omega
 have v:∀{a:Nat},a<=12*c+(12*s.size+84)->a<=12*(c+(7+s.size+t.size)):=fun x=>by omega
 obtain⟨S,k⟩:=g.bk B f;have i:=k.tr.ok;refine(Nh k (g.cI B f) (g.od f) g.bt g.l3 s t o.1 o.2.1 (by have:=(h.mm B f).1;omega)).mono ?_;rintro e w' ⟨u,mv,r⟩;have key:d.ag B.hb=true\/jE (ae (d.ps B.sb)) (d.yes B.hb=true) (l7 (ae (d.ps B.sb)) B.t s t) (l5 (ae (d.ps B.sb)) B.t B.m s t) B.base:=by
  rcases j.cases f with k1|⟨Q,F,q⟩
  ·exact .inl k1
  ·exact .inr (q.Ks i s t)
 refine⟨_,u,g.tv f h j (by omega) (by omega) r ?_ (v ?_) key⟩
 ·have h1:=(h.mm B f).1;have h2:=tS B.m s t;unfold l5;split<;>omega
 ·have h1:=h.nm B f;have h2:=Mi iT (ae (d.ps B.sb)) B.t s t i;have h3:=qD iT (ae (d.ps B.sb)) _ s (Kv (G:=ae (d.ps B.sb)) (key:=s) (value:=t) i);unfold l7;split<;>omega
theorem Qq{p l W d}(g:Inv p l W d){B}(f:B∈d.ao){n c}(i:fS n c d)(o:Sem d)(s t:yB)(x:c+(7+s.size+t.size)<=1048576)(z:n+1<200000):
 Calls yP 15 #[pV (qA B.bb),sV s] W fun e w'=>∃b,e=rV (bV b)/\BQ p d (n+1) (c+(7+s.size+t.size)) w':=by
 have w:s.size<=maxLen/\t.size<=maxLen/\s.size<=1048576/\t.size<=1048576:=by unfold maxLen;omega
 have v:∀{a:Nat},a<=12*c+(12*s.size+84)->a<=12*(c+(7+s.size+t.size)):=fun y=>by omega
 obtain⟨S,h⟩:=g.bk B f;have j:=h.tr.ok;refine(NA h (g.cI B f) (g.od f) g.bt g.l3 s w.1 (by have:=(i.mm B f).1;omega)).mono ?_;rintro e w' ⟨u,mv,r⟩;have k:=OS (G:=ae (d.ps B.sb)) (key:=s) j h.loose;have key:d.ag B.hb=true\/jE (ae (d.ps B.sb)) (d.yes B.hb=true) (lK (ae (d.ps B.sb)) B.t B.m s) (lJ (ae (d.ps B.sb)) B.t B.m s) B.base:=by
  rcases o.cases f with k1|⟨Q,F,q⟩
  ·exact .inl k1
  ·exact .inr (q.OY j h.loose k)
 refine⟨_,u,g.tv f i o (by omega) (by omega) r ?_ (v ?_) key⟩
 ·have h1:=(i.mm B f).1;have h2:=tS B.m s ⟨#[]⟩;unfold lJ;split<;>omega
 ·have h1:=i.nm B f;have h2:=Mk iT (ae (d.ps B.sb)) B.t s j;have h3:=qD iT (ae (d.ps B.sb)) _ s k;unfold lK;split<;>omega
theorem PU{o l W d}(g:Inv o l W d){B}(f:B∈d.ao){n c}(h:fS n c d)(j:Sem d)(s t:yB)(w:c+(7+s.size+t.size)<=1048576):
 Calls yP 16 #[pV (qA B.bb),sV s] W fun e w'=>∃b,e=rV (bV b)/\BQ o d (n+1) (c+(7+s.size+t.size)) w':=by
 have v:s.size<=maxLen/\t.size<=maxLen/\s.size<=1048576/\t.size<=1048576:=by unfold maxLen;omega
 have u:∀{a:Nat},a<=12*c+(12*s.size+84)->a<=12*(c+(7+s.size+t.size)):=fun x=>by omega
 obtain⟨S,k⟩:=g.bk B f;have i:=k.tr.ok;refine(yK k (g.cI B f) (g.od f) g.bt s v.1).mono ?_;rintro e w' ⟨r,q⟩;have key:d.ag B.hb=true\/jE (ae (d.ps B.sb)) (d.yes B.hb=true) (bg (ae (d.ps B.sb)) B.t s) B.m B.base:=by
  rcases j.cases f with k1|⟨Q,F,p⟩
  ·exact .inl k1
  ·exact .inr ⟨Q,F,p.ox i s⟩
 refine⟨_,r,g.tv f h j (by omega) (by omega) (m:=B.m) (mv:=B.mv) q (by have:=(h.mm B f).1;omega) (u ?_) key⟩;have h1:=h.nm B f;have h3:=qD iT (ae (d.ps B.sb)) B.t s i;omega
theorem PZ{o l W d}(g:Inv o l W d){B}(f:B∈d.ao){n c}(h:fS n c d)(j:Sem d)(s t:yB)(w:c+(7+s.size+t.size)<=1048576):
 Calls yP 21 #[pV (qA B.bb),sV s] W fun e w'=>∃b,e=rV (bV b)/\BQ o d (n+1) (c+(7+s.size+t.size)) w':=by
 have v:s.size<=maxLen/\t.size<=maxLen/\s.size<=1048576/\t.size<=1048576:=by unfold maxLen;omega
 have u:∀{a:Nat},a<=12*c+(12*s.size+84)->a<=12*(c+(7+s.size+t.size)):=fun x=>by omega
 obtain⟨S,k⟩:=g.bk B f;have i:=k.tr.ok;refine(Ed k (g.cI B f) (g.od f) g.bt g.l3 s v.1).mono ?_;rintro e w' ⟨r,q⟩;refine⟨_,r,g.tv f h j (by omega) (by omega) (m:=B.m) (mv:=B.mv) q (by have:=(h.mm B f).1;omega) (u ?_) ?_⟩
 ·have h1:=h.nm B f;have h3:=qD iT (ae (d.ps B.sb)) B.t s i;omega
 ·rcases j.cases f with k1|⟨Q,F,p⟩
  ·exact .inl k1
  ·exact .inr ⟨Q,F,p.ox i s⟩
theorem Qi{u l W d}(h:Inv u l W d){B}(f:B∈d.ao){n c}(r:fS n c d)(j:Sem d)(s t:yB)(H:c+(7+s.size+t.size)<=1048576)(k x y z:Int)(E:Rg y)(G:Rg z):
 Calls yP 22 #[pV (qA B.bb),fX k x y z s t] W fun e w'=>∃b,e=rV (bV b)/\BQ u d (n+1) (c+(7+s.size+t.size)) w'/\b=true:=by
 have D:s.size<=maxLen/\t.size<=maxLen/\s.size<=1048576/\t.size<=1048576:=by unfold maxLen;omega
 have C:∀{a:Nat},a<=12*c+(12*s.size+84)->a<=12*(c+(7+s.size+t.size)):=fun I=>by omega
 obtain⟨S,o⟩:=h.bk B f;have g:=o.tr.ok;refine(Nx o (h.cI B f) (h.od f) h.bt h.l3 k x y z s t D.1 (by omega) E G).mono ?_;rintro e w' ⟨q,w,v⟩;have p:=EZ (ae (d.ps B.sb)) g s;refine⟨_,w,And.intro ?bq ?ba⟩;case ba=>
  have A:d.ag B.hb=true\/jE (ae (d.ps B.sb)) (d.yes B.hb=true) (bg (ae (d.ps B.sb)) B.t s) B.m B.base:=(j B f).imp id fun⟨Q,F,i⟩=>⟨Q,F,i.ox g s⟩
  unfold Fk;rw[To g o.loose s (j B f),Ts p (qS g o.loose) s q A];rfl
 refine h.tv f r j (by omega) (by omega) (m:=B.m) (mv:=B.mv) v (by have:=(r.mm B f).1;omega) (C ?_) ?_
 ·have h1:=r.nm B f;have h3:=qD iT (ae (d.ps B.sb)) B.t s g;have h4:=qD iT (ae (d.ps B.sb)) _ s p;unfold sX;split<;>omega
 ·rcases j.cases f with k1|⟨Q,F,i⟩
  ·exact .inl k1
  ·refine .inr ⟨Q,F,?_⟩;unfold sX;split
   ·exact(i.ox g s).ox p s
   ·exact i.ox g s
theorem Qh{j l W d}(A:Inv j l W d){n c z}(q:fS n c d)(P:Sem d)(S:c<=z)(A4:n+1<200000){G H}(Q:d.bv=lV G d.ao.length H){i r}(F:eI W i (fun _=>lV none 0 0) [])(Y:l i=pr i 0)(J:dH W r (qA i) (fun _=>False) .nil)(X:l r=pr r 0)(y:∀C∈d.ao,C.sb≠i/\C.tb≠r)(K:∀R∈d.aB,i≠R.sb):
 ∃u m' c1 w' v,(Builtin.append_ #[27,27] 27 #[lV G d.ao.length H,lV (some ⟨W.heap.size+2,0,none⟩) 1 1]).run yP (((W.alloc (.cells #[bV false,bV false] 44)).alloc (.cells #[pV (qA i),pV (qA r),lV none 0 0,lV none 0 0,pV (qA W.heap.size)] 47)).alloc (.cells #[pV (some ⟨W.heap.size+1,0,none⟩)] 41))=.ok (lV u m' c1) w'/\(w'.cell? ⟨j,0,none⟩=some v/\w'.frozen? ⟨j,0,none⟩=false/\j<w'.heap.size)/\BQ j d (n+1) z (w'.setCell ⟨j,0,none⟩ (lV u m' c1)):=by
 have A3:=q.len;have E:fS (n+1) z d:=q.mono (by omega) S;obtain⟨k,w⟩:∃k,k=W.alloc (.cells #[bV false,bV false] 44):=⟨_,rfl⟩
 have z1:k.heap.size=W.heap.size+1:=by rw[w];exact mM W _
 have m1:Mv (fun _=>False) l (eN l W.heap.size (pr W.heap.size 0)) W k:=by rw[w];exact Mv.pH l W _ _
 have I:=A.idle (m1.jb _);obtain⟨a,b⟩:∃a:dI,a=⟨k.heap.size,i,r,W.heap.size,lV none 0 0,lV none 0 0,.nil,[],[]⟩:=⟨_,rfl⟩
 have N:Ag (eN l W.heap.size (pr W.heap.size 0)) k a (fun _=>False):=by
  rw[b];refine⟨J.same m1.size fun x _ V=>m1.ah x V id,trivial,(fun x p=>p.elim),(mN J.lt).trans X,RO _ _ _ _,(fun g T=>by cases T),DI,(by show 0<_;decide),⟨rfl,rfl⟩⟩
 have hm:∀x,bW i (fun _=>Value.slice none 0 0) x->x=i:=fun x p=>by
  rcases p with h|⟨c,_,h⟩
  ·exact h
  ·simp[Value.ownBlock] at h
 have A1:i<W.heap.size:=F.st.dQ i (.inl rfl);have L:cG (eN l W.heap.size (pr W.heap.size 0)) (eP a) k a.sb a.hb false false (fun _=>lV none 0 0) []:=by
  rw[b];refine⟨by show k.heap[W.heap.size]? =_;rw[w];exact py W _,nM (QU _),F.kept fun x p=>m1.ah x (F.st.dQ x p) id,fun x p=>?_⟩;rw[hm x p];exact(mN A1).trans Y
 obtain⟨u,c1,w',s,A2,U,l',mA,M⟩:=Dl I N L (by rw[b]) (by omega) (by rw[b];exact fun C f=>(y C f).2) ⟨by
  rw[b];intro C f;have Z:=kQ (A.gK f).2.2.2;have o:C.hb≠W.heap.size:=by omega
  exact⟨⟨fun e=>absurd e o,fun e=>absurd e (y C f).1⟩,fun e=>absurd e o⟩,by rw[b];exact K⟩
 rw[b] at s;simp only at s;rw[Q,w] at s;have B:=U.trans I.wo.ah;rw[show(W.alloc (.cells #[bV false,bV false] 44)).heap.size=W.heap.size+1 from mM W _] at s;refine⟨u,_,c1,w',_,s,⟨by rw[Q5 w' j 0 _ _ _ B];rfl,Rx w' j 0 _ _ B,(Q0.1 B).1⟩,l',_,M,?_,?_,?_⟩
 ·have D:∀C∈d.ao++[a],C∈d.ao\/C=a:=fun C f=>by
   rcases Re.1 f with h1|h1
   ·exact .inl h1
   ·exact .inr (Q2.1 h1)
  refine⟨by show(d.ao++[a]).length<=_;rw[Q4,Sa];omega,fun C f=>?_,fun C f=>?_,fun C f=>?_⟩
  ·rcases D C f with h1|e
   ·exact E.mm C h1
   ·rw[e,b];exact⟨Ri _,Ri _⟩
  ·rcases D C f with h1|e
   ·exact E.nm C h1
   ·rw[e,b];exact Ri _
  ·show(bf d.ps a.sb [] C.sb).length<=_;rcases D C f with h1|e
   ·have o:C.sb≠a.sb:=by rw[b];exact(y C h1).1
    rw[cZ _ _ o];exact E.ps C h1
   ·rw[e,de];exact Ri _
 ·intro C f;show bf d.ag a.hb false C.hb=true\/jE (ae (bf d.ps a.sb [] C.sb)) (bf d.yes a.hb false C.hb=true) C.t C.m C.base;rcases Re.1 (show C∈d.ao++[a] from f) with h1|h1
  ·have Z:=kQ (A.gK h1).2.2.2;have o:C.hb≠a.hb:=by rw[b];show C.hb≠W.heap.size;omega
   have A0:C.sb≠a.sb:=by rw[b];exact(y C h1).1
   rw[cZ _ _ o,cZ _ _ o,cZ _ _ A0];exact P C h1
  ·rw[Q2.1 h1,b];exact .inr ⟨fun _=>False,.nil,⟨IB,rfl,(fun c q=>q.elim),fun c q=>q.elim⟩⟩
 ·refine⟨rfl,rfl,fun R O=>?_⟩;show bf d.ps a.sb [] R.sb=_;rw[cZ _ _ (by rw[b];exact fun e=>K R O e.symm)]
theorem Qg{A l w d}(h:Inv A l w d){n c}(q:fS n c d)(p:Sem d)(k x y z:Int)(T:Rg x)(U:Rg y)(hz:Rg z)(s t:yB)(L:c+(7+s.size+t.size)<=1048576)(N:n+1<200000):
 Calls yP 8 #[pV (qA A),fX k x y z s t] w fun e w'=>∃b,e=rV (bV b)/\BQ A d (n+1) (c+(7+s.size+t.size)) w'/\(k=10->b=true):=by
 obtain⟨ar,cr,K⟩:=h.zN;have B3:=q.len;have B6:s.size<=maxLen/\t.size<=maxLen/\s.size<=1048576/\t.size<=1048576:=by unfold maxLen;omega
 obtain⟨B,hB⟩:=yX (d.ao.getD (bO x d.ao.length) ll)
 have Z:0<d.ao.length->d.ao[bO x d.ao.length]? =some B:=fun h0=>by
  rw[hB,Q3,QV (kz x _ h0)];rfl
 have F:0<d.ao.length->B∈d.ao:=fun h0=>Rv (Z h0)
 have B4:∀{a:Nat},a<=12*c+(12*s.size+84)->a<=12*(c+(7+s.size+t.size)):=fun hh=>by omega
 have H:fS (n+1) (c+(7+s.size+t.size)) d:=q.mono (by omega) (by omega);unfold fX;refine(Qf w A B.bb d.ao.length cr ar k x y z s t (str cw) (by omega)
  (rz A d w.heap.size k x y z s t)
  (fun W=>∃l V d1,d1=d.cI B.sb B.hb (d.yes B.hb || decide (d.ps B.sb≠[])) (d.ag B.hb) V (jj (d.ps B.sb) k y s)/\Inv A l W d1/\B∈d.ao/\(k=6\/k=7))
  (fun b W=>BQ A d (n+1) (c+(7+s.size+t.size)) W/\(k=10->b=true))
  (fun i W=>∃l0 w0,Inv A l0 w0 d/\i=w0.heap.size/\yW w0 W/\eI W i (fun _=>lV none 0 0) [])
  (fun i I W=>∃l,Inv A l W d/\eI W i (fun _=>lV none 0 0) []/\l i=pr i 0/\dH W I (qA i) (fun _=>False) .nil/\l I=pr I 0/\(∀C∈d.ao,C.sb≠i/\C.tb≠I)/\(∀R∈d.aB,i≠R.sb))
  ?_ ?_ ?_ ?_ ?_ ?_ ?_ ?_ ?_ ?_ ?_ ?_ ?_ ?_ ?_ ?_ ?_ ?_ ?_ ?_ ?_ ?_).mono ?_
 ·have A5:yW w (w.alloc (.cells #[iV .i64 k,iV .i64 x,iV .i64 y,iV .i64 z,sV s,sV t] 33)):=(Q1 _ _).alloc (QU _) _;exact⟨_,h.idle (Mv.below (dT []) l A5),gY.new w k x y z s t,nr (QU _)⟩
 ·obtain⟨k0,kw,_⟩:=h.rI;rw[K] at k0;exact⟨k0,kw⟩
 ·rintro W ⟨l,f,X,_⟩;obtain⟨k0,kw,_⟩:=f.rI;rw[K] at k0;obtain⟨b0,b1,b2,b3,b4,b5⟩:=X.cells;exact⟨⟨k0,kw⟩,b0,b1,b2,b3,b4,b5,X.lt⟩
 ·intro W n f;exact f.idle (gB (Q1 _ _) n)
 ·rintro W ⟨l,f,_,_⟩ _;refine(so 3 W).mono ?_;rintro e w1 ⟨j,hP,r⟩;exact⟨_,j,l,W,f,rfl,r,yn f.bt.size hP⟩
 ·rintro i W ⟨l0,w0,f,e1,r,O⟩;refine(og W (f.bt.below r)).mono ?_;rintro e w' ⟨j,E⟩;exact⟨j,l0,w0,f,e1,r.trans (E.mono r.size),O.below E⟩
 ·rintro i W ⟨l0,w0,f,e1,r,O⟩;have B8:=r.size;have B5:i<W.heap.size:=O.st.dQ i (.inl rfl);have B1:cl cw=.nil:=by unfold cl;rw[QX rfl]
  have Y:=rn W (qA i) cw (jY _) (f.bt.below r);rw[B1] at Y;refine Y.mono ?_;rintro e w' ⟨tb,u,j,B7,A4,hA,M⟩;have E:=r.trans (M.mono r.size);have m1:Mv (fun _=>False) l0 (fun x=>if x<w0.heap.size then l0 x else pr x 0) w0 w':=⟨E.os,E.tape,E.output,E.size,fun k g=>QX g,fun k g _=>E.block k g⟩
  have h3:=f.bt.size;refine⟨tb,j,_,f.idle (m1.jb _),O.below M,QW (by omega),⟨⟨u,A4,?_⟩,lB 0,fun x T=>T.elim⟩,QW (by omega),fun C D=>⟨fun e=>?_,fun e=>?_⟩,fun R P e=>?_⟩
  ·have A1:=hA;exact A1
  ·have:=kQ (f.gK D).2.2.1;omega
  ·have:=kQ (f.gK D).2.1;omega
  ·have:=kQ (f.ky P).2.2.2;omega
 ·rintro i I W ⟨l,f,_⟩;obtain⟨k0,kw,_⟩:=f.rI;rw[K] at k0;exact⟨k0,kw⟩
 ·rintro i I W ⟨l,f,B0,A9,hT,A8,A6,A7⟩;obtain⟨a',m',c1,w',v,h1,h2,h3⟩:=Qh f q p (by omega:c<=c+(7+s.size+t.size)) N K B0 A9 hT A8 A6 A7;exact⟨a',m',c1,w',v,h1,h2,h3,fun _=>rfl⟩
 ·rintro W ⟨l,f,_,_⟩ _;exact⟨⟨l,d,f,H,p,RS.refl d⟩,fun _=>rfl⟩
 ·intro W h0;exact pk x _ T h0 (by omega) W
 ·rintro W ⟨l,f,_,_⟩ h0;exact f.rf K (Z h0)
 ·rintro W ⟨l,f,_,_⟩ h0 g;exact(PY f (F h0) q p s t L N).mono fun e w' ⟨b,h1,h2⟩=>⟨b,h1,h2,fun h5=>by rw[g] at h5;cases h5⟩
 ·rintro W ⟨l,f,_,_⟩ h0 g;exact(Qq f (F h0) q p s t L N).mono fun e w' ⟨b,h1,h2⟩=>⟨b,h1,h2,fun h5=>by rw[g] at h5;cases h5⟩
 ·rintro W ⟨l,f,_,_⟩ h0 g;exact(PU f (F h0) q p s t L).mono fun e w' ⟨b,h1,h2⟩=>⟨b,h1,h2,fun h5=>by rw[g] at h5;cases h5⟩
 ·rintro W ⟨l,f,_,_⟩ h0 _;refine(NG f (F h0) q (by omega) N p).mono ?_;rintro e w' ⟨j,l',d',h1,h2,h3,h4⟩;exact⟨true,j,⟨l',d',h1,h2.mono (QU _) (by omega),h3,h4⟩,fun _=>rfl⟩
 ·rintro W ⟨l,f,_,_⟩ h0 g;have o:=F h0;obtain⟨S,Q⟩:=f.bk B o;refine(Nk Q (f.cI B o) f.bt y U).mono ?_;rintro e w' ⟨j,M⟩;exact⟨_,j,⟨_,d,f.idle (Mv.below (dT []) l M),H,p,RS.refl d⟩,fun h5=>by rw[g] at h5;cases h5⟩
 ·rintro W ⟨l,f,_,_⟩ h0 g;exact(PZ f (F h0) q p s t L).mono fun e w' ⟨b,h1,h2⟩=>⟨b,h1,h2,fun h5=>by rw[g] at h5;cases h5⟩
 ·rintro W ⟨l,f,_,_⟩ h0 _;exact(Qi f (F h0) q p s t L k x y z U hz).mono fun e w' ⟨b,h1,h2,h3⟩=>⟨b,h1,h2,fun _=>h3⟩
 ·rintro W ⟨l,f,_,_⟩ h0 g;have o:=F h0;obtain⟨S,Q⟩:=f.bk B o;refine(Nn Q (f.cI B o) (f.od o) f.bt k x y z s t U (by have:=q.ps B o;omega)).mono ?_;rintro e w' ⟨j,l',B2,m,hf⟩;exact⟨j,l',B2,_,rfl,f.family o m hf,o,g⟩
 ·rintro W ⟨l,V,d1,G,f,o,g⟩;have q1:d1.ao=d.ao:=by rw[G];rfl
  have A2:B∈d1.ao:=by rw[q1];exact o
  have q4:d1.ps B.sb=jj (d.ps B.sb) k y s:=by rw[G];exact de _ _ _
  have q6:∀x,x≠B.sb->d1.ps x=d.ps x:=fun x e=>by rw[G];exact cZ _ _ e
  refine(Ea f A2 (by rw[q1];omega)).mono ?_;rintro e w' ⟨j,l',A3⟩;have A0:∀x,bf d1.ps B.sb (d1.ps B.sb) x=d1.ps x:=fun x=>by rw[jN]
  refine⟨j,⟨l',_,A3,?_,MR h o p k y s V G,⟨by show d1.w0=_;rw[G];rfl,by show d1.aB=_;rw[G];rfl,fun R P=>?_⟩⟩,fun h5=>by rcases g with g|g<;>rw[g] at h5<;>cases h5⟩
  ·refine⟨by show d1.ao.length<=_;rw[q1];omega,fun C D=>?_,fun C D=>?_,fun C D=>?_⟩
   ·have J:C∈d.ao:=by rw[<-q1];exact D
    exact H.mm C J
   ·have J:C∈d.ao:=by rw[<-q1];exact D
    exact H.nm C J
   ·have J:C∈d.ao:=by rw[<-q1];exact D
    show(bf d1.ps B.sb (d1.ps B.sb) C.sb).length<=_;rw[A0];by_cases e:C.sb=B.sb
    ·rw[e,q4];have h1:=MS (d.ps B.sb) k y s;have h2:=q.ps B o;omega
    ·rw[q6 _ e];exact H.ps C J
  ·show bf d1.ps B.sb (d1.ps B.sb) R.sb=_;rw[A0];exact q6 _ fun e=>h.br B o R P e.symm
 ·rintro W ⟨l,f,_,_⟩ _;exact⟨⟨l,d,f,H,p,RS.refl d⟩,fun _=>rfl⟩
 ·rintro e w' ⟨b,j,hQ⟩;exact⟨b,j,hQ.out⟩
def MI(w0:World)(a n c:Nat)(W:World):Prop:=∃l d,d.w0=w0/\Inv a l W d/\fG n (6000*n) (2*n) (2*n) d/\fS n c d/\Sem d
theorem MI.below{w0 b n c W a}(h:MI w0 b n c W)(e:yW W a):MI w0 b n c a:=by
 obtain⟨l,d,h0,h1,h2,h3,h4⟩:=h;exact⟨_,d,h0,h1.idle (Mv.below (dT []) l e),h2,h3,h4⟩
theorem MI.KQ{w0 a n c W}(h:MI w0 a n c W):yW w0 W:=by
 obtain⟨l,d,h0,h1,_⟩:=h;rw[<-h0];exact h1.pins.dD
theorem Jn(w:World)(d:Nat)(k x y z:Int)(s t:yB)(Q:Bool->World->Prop)
 (f:Hid (1<=k->k<=10->Calls yP 8 #[pV (qA d),gV #[iV .i64 k,iV .i64 x,iV .i64 y,iV .i64 z,sV s,sV t]] (w.alloc (.cells #[iV .i64 k,iV .i64 x,iV .i64 y,iV .i64 z,sV s,sV t] 33)) fun e w'=>∃b,e=rV (bV b)/\Q b w'))
 (g:Hid (30<=k->k<=39->Calls yP 9 #[pV (qA d),gV #[iV .i64 k,iV .i64 x,iV .i64 y,iV .i64 z,sV s,sV t]] (w.alloc (.cells #[iV .i64 k,iV .i64 x,iV .i64 y,iV .i64 z,sV s,sV t] 33)) fun e w'=>∃b,e=rV (bV b)/\Q b w'))
 (a:Hid (Q true (w.alloc (.cells #[iV .i64 k,iV .i64 x,iV .i64 y,iV .i64 z,sV s,sV t] 33)))):
 Calls yP 7 #[pV (qA d),gV #[iV .i64 k,iV .i64 x,iV .i64 y,iV .i64 z,sV s,sV t]] w fun e w'=>∃b,e=rV (bV b)/\Hid (Q b w'):=by
 by_cases h1:1<=k/\k<=10
 ·have i:=f.out h1.1 h1.2;have l:=aa i;obtain⟨n,o⟩:=h1;clear i f g a;go_enter func7,ntmps7
  go_wp2_with fail
  refine l.out.mono ?_;rintro e w1 ⟨b,rfl,c⟩;have h:=aa c;clear c l;go_wp2_with fail
  go_ret
  exact⟨b,rfl,h⟩
 ·by_cases h2:30<=k/\k<=39
  ·have j:=g.out h2.1 h2.2;have m:=aa j;obtain⟨n,o⟩:=h2;have p:(1:Int)<=k:=by omega
   have q:¬k<=(10:Int):=by omega
   clear j f g a h1;go_enter func7,ntmps7
   go_wp2_with fail
   refine m.out.mono ?_;rintro e w1 ⟨b,rfl,c⟩;have h:=aa c;clear c m;go_wp2_with fail
   go_ret
   exact⟨b,rfl,h⟩
  ·clear f g;by_cases n:1<=k
   ·have o:¬k<=(10:Int):=by omega
    by_cases p:30<=k
    ·have q:¬k<=(39:Int):=by omega
     clear h1 h2;go_enter func7,ntmps7
     go_wp2_with fail
     go_ret
     exact .inr ⟨rfl,a⟩
    ·clear h1 h2;go_enter func7,ntmps7
     go_wp2_with fail
     go_ret
     exact .inr ⟨rfl,a⟩
   ·have p:¬(30:Int)<=k:=by omega
    clear h1 h2;go_enter func7,ntmps7
    go_wp2_with fail
    go_ret
    exact .inr ⟨rfl,a⟩
theorem Nc{w0 f n c w}(h:MI w0 f n c w)(k x y z:Int)(m:Rg x)(o:Rg y)(v:Rg z)(s t:yB)(r:c+(7+s.size+t.size)<=1048576)(u:n+1<200000):
 Calls yP 7 #[pV (qA f),fX k x y z s t] w fun e w'=>∃b,e=rV (bV b)/\MI w0 f (n+1) (c+(7+s.size+t.size)) w'/\(k=10->b=true):=by
 have q:yW w (w.alloc (.cells #[iV .i64 k,iV .i64 x,iV .i64 y,iV .i64 z,sV s,sV t] 33)):=(Q1 _ _).alloc (QU _) _;obtain⟨l,d,h0,h1,h2,h3,h4⟩:=h;have i:=h1.idle (Mv.below (dT []) l q);unfold fX;refine(Jn w f k x y z s t (fun b W=>MI w0 f (n+1) (c+(7+s.size+t.size)) W/\(k=10->b=true)) (fun _ _=>?_) (fun A _=>?_) ?_).mono ?_
 ·refine(Qg i h3 h4 k x y z m o v s t r u).mono ?_;rintro e w' ⟨b,a,⟨l',g,q1,q2,q3,q4⟩,p⟩;exact⟨b,a,⟨l',g,q4.w0.trans h0,q1,(h2.rs q4).mono (by omega) (by omega) (by omega) (by omega),q2,q3⟩,p⟩
 ·refine(Kl i h2 (by omega) (by omega) (by omega) (by omega) k x y z m o s t (by omega) (by omega)).mono ?_;rintro e w' ⟨⟨b,a⟩,l',g,q1,q2,q3⟩;exact⟨b,a,⟨l',g,q3.w0.trans h0,q1,q2.mono (QU _) (by omega) (by omega) (by omega),(h3.ds q3).mono (by omega) (by omega),h4.ds q3⟩,fun h5=>by omega⟩
 ·exact⟨⟨_,d,h0,i,h2.mono (by omega) (by omega) (by omega) (by omega),h3.mono (by omega) (by omega),h4⟩,fun _=>rfl⟩
 ·rintro e w' ⟨b,a,j⟩;exact⟨b,a,j.out.1,j.out.2⟩
theorem MI.start(w)(T:az w):MI w w.heap.size 0 0 (w.alloc (.cells #[lV none 0 0,lV none 0 0] 30)):=by
 have d:yW w (w.alloc (.cells #[lV none 0 0,lV none 0 0] 30)):=(Q1 _ _).alloc (QU _) _;have h3:=T.size;refine⟨fun x=>if x=w.heap.size then pr w.heap.size 0 else 0,⟨[],[],lV none 0 0,lV none 0 0,fun _=>false,fun _=>false,fun _ _=>lV none 0 0,fun _=>[],w⟩,rfl,⟨⟨py w _,QX rfl,RO _ _ _ _,(fun g c=>by cases c),RO _ _ _ _,(fun g c=>by cases c)⟩,(fun B b=>by cases b),(fun B b=>by cases b),(fun R a=>by cases a),List.nodup_nil,List.nodup_nil,List.nodup_nil,List.nodup_nil,(fun B b=>by cases b),(fun B b=>by cases b),T.below d,⟨fun k e=>QW (by omega),fun k e=>QW (Nat.ne_of_lt e),d⟩⟩,⟨QU _,(fun R a=>by cases a),(fun R a=>by cases a),fun R a=>by cases a⟩,⟨QU _,(fun R a=>by cases a),(fun R a=>by cases a),fun R a=>by cases a⟩,fun B b=>by cases b⟩
structure gE where
 k:Int
 x:Int
 y:Int
 z:Int
 s:yB
 t:yB
structure ru(w:World)(g o:Nat)(p:gE):Prop where
 c0:w.cell? ⟨g,o,none⟩=some (iV .i64 p.k)
 c1:w.cell? ⟨g,o+1,none⟩=some (iV .i64 p.x)
 c2:w.cell? ⟨g,o+2,none⟩=some (iV .i64 p.y)
 c3:w.cell? ⟨g,o+3,none⟩=some (iV .i64 p.z)
 c4:w.cell? ⟨g,o+4,none⟩=some (sV p.s)
 c5:w.cell? ⟨g,o+5,none⟩=some (sV p.t)
theorem ru.below{w W g o p}(h:ru w g o p){B}(a:g<B)(k:Below B w W):ru W g o p:=
 ⟨(Rd (k.block g a)).trans h.c0,(Rd (k.block g a)).trans h.c1,(Rd (k.block g a)).trans h.c2,(Rd (k.block g a)).trans h.c3,(Rd (k.block g a)).trans h.c4,(Rd (k.block g a)).trans h.c5⟩
def kw(p:gE):Nat:=7+p.s.size+p.t.size
def fK(a:List gE)(i:Nat):Nat:=((a.take i).map kw).sum
theorem yJ(a:List gE)(i:Nat)(p:gE)(h:a[i]? =some p):fK a (i+1)=fK a i+(7+p.s.size+p.t.size):=by
 unfold fK;rw[Sx,h];simp[kw]
theorem vu(a:List gE)(i:Nat)(hi:i<=a.length):fK a i+7*(a.length - i)<=fK a a.length:=by
 obtain⟨d,c⟩:∃d,i+d=a.length:=⟨a.length - i,by omega⟩
 induction d generalizing i with
 |zero=>rw[show i=a.length by omega];omega
 |succ d ih=>
  have b:a[i]? =some (a[i]'(by omega)):=QV (by omega);have:=yJ a i _ b;have:=ih (i+1) (by omega) (by omega);omega
theorem Eb(a:List gE):fK a 0=0:=by simp[fK]
structure pP(w:World)(a:Option Addr)(ops:List gE):Prop where
 rN:fK ops ops.length<=1048576
 at_:∀(i:Nat) (p:gE),ops[i]? =some p->∃g o,a=some ⟨g,o,none⟩/\g<w.heap.size/\ru w g (o+i*6) p
 rg:∀(i:Nat) (p:gE),ops[i]? =some p->Rg p.x/\Rg p.y/\Rg p.z
theorem pP.below{w W a c}(h:pP w a c)(k:yW w W):pP W a c:=
 ⟨h.rN,fun i p f=>by
  obtain⟨g,o,e,b,d⟩:=h.at_ i p f
  exact⟨g,o,e,Q6 b k.size,d.below b k⟩,h.rg⟩
theorem Nf(a)(cap:Nat)(b:List gE)(w)(H:pP w a b):
 Calls yP 6 #[lV a b.length cap] w fun e w'=>e=rV (bV true)/\∃n,w'=w.drewN n:=by
 have m:Hid (∀i (_:i<b.length),∃p,b[i]? =some p/\∃g o,a=some ⟨g,o,none⟩/\ru w g (o+i*6) p/\fK b (i+1)=fK b i+(7+p.s.size+p.t.size)/\fK b (i+1)<=1048576):=by
  intro i hi;have c:b[i]? =some (b[i]'hi):=QV hi;obtain⟨g,o,e,_,h⟩:=H.at_ i _ c;have:=vu b (i+1) hi;exact⟨_,c,g,o,e,h,yJ b i _ c,by have:=H.rN;omega⟩
 have C:=aa (Eb b);have D:b.length<=1048576:=by have:=vu b 0 (Ri _);have:=H.rN;omega
 clear H;generalize hN:b.length=N at*;have F:¬(1073741824:Int)<(N:Int):=by omega
 go_enter func6,ntmps6
 go_wp2_with fail
 go_loopg [3,4] N (fun g u r wr=>∃i n T:Nat,g=N - i/\i<=N/\r=iV .i64 i/\u=iV .i64 T/\T<=2*1048576/\Hid (T<=N+fK b i)/\wr=w.drewN n)
 case atStart=>exact⟨0,0,N,rfl,by omega,rfl,rfl,by omega,by show _<=_;omega,rfl⟩
 case round=>
  obtain⟨i,n,T,k,hi,rfl,rfl,E,f,l⟩:=hrel;have q:=aa k;have d:=aa l;clear k l;by_cases A:i<N
  ·obtain⟨p,c,g,o,rfl,j,B,z⟩:=m.out i A;have r4:wr.cell? ⟨g,o+i*6+4,none⟩=some (sV p.s):=by rw[d.out];exact j.c4
   have r5:wr.cell? ⟨g,o+i*6+5,none⟩=some (sV p.t):=by rw[d.out];exact j.c5
   have x:T+p.s.size+p.t.size<=2*1048576:=by have:=f.out;omega
   have v:Hid (T+p.s.size+p.t.size<=N+fK b (i+1)):=by show _<=_;have:=f.out;omega
   clear j c B z f;generalize p.s=s at*;generalize p.t=t at*;have y:(i:Int)<(N:Int):=by omega
   have w1:IntKind.i64.wrap ((T:Int)+(s.size:Int))=(T:Int)+(s.size:Int):=by rw[RE];omega
   have w2:IntKind.i64.wrap ((T:Int)+(s.size:Int)+(t.size:Int))=(T:Int)+(s.size:Int)+(t.size:Int):=by rw[RE];omega
   have G:¬(1073741824:Int)<(T:Int)+(s.size:Int)+(t.size:Int):=by omega
   go_wp2_with fail
   go_region
   go_wp2_with fail
   go_roundg (N - (i+1))
   case measure=>have:=q.out;omega
   case rel=>exact⟨i+1,n+1,T+s.size+t.size,rfl,by omega,by go_num,by go_num,x,v,by rw[d.out];rfl⟩
  ·obtain rfl:i=N:=by omega
   have y:¬(i:Int)<(i:Int):=by omega
   go_wp2_with fail
   go_ret
   exact⟨rfl,n,d.out⟩
theorem Ni(a)(cap:Nat)(d:List gE)(w)(H:pP w a d)(T:az w)
 (A:Nat) (A3:w.cell? ⟨A,0,none⟩=some (iV .i64 10)):
 Calls yP 5 #[lV a d.length cap,lV (qA A) 1 1] w fun e w'=>e=rV (bV true)/\Hid (yW w w'):=by
 have A1:=aa (Nf a cap d w H);have A2:Hid (∀n,MI (w.drewN n) w.heap.size 0 (fK d 0) ((w.drewN n).alloc (.cells #[lV none 0 0,lV none 0 0] 30))):=fun n=>by
  rw[Eb];exact MI.start (w.drewN n) (T.below (below_drewN (Q1 _ w) n))
 have Z:Hid (∀n m c W,MI (w.drewN n) w.heap.size m c W->yW w W):=fun n m c W h=>(below_drewN (Q1 _ w) n).trans h.KQ
 have O:Hid (∀i (_:i<d.length),∃p:gE,d[i]? =some p/\(∃g o,a=some ⟨g,o,none⟩/\∀W,yW w W->ru W g (o+i*6) p)/\(Rg p.x/\Rg p.y/\Rg p.z)/\fK d (i+1)=fK d i+(7+p.s.size+p.t.size)/\fK d (i+1)<=1048576):=by
  intro i hi;have l:d[i]? =some (d[i]'hi):=QV hi;obtain⟨g,o,e,G,h⟩:=H.at_ i _ l;have:=vu d (i+1) hi;exact⟨_,l,⟨g,o,e,fun W u=>h.below G u⟩,H.rg i _ l,yJ d i _ l,by have:=H.rN;omega⟩
 have A9:d.length<=149796:=by have:=vu d 0 (Ri _);have:=H.rN;omega
 have V:Hid (∀W,yW w W->W.cell? ⟨A,0,none⟩=some (iV .i64 10)):=fun W u=>dC u A3
 clear H T A3;generalize hN:d.length=N at*;clear hN;go_enter func5,ntmps5
 go_wp2_with fail
 refine A1.out.mono ?_;rintro e w1 ⟨rfl,n1,I⟩;have hz:w1.heap.size=w.heap.size:=by rw[I];rfl
 have A0:Hid (MI (w.drewN n1) w.heap.size 0 (fK d 0) (w1.alloc (.cells #[lV none 0 0,lV none 0 0] 30))):=by rw[I];exact A2.out n1
 have D:=aa (Z.out n1);clear A1 A2 Z I;go_wp2_with fail
 go_loopg [7] N (fun g r wr=>∃i:Nat,g=N - i/\i<=N/\r=iV .i64 i/\Hid (MI (w.drewN n1) w.heap.size i (fK d i) wr))
 case atStart=>exact⟨0,rfl,by omega,rfl,A0⟩
 case round=>
  obtain⟨i,v,hi,rfl,C⟩:=hrel;have R:=aa v;clear v A0;by_cases G:i<N
  ·obtain⟨⟨k,x,y,z,s,t⟩,l,⟨g,o,rfl,F⟩,⟨K,L,M⟩,J,A8⟩:=O.out i G;simp only at K L M J;have P:Hid (∀W,yW w W->W.cell? ⟨g,o+i*6,none⟩=some (iV .i64 k)):=fun W u=>(F W u).c0
   obtain⟨r0,r1,r2,r3,r4,r5⟩:=F wr (D.out _ _ _ C.out);simp only at r0 r1 r2 r3 r4 r5;have B:=Nc C.out k x y z K L M s t (by omega) (by omega);rw[show fK d i+(7+s.size+t.size)=fK d (i+1) from J.symm] at B;unfold fX at B;have Q:=aa B;clear B K L M J A8 l F C O;have A6:(i:Int)<(N:Int):=by omega
   go_wp2_with fail
   refine Q.out.mono ?_;rintro e w2 ⟨b,rfl,E,f⟩;have HB:=aa f;have X:Hid (∀n,MI (w.drewN n1) w.heap.size (i+1) (fK d (i+1)) (w2.drewN n)):=fun n=>E.below (below_drewN (Q1 _ w2) n)
   have p0:w2.cell? ⟨g,o+i*6,none⟩=some (iV .i64 k):=P.out w2 (D.out _ _ _ E);have A5:=aa (V.out w2 (D.out _ _ _ E));clear r0 r1 r2 r3 r4 r5 Q f E P V;go_wp2_with fail
   go_loopg [9,10] 1 (fun g hv r wq=>∃(j n:Nat) (f:Bool),g=1 - j/\j<=1/\hv=bV f/\r=iV .i64 j/\Hid (f=true->k=10)/\wq=w2.drewN n)
   case atStart=>exact⟨0,0,false,rfl,by omega,rfl,rfl,(fun h=>by cases h),rfl⟩
   case round=>
    obtain⟨j,n,f,v,hj,rfl,rfl,U,A4⟩:=hrel;have S:=aa v;have q:=aa A4;clear v A4;by_cases B0:j<1
    ·have e0:wr.cell? ⟨g,o+i*6,none⟩=some (iV .i64 k):=by rw[q.out];exact p0
     have e1:wr.cell? ⟨A,j,none⟩=some (iV .i64 10):=by rw[q.out,show j=0 by omega];exact A5.out
     clear p0;have A7:(j:Int)<(1:Int):=by omega
     cases f
     ·go_wp2_with fail
      go_quiet (fail)
      go_wp2_with fail
      go_roundg (1 - (j+1))
      case measure=>have:=S.out;omega
      case rel=>exact⟨j+1,n+nq,_,rfl,by omega,rfl,by go_num,(fun h=>(of_decide_eq_true h).symm),by rw[q.out];exact World.drewN_drewN ..⟩
     ·go_wp2_with fail
      go_quiet (fail)
      go_wp2_with fail
      go_roundg (1 - (j+1))
      case measure=>have:=S.out;omega
      case rel=>exact⟨j+1,n+nq,_,rfl,by omega,rfl,by go_num,(fun _=>U.out trivial),by rw[q.out];exact World.drewN_drewN ..⟩
    ·obtain rfl:j=1:=by omega
     have A7:¬(1:Int)<(1:Int):=by omega
     have Y:Hid (MI (w.drewN n1) w.heap.size (i+1) (fK d (i+1)) wr):=by rw[q.out];exact X.out n
     clear X;cases f
     ·go_wp2_with fail
      go_roundg (N - (i+1))
      case measure=>have:=R.out;omega
      case rel=>exact⟨i+1,rfl,by omega,by go_num,Y⟩
     ·obtain rfl:b=true:=HB.out (U.out rfl);go_wp2_with fail
      go_roundg (N - (i+1))
      case measure=>have:=R.out;omega
      case rel=>exact⟨i+1,rfl,by omega,by go_num,Y⟩
  ·obtain rfl:i=N:=by omega
   have A6:¬(i:Int)<(i:Int):=by omega
   go_wp2_with fail
   go_ret
   exact⟨rfl,D.out _ _ _ C.out⟩
theorem forged_calls(a)(cap:Nat)(c:List gE)(w)(H:pP w a c)(T:az w):
 Calls yP 4 #[lV a c.length cap] w fun e w'=>e=rV (bV true)/\yW w w':=by
 have b:yW w (w.alloc (.cells #[iV .i64 10] 3)):=(Q1 _ _).alloc (QU _) _;have g:Hid (Calls yP 5 #[lV a c.length cap,lV (qA w.heap.size) 1 1] (w.alloc (.cells #[iV .i64 10] 3)) fun e w'=>e=rV (bV true)/\yW w w'):=
  (Ni a cap c _ (H.below b) (T.below b) w.heap.size (So _ _ _ 0 _ rfl)).mono fun e w' h=>⟨h.1,b.trans (h.2.out.mono b.size)⟩
 clear H T b;generalize c.length=N at*;go_enter func4,ntmps4
 go_wp2_with fail
 refine g.out.mono ?_;rintro e w1 ⟨rfl,d⟩;have f:=aa d;clear d;go_wp2_with fail
 go_ret
 exact⟨rfl,f.out⟩
open Go.ChangeShapes Go.WideShapes Go.ChangeAt Go.WideMaps Go.WideElems Go.RowKit Go.Deep
theorem Gk:yP.cellsOf 33=6:=by kernel_rfl
theorem PA:yP.cellsOf 3=1:=by kernel_rfl
theorem Pz:yP.cellsOf 9=1:=by kernel_rfl
theorem Nb:laidOutB yP=true:=by kernel_rfl
def qC{H:Type}(p:gE):DataW H:=.agg [.lit (.int .i64 p.k),.lit (.int .i64 p.x),.lit (.int .i64 p.y),.lit (.int .i64 p.z),.lit (.string p.s.data.toList),.lit (.string p.t.data.toList)]
theorem xL{n:Int}(h:(Lit.int .i64 n).wf=true):Rg n:=by
 simp only[Lit.wf,Sh,SD] at h;exact⟨h.1,h.2⟩
theorem LO{H:Type}{c:TypeId×Value->H}{W:World}{n:Nat}{cs:List Value}{x:DataW H×List MemPlace}(h:DataW.trod c yP W 0 (fun _=>true) true n 33 cs=some x):
 ∃p:gE,cs=[iV .i64 p.k,iV .i64 p.x,iV .i64 p.y,iV .i64 p.z,sV p.s,sV p.t]/\x.1=qC p/\Rg p.x/\Rg p.y/\Rg p.z:=by
 obtain⟨f,k,_,e,b,d,a⟩:=DataW.trod_struct underlying33 h;rw[Gk] at b;match f,d,cs,b with
 | [y0,y1,y2,y3,y4,y5],_,[v0,v1,v2,v3,v4,v5],_=>
  have g0:=a 0 _ rfl;have g1:=a 1 _ rfl;have g2:=a 2 _ rfl;have g3:=a 3 _ rfl;have g4:=a 4 _ rfl;have g5:=a 5 _ rfl;simp[PA,Pz] at g0 g1 g2 g3 g4 g5;obtain⟨k0,e0,x0,_⟩:=DataW.trod_int underlying3 g0;obtain⟨k1,e1,x1,w1⟩:=DataW.trod_int underlying3 g1;obtain⟨k2,e2,x2,w2⟩:=DataW.trod_int underlying3 g2;obtain⟨k3,e3,x3,w3⟩:=DataW.trod_int underlying3 g3;obtain⟨s4,e4,x4,_⟩:=DataW.trod_string underlying9 g4;obtain⟨s5,e5,x5,_⟩:=DataW.trod_string underlying9 g5;simp only[Sv,and_true] at e0 e1 e2 e3 e4 e5;subst e0 e1 e2 e3 e4 e5 x0 x1 x2 x3 x4 x5;refine⟨⟨k0,k1,k2,k3,s4,s5⟩,rfl,?_,xL w1,xL w2,xL w3⟩;rw[e];rfl
theorem PQ{H:Type}(p:gE):Rows.uptoBulk (qC p:DataW H)=kw p:=by
 obtain⟨k,x,y,z,s,t⟩:=p;unfold qC kw;simp only[Rows.uptoBulk,Rows.uptoBulkAll,Array.length_toList,ByteArray.size];omega
theorem PO{H:Type}(a:List gE):Rows.uptoBulkAll (a.map (qC:gE->DataW H))=(a.map kw).sum:=by
 induction a with
 |nil=>rfl
 |cons p a ih=>simp only[List.map_cons,Rows.uptoBulkAll,List.sum_cons,ih,PQ]
theorem LM{H:Type}{E:TypeId×Value->H}{W:World}{n:Nat}{v0:Value}{x:DataW H×List MemPlace}(h:DataW.trod E yP W 0 (fun _=>true) true n 22 [v0]=some x)
 (w:Rows.uptoBulk x.1<=1048576):
 ∃a cap ops,v0=lV a (List.length ops) cap/\pP W a ops:=by
 rcases open_slice underlying22 h with⟨e,_⟩|⟨a,c,cap,m,k,D,R,e,_,T,U,B,P,G⟩
 ·simp only[Sv,and_true] at e;exact⟨none,0,[],e,⟨by simp[fK],fun i p b=>by simp at b,fun i p b=>by simp at b⟩⟩
 ·simp only[Sv,and_true] at e;simp only[RJ] at B;subst B;haveI:Inhabited gE:=⟨⟨0,0,0,0,⟨#[]⟩,⟨#[]⟩⟩⟩
  have C:∀i,i<m->∃p:gE,(∃d,W.cells? 0 (a.add (i*6)) 6=some d/\d=[iV .i64 p.k,iV .i64 p.x,iV .i64 p.y,iV .i64 p.z,sV p.s,sV p.t])/\D i=qC p/\Rg p.x/\Rg p.y/\Rg p.z:=fun i hi=>by
   obtain⟨d,h1,h2⟩:=G i hi;rw[Gk] at h1;obtain⟨p,e1,e2,r⟩:=LO h2;exact⟨p,⟨d,h1,e1⟩,e2,r⟩
  obtain⟨f,l⟩:=choose_lt C;have M:(List.range c).map D=((List.range c).map f).map qC:=by
   rw[List.map_map];exact Sq fun i hi=>(l i (by have:=Sg.1 hi;omega)).2.1
  have O:fK ((List.range c).map f) ((List.range c).map f).length<=1048576:=by
   rw[P] at w;simp only[Rows.uptoBulk] at w;rw[M,PO] at w;unfold fK;rw[SG];omega
  have A:∀(i:Nat) (p:gE),((List.range c).map f)[i]? =some p->i<c/\p=f i:=fun i p b=>by
   rw[Rp] at b;by_cases hi:i<c
   ·rw[List.getElem?_range hi] at b;exact⟨hi,by simpa using b.symm⟩
   ·rw[RP (by simpa using hi)] at b;simp at b
  refine⟨some a,m,(List.range c).map f,by rw[Rr,List.length_range];exact e,⟨O,fun i p b=>?_,fun i p b=>?_⟩⟩
  ·obtain⟨hi,rfl⟩:=A i p b;obtain⟨⟨d,h1,rfl⟩,_⟩:=l i (by omega);obtain⟨_,_,J⟩:=World.cells?_some h1;obtain⟨g,o,Q⟩:=a;have N:Q=none:=by
    obtain⟨⟨S,h10,rfl⟩,_⟩:=l 0 (by omega);obtain⟨_,_,K⟩:=World.cells?_some h10;have q0:=K 0 (by omega);have:=World.cell?_spot (v:=iV .i64 (f 0).k) (by simpa using q0);simpa [Addr.add] using this
   subst N;have F:∀j,((⟨g,o,none⟩:Addr).add (i*6)).add j=⟨g,o+i*6+j,none⟩:=fun j=>by rw[Addr.add_lit,Addr.add_lit]
   have q:∀j,j<6->W.cell? ⟨g,o+i*6+j,none⟩=[Value.int .i64 (f i).k,iV .i64 (f i).x,iV .i64 (f i).y,iV .i64 (f i).z,sV (f i).s,sV (f i).t][j]? :=fun j L=>by
    have:=J j L;rw[F j] at this;exact this
   have c0:=q 0 (by omega);have c1:=q 1 (by omega);have c2:=q 2 (by omega);have c3:=q 3 (by omega);have c4:=q 4 (by omega);have c5:=q 5 (by omega);have I:g<W.heap.size:=Rj W _ (u:=iV .i64 (f i).k) (show W.cell? ⟨g,o+i*6+0,none⟩=_ from c0);exact⟨g,o,rfl,I,⟨c0,c1,c2,c3,c4,c5⟩⟩
  ·obtain⟨hi,rfl⟩:=A i p b;exact(l i (by omega)).2.2
open Go.ChangeShapes Go.WideShapes Go.ChangeAt Go.WideMaps Go.WideElems Go.RowKit
open Go.ChangeMaps (setBlock shut_map_nil open_string shut_string keptBut_setBlock frozen?_setBlock heap_setBlock_same)
theorem LC:ownKnob yP.godebug=none:=by kernel_rfl
theorem Fb:yP.globalNamed "ledger/keccak.turns" =some 1:=by kernel_rfl
theorem Fc:yP.globalNamed "ledger/keccak.moves" =some 2:=by kernel_rfl
theorem Fa:yP.globalNamed "ledger/keccak.roundWords" =some 0:=by kernel_rfl
theorem Jf:(yP.globals[1]?).map (·.type)=some 145:=by kernel_rfl
theorem Jg:(yP.globals[2]?).map (·.type)=some 192:=by kernel_rfl
theorem Je:(yP.globals[0]?).map (·.type)=some 174:=by kernel_rfl
theorem PF:yP.cellsOf 145=25:=by kernel_rfl
theorem PD:yP.cellsOf 192=25:=by kernel_rfl
theorem PE:yP.cellsOf 174=24:=by kernel_rfl
theorem Gm:yP.cellsOf 144=1:=by kernel_rfl
theorem PC:yP.cellsOf 3=1:=by kernel_rfl
def ue:List Int:=AI.map Int.ofNat
def vh:List Int:=Dz.map Int.ofNat
def tR:List Int:=wJ.map Int.ofNat
def yH:List (String×DataW Unit):=[("ledger/keccak.turns",Lib.tabData .u64 ue),("ledger/keccak.moves",Lib.tabData .i64 vh),("ledger/keccak.roundWords",Lib.tabData .u64 tR)]
theorem Iw(j:Nat)(h:j<25):ue.getD j 0=((mJ j:Nat):Int):=by
 have:∀j:Fin 25,ue.getD j 0=((mJ j:Nat):Int):=by decide
 exact this ⟨j,h⟩
theorem MB(j:Nat)(h:j<25):vh.getD j 0=((lA j:Nat):Int):=by
 have:∀j:Fin 25,vh.getD j 0=((lA j:Nat):Int):=by decide
 exact this ⟨j,h⟩
theorem Hn(j:Nat)(_h:j<24):tR.getD j 0=((pT j:Nat):Int):=by
 unfold tR pT;rw[Q3,Q3,Rp];cases wJ[j]?<;>rfl
theorem LS{W}(h:laidMetH yP yH W):az W:=by
 rw[MakeChecks.laidMetH_plain _ _ _ (by kernel_rfl)] at h;have h1:=Lib.tabIs_of_head Fb Jf underlying145 underlying144 Gm PF h;have h2:=Lib.tabIs_of_head Fc Jg underlying192 underlying3 PC PD h.tail;have h3:=Lib.tabIs_of_head Fa Je underlying174 underlying144 Gm PE h.tail.tail;have k1:∀j,j<25->W.cell? ⟨1,j,none⟩=some (iV .u64 (mJ j)):=fun j a=>by
  rw[h1.cell Fb j (show j<ue.length from a),Iw j a]
 have k2:∀j,j<25->W.cell? ⟨2,j,none⟩=some (iV .i64 (lA j)):=fun j a=>by
  rw[h2.cell Fc j (show j<vh.length from a),MB j a]
 have k3:∀j,j<24->W.cell? ⟨0,j,none⟩=some (iV .u64 (pT j)):=fun j a=>by
  rw[h3.cell Fa j (show j<tR.length from a),Hn j a]
 exact⟨Rj _ _ (k2 0 (by decide)),k3,k1,k2⟩
theorem OV(b:Os)(a:Array Value):laidMetH yP yH ((World.doorLaid yP 24 b).forCall (fun _ _=>0) ⟨#[],a,[]⟩).memory:=
 laidMetH_of_parts3 (fuel:=8) (laidMet_of_run' 8 (by kernel_rfl) (by kernel_rfl)) (by kernel_rfl) (by kernel_rfl)
open Go.ChangeShapes Go.WideShapes Go.ChangeAt Go.WideMaps Go.WideElems Go.RowKit
theorem forged_witness(a:Os)(H:Type)(c:TypeId×Value->H):
 ∃(w:World) (b:Tape) (i:Input),w.os=a/\(w.forCall b i).Shaped yP/\i.vars=[]/\Input.okWide yP (w.forCall b i) .any w.heap.size 4 i/\
  (Rows.OpenSpec.upto Rows.forgedSpec).preRow c yP f4 Rows.forgedUptoRow.domain false yH (w.forCall b i).memory i.args/\({}:Assume).holds yP (lone (Frame.enter yP 4 i.args .normal) [] (w.forCall b i)):=by
 have d:Input.okWideB yP ((World.doorLaid yP 24 a).forCall (fun _ _=>0) ⟨#[],#[lV none 0 0],[]⟩) 4 ⟨#[],#[lV none 0 0],[]⟩=true:=by kernel_rfl
 have f:DataW.whole c yP ((World.doorLaid yP 24 a).forCall (fun _ _=>0) ⟨#[],#[lV none 0 0],[]⟩).memory f4.params.toList Rows.forgedSpec.vars false #[Value.slice none 0 0].toList 8=some ([.nil],[],[]):=by kernel_rfl
 refine⟨World.doorLaid yP 24 a,fun _ _=>0,⟨#[],#[lV none 0 0],[]⟩,rfl,World.shaped_of_RefB (by kernel_rfl) (by kernel_rfl),(Input.okWide_of_okWideB (base:=0) d).1,(Input.okWide_of_okWideB d).2,?_,?_⟩
 ·exact OpenSpec.preRow_of_cond 8 f (by kernel_rfl) (fun k e=>by cases e;kernel_rfl) (by kernel_rfl) (OV a _)
 ·simp only[Assume.holds];exact⟨by simp,by simp,fun _=>Modest.zero,by simp,by simp⟩
theorem forged_lifted(g:Os)(L:g.Started)(H:Type)(c:TypeId×Value->H)(F:Stop.Interp):
 ReturnsInHanded {} checked g 4 .any ((Rows.OpenSpec.upto Rows.forgedSpec).preRow c yP f4 Rows.forgedUptoRow.domain false Rows.forgedUptoRow.laid) (((Rows.OpenSpec.upto Rows.forgedSpec).at F).post c yP f4 false true false false):=by
 refine returnsInHanded_of_row (C:=checked) (s:=Rows.OpenSpec.upto Rows.forgedSpec) LC L (by kernel_rfl) func4 (forged_witness g H c) ?_;intro W base args m N M I k _ z _ r _ _;have l:=I;have f:=k;obtain⟨p,q,o,u,rfl,O,P⟩:=k;have i:=o;rw[params4] at i l;obtain⟨v0,d0,rfl,rfl,h0⟩:=trodAll_one i;obtain⟨rfl,rfl⟩:=trodVars_none u;have n:=h0;obtain⟨fuel,A⟩:=h0;simp only[Rz] at f;have B:∀x∈p,x.block<W.heap.size:=fun x J=>by simpa using f.lt x J
 have w:∀(d:World),yW W d->DataW.Trod c yP d 0 (fun b=>decide (b<W.heap.size)) true 22 v0 d0 p:=
  fun d D=>Below.trod Nb (by kernel_rfl) (of_decide_eq_true (by kernel_rfl)) n D B
 have y:Rows.uptoBulk d0<=1048576:=by
  have h:=of_decide_eq_true (z _ rfl);simp only[Rz,Rows.uptoBulkAll] at h;omega
 obtain⟨a0,l0,c0,rfl⟩:=okWide_slice underlying22 (l 0 22 v0 rfl rfl);obtain⟨a,cap,K,G,E⟩:=LM (v0:=.slice a0 l0 c0) (x:=(d0,p)) A y;have T:=LS r;have e1:Rows.forgedSpec.fn H ([d0]++[])= {results:=[.lit (.bool true)],args:=[d0]}:=by simp[Rows.forgedSpec]
 injection G with h1 h2 h3;subst h1 h2 h3;refine(forged_calls _ _ K W E T).mono fun e d ⟨he,hw⟩=>?_
 subst he;refine⟨_,rfl,_,_,_,[],p,[],f,?_,?_,?_,hw.frame _,fun h=>by cases h⟩
 ·rw[show((Rows.OpenSpec.upto Rows.forgedSpec).at F).fn H ([d0]++[])=_ from e1];exact trodAll_mk1 (shut_bool underlying4 true)
 ·rw[show((Rows.OpenSpec.upto Rows.forgedSpec).at F).fn H ([d0]++[])=_ from e1];exact trodAll_mk1 (w _ hw)
 ·rw[show((Rows.OpenSpec.upto Rows.forgedSpec).at F).fn H ([d0]++[])=_ from e1];rfl
end Go.Proofs.YtiimkkahmpmhdaaGreatDoor
