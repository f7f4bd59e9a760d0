import Derived.Test.YtmafnmpeehmndaaGreatDoorN
import Derived.Test.YtmafnmpeehmndaaGreatDoorP
open Go.Proofs.Tryz
open Go.Proofs.Tryz renaming prog→yP
open Go.Value renaming string→sV,pointer→pV,int→iV,slice→lV,bool→bV,tuple→tV,agg→gV
open Go.Ending renaming returned→rV
namespace Go.Proofs.YtmafnmpeehmndaaGreatDoor
open Go.RowKit
set_option maxRecDepth 100000
set_option maxHeartbeats 0
set_option linter.all false
def pO:Nat->Nd->Prop
 | _,.nil=>True
 |dep,.unread _=>dep<=80
 |dep,.leaf _ p _=>dep+p.length<=80
 |dep,.ext _ p k=>dep+p.length<=80/\pO (dep+p.length) k
 |dep,.branch _ _ ks=>∀i,i<16->pO (dep+1) (ks i)
def dj(v:yL)(ks:Nat->Nd):Nat->Nat
 | 0=>if v=[] then 0 else 1
 |i+1=>dj v ks i+(if(ks i).isNil=true then 0 else 1)
def sW:Nd->Prop
 | .ext _ _ k=>sW k
 | .branch _ v ks=>2<=dj v ks 16/\∀i,i<16->sW (ks i)
 | _=>True
structure BX(n:Nd)(dep:Nat):Prop where
 hash:n.hash=[]
 read:n.read
 bB:mP n
 full:sW n
 deep:pO dep n
 aK:∀h,js (n.gY h)->aO (n.gY h)
structure aA(k:Nd)(dep:Nat):Prop where
 bB:mP k
 full:sW k
 deep:pO dep k
 aK:aO k
def Ee(n:Nd)(h:n.hash=[]):n.gY []=n:=by
 cases n with
 |nil=>rfl
 |unread _=>exact congrArg Nd.unread h.symm
 |leaf _ _ _=>show Nd.leaf [] _ _=_;rw[<-show _=[] from h];rfl
 |ext _ _ _=>show Nd.ext [] _ _=_;rw[<-show _=[] from h];rfl
 |branch _ _ _=>show Nd.branch [] _ _=_;rw[<-show _=[] from h];rfl
def sH(a:Tree->Nat->Bool->Option Nd):Prop:=∀x dep bl n,bN 6 x=true->a x dep bl=some n->n.item=x/\BX n dep/\(bl=true->n.fY)
def xg(a:Tree->Nat->Bool->Option Nd)(x:Tree)(dep:Nat)(bl:Bool)(b:∀t,x≠ak t):jC a x dep bl=if ff x≠0\/32<=(ft x).size then none else a x dep bl:=by
 unfold jC;split
 ·next t=>exact absurd rfl (b t)
 ·rfl
def xe(a:Tree->Nat->Bool->Option Nd)(t)(dep:Nat)(bl:Bool):jC a (ak t) dep bl=if t=[] then some .nil else if t.length≠32\/80<dep then none else some (.unread t):=rfl
def xf(f:Tree->Nat->Bool->Option Nd)(H:sH f)(x:Tree)(dep:Nat)(bl:Bool)(k)(h:jC f x dep bl=some k):k.ref=x/\aA k dep/\(k=.nil\/(bl=true->k.fY)):=by
 by_cases g:∃t,x=ak t
 ·obtain⟨t,rfl⟩:=g;rw[xe] at h;by_cases h0:t=[]
  ·rw[Uj h0] at h;cases h;subst h0;exact⟨rfl,⟨trivial,trivial,trivial,trivial⟩,.inl rfl⟩
  ·rw[Ui h0] at h;by_cases h1:t.length≠32\/80<dep
   ·rw[Uj h1] at h;cases h
   ·rw[Ui h1] at h;cases h;refine⟨?_,⟨trivial,trivial,?_,?_⟩,.inr fun _=>trivial⟩
    ·show ko (.unread t) _=_;show(if t=[] then _ else ak t)=_;rw[Ui h0]
    ·show dep<=80;exact Nat.le_of_not_lt fun h=>h1 (.inr h)
    ·show t.length=32;exact Va fun h=>h1 (.inl h)
 ·rw[xg f x dep bl (fun t e=>g ⟨t,e⟩)] at h;by_cases c:ff x≠0\/32<=(ft x).size
  ·rw[Uj c] at h;cases h
  ·rw[Ui c] at h;have h0:ff x=0:=Va fun h=>c (.inl h)
   have h32:¬32<=(ft x).size:=fun h=>c (.inr h)
   have d:bN 6 x=true:=by
    unfold ff at h0;by_cases b:bN 6 x=true
    ·exact b
    ·rw[Ui b] at h0;cases h0
   have i:fH (bu 6 x)=true:=by
    unfold ff at h0;rw[Uj d] at h0;by_cases b:fH (bu 6 x)=true
    ·exact b
    ·rw[Ui b] at h0;cases h0
   unfold ft at h32;rw[Uj d,rG _ i,aN] at h32;let⟨hi,a,j⟩:=H x dep bl k d h;have l:k.some:=by have:=a.read;cases k<;>first|exact this.elim|trivial
   refine⟨?_,⟨a.bB,a.full,a.deep,?_⟩,.inr j⟩
   ·rw[ml l a.hash,hi]
   ·have:=a.aK [] (.inl ?_)
    ·rw[Ee k a.hash] at this;exact this
    ·rw[Ee k a.hash,a.hash];unfold fX Nd.code;rw[hi,Ui h32]
def Oo(d:Tree->Nat->Bool->Option Nd)(H:sH d)(x y:Tree)(dep:Nat)(n)(h:jy d x y dep=some n):n.item=bJ [x,y]/\BX n dep:=by
 unfold jy at h;split at h
 ·next t=>
  by_cases a:nx t=false\/80<dep+(bm t).length
  ·rw[Uj a] at h;cases h
  ·rw[Ui a] at h;have j:jT t:=(uC t).1 (by
    cases hq:nx t with
    |true=>rfl
    |false=>exact absurd (.inl hq) a)
   have i:dep+(bm t).length<=80:=Nat.le_of_not_lt fun h=>a (.inr h)
   have m:=Oe t;by_cases c:fT t=true
   ·rw[Uj c] at h;split at h
    ·next v=>
     by_cases g:v=[]\/160<v.length
     ·rw[Uj g] at h;cases h
     ·rw[Ui g] at h;cases h;refine⟨?_,rfl,trivial,fun e=>g (.inl e),trivial,i,fun h f=>⟨f,m,by omega,by omega⟩⟩;show bJ [ak (cR (bm t) true),ak v]=_;have:=Il t j;rw[c] at this;rw[this];rfl
    ·cases h
   ·rw[Ui c] at h;cases hk:jC d y (dep+(bm t).length) true with
    |none=>rw[hk] at h;cases h
    |some k=>
     rw[hk] at h;simp only at h;by_cases b:k.isNil=true\/bm t=[]
     ·rw[Uj b] at h;cases h
     ·rw[Ui b] at h;cases h;let⟨h1,h2,h3⟩:=xf d H y _ true k hk;have l:k.fY:=h3.elim (fun e=>absurd (.inl (by rw[e];rfl)) b) (fun h=>h rfl);refine⟨?_,rfl,trivial,⟨fun e=>b (.inr e),l,h2.bB⟩,h2.full,⟨i,h2.deep⟩,fun h f=>⟨f,m,by omega,l,h2.aK⟩⟩;show bJ [ak (cR (bm t) false),k.ref]=_;have:=Il t j;rw[show fT t=false from by cases hq:fT t with|true=>exact absurd hq c|false=>rfl] at this;rw[this,h1];rfl
 ·cases h
def xd(a:Tree->Nat->Bool->Option Nd)(ks:List Tree)(dep:Nat):∀n,kD a ks dep n=true->∀i,i<n->∃k,gW a ks dep i=some k
 | 0,_,i,hi=>by omega
 |n+1,h,i,hi=>by
  simp only[kD,Vr] at h
  by_cases e:i=n
  ·subst e;exact Option.isSome_iff_exists.1 h.2
  ·exact xd a ks dep n h.1 i (by omega)
def Au(a:Tree->Nat->Bool->Option Nd)(ks:List Tree)(dep:Nat)(v):∀n,iH a ks dep v n=dj v (fun i=>(gW a ks dep i).getD .nil) n
 | 0=>rfl
 |n+1=>by simp only[iH,dj,Au a ks dep v n]
def Tm(a:Tree->Nat->Bool->Option Nd)(H:sH a)(ks:List Tree)(g:ks.length=17)(dep:Nat)(n)(h:iI a ks dep=some n):n.item=bJ ks/\BX n dep/\n.fY:=by
 unfold iI at h;split at h
 ·next v hv=>
  by_cases d:160<v.length
  ·rw[Uj d] at h;cases h
  ·rw[Ui d] at h;by_cases c:kD a ks dep 16=true/\2<=iH a ks dep v 16
   ·rw[Uj c] at h;cases h;have b:∀i,i<16->((gW a ks dep i).getD .nil).ref=ks.getD i (ak [])/\aA ((gW a ks dep i).getD .nil) (dep+1):=fun i hi=>by
     let⟨k,b⟩:=xd a ks dep 16 c.1 i hi;rw[b];let⟨h1,h2,_⟩:=xf a H _ _ _ k b;exact⟨h1,h2⟩
    refine⟨?_,⟨rfl,trivial,fun i hi=>(b i hi).2.bB,⟨by rw[<-Au];exact c.2,fun i hi=>(b i hi).2.full⟩,fun i hi=>(b i hi).2.deep,fun h e=>⟨e,by omega,fun i hi=>(b i hi).2.aK⟩⟩,trivial⟩;show bJ ((List.range 16).map (fun i=>((gW a ks dep i).getD .nil).ref)++[ak v])=bJ ks;congr 1;apply VQ;intro i;by_cases hi:i<16
    ·rw[UW (by simp;exact hi),UK,List.getElem?_range hi];show some ((gW a ks dep i).getD .nil).ref=_;rw[(b i hi).1,Up,Uh (by omega)];rfl
    ·rw[Vf (by simp;omega)];simp only[UM,List.length_range];by_cases f:i=16
     ·subst f;rw[Up,Uh (by omega)] at hv;rw[Uh (show 16<ks.length by omega)];exact congrArg some hv.symm
     ·rw[U9 (by simp;omega),U9 (by omega)]
   ·rw[Ui c] at h;cases h
 ·cases h
def Rz{x ks a}(h:x=.slice ks a)(b:bN 6 x=true):x=bJ ks:=by
 subst h;cases a with
 |nil=>rfl
 |cons _ _=>cases b
def wK:∀d,sH (a6 d):=by
 intro d;induction d with
 |zero=>intro x dep bl n _ h;cases h
 |succ d ih=>
  intro x dep bl n g h;cases x with
  |slice ks es=>
   have c:=Rz rfl g;have f:a6 (d+1) (.slice ks es) dep bl=if ks.length=2/\bl=false then jy (a6 d) (ks.getD 0 (ak [])) (ks.getD 1 (ak [])) dep else if ks.length=17 then iI (a6 d) ks dep else none:=rfl;rw[f] at h;by_cases h2:ks.length=2/\bl=false
   ·rw[Uj h2] at h;let⟨h1,h3⟩:=Oo _ ih _ _ dep n h;refine⟨?_,h3,fun e=>by rw[h2.2] at e;cases e⟩;rw[h1,c];have:=h2.1;match ks,this with
    | [a,b],_=>rfl
   ·rw[Ui h2] at h;by_cases h17:ks.length=17
    ·rw[Uj h17] at h;let⟨h1,h3,h4⟩:=Tm _ ih ks h17 dep n h;exact⟨by rw[h1,c],h3,fun _=>h4⟩
    ·rw[Ui h17] at h;cases h
  | _=>cases h
def oT{h t dep bl n}(hr:gS h t dep bl=.ok n):aA n dep/\n.read/\n.hash=h/\n.code=t/\fe t=h/\(bl=true->n.fY):=by
 unfold gS at hr;by_cases h1:fe t≠h
 ·rw[Uj h1] at hr;cases hr
 ·rw[Ui h1] at hr;by_cases h2:0<dep/\t.length<32
  ·rw[Uj h2] at hr;cases hr
  ·rw[Ui h2] at hr;cases hd:dC t with
   |error c=>rw[hd] at hr;cases hr
   |ok x=>
    rw[hd] at hr;let⟨hc,hf,_⟩:=Br t x hd;have A0:CY h (a6 6 x dep bl)=.ok n:=hr;cases hn:a6 6 x dep bl with
    |none=>rw[hn] at A0;cases A0
    |some m=>
     rw[hn] at A0;cases A0
     let⟨hi,ho,hk⟩:=wK 6 x dep bl m hf hn;have A1:(m.gY h).hash=h:=AP h m (by have:=ho.read;cases m<;>first|exact this.elim|trivial);have hF:=ho.aK h (.inr (by rw[A1,Jd];unfold Nd.code;rw[hi,hc];exact(Va h1).symm));refine⟨⟨?_,?_,?_,hF⟩,?_,A1,?_,Va h1,?_⟩
     ·have:=ho.bB;cases m<;>exact this
     ·have:=ho.full;cases m<;>exact this
     ·have:=ho.deep;cases m<;>exact this
     ·have:=ho.read;cases m<;>exact this
     ·rw[Jd];unfold Nd.code;rw[hi];exact hc
     ·intro e;have:=hk e;cases m<;>exact this
def j5(M:Nat->Prop)(w:World)(a:Option Addr)(G:yB->Option yB):Prop:=∀(W:World) (h:yB),h.size=32->(∀x,M x->W.heap[x]? =w.heap[x]?)->
 yC 118 #[pV a,sV h] W fun e w'=>e=rV (tV #[sV ((G h).getD ⟨#[]⟩),iV .i64 (if(G h).isSome=true then 0 else 9)])/\∃n,w'=W.drewN n
def iC(G:yB->Option yB)(h:yL)(dep:Nat)(bl:Bool):Except Nat Nd:=match G (ae h) with
 |none=>.error 9
 |some t=>gS h t.data.toList dep bl
def Lr(M:Nat->Prop)(w:World)(i b:Nat)(g u)(G:yB->Option yB)(h:yL)(dep:Nat)(bl:Bool)(o:w.heap[i]? =some (.cells #[.pointer g,.pointer u] 75 (0,0)))
 (B:bU w b (.unread h) cN (fun _=>cN)) (E:h.length=32) (l:j5 M w g G) (hs:∀k t,G k=some t->t.size<=maxLen) (D:dep<=4000) (T:aB w):
 yC 111 #[.pointer (qA i),.pointer (qA b),.int .i64 (dep:Int),.bool bl] w (qO w b (iC G h dep bl)):=by
 have c0:=B.c0;have c1:=B.c1;have t0:w.cell? ⟨i,0,none⟩=some (.pointer g):=by rw[Ur w i 0 _ _ _ o];rfl
 have d:yH (∀W:World,W.heap=w.heap->yC 118 #[.pointer g,.string (ae h)] W fun e w'=>e=.returned (.tuple #[.string ((G (ae h)).getD ⟨#[]⟩),.int .i64 (if(G (ae h)).isSome=true then 0 else 9)])/\∃n,w'=W.drewN n):=fun W j=>l W (ae h) (by rw[aN];exact E) (fun _ _=>by rw[j])
 have q:(Nd.unread h).kind=0:=rfl;have p:(Nd.unread h).hash=h:=rfl;rw[q] at c0;rw[p] at c1;have x:=aa B;have z:=aa T;clear l o B q p T;cases hg:G (ae h) with
 |none=>
  have f:yH (iC G h dep bl=.error 9):=by show _=_;unfold iC;rw[hg]
  rw[hg] at d;simp only[Option.getD_none,Option.isSome_none,Bool.false_eq_true,UT] at d;generalize iC G h dep bl=R at*;clear hs hg;go_enter func111,ntmps111
  go_wp2
  go_quiet ((go_at_call 118;refine Calls.quiet_of (d.o _ rfl)))
  go_wp2
  go_ret
  rw[f.o];exact⟨rfl,Below.drewN (Un _ _) _⟩
 |some t=>
  have r:=hs _ _ hg;have f:yH (∀W:World,(∃n,W=w.drewN n)->yC 119 #[.pointer (qA b),.string t,.int .i64 (dep:Int),.bool bl] W fun e w'=>e=.returned (match iC G h dep bl with| .error c=>.int .i64 (c:Int) | .ok _=>.int .i64 0)/\qO w b (iC G h dep bl) e w'):=fun W j=>by
   obtain⟨n,rfl⟩:=j;have A:iC G h dep bl=gS h t.data.toList dep bl:=by unfold iC;rw[hg]
   rw[A];refine(Eu (w.drewN n) h b t dep bl x.o r D (z.o.below (Below.drewN (Un _ _) _))).mono fun e w' a=>?_
   cases hq2:gS h t.data.toList dep bl with
   |error c=>rw[hq2] at a;exact⟨a.1,a.1,(Below.drewN (Un _ w) n).trans a.2⟩
   |ok m=>rw[hq2] at a;exact⟨a.1,a.1,a.2.1,⟨a.2.2.os,a.2.2.tape,a.2.2.output,a.2.2.size,a.2.2.block⟩⟩
  rw[hg] at d;simp only[Option.getD_some,Option.isSome_some,U5] at d;generalize iC G h dep bl=R at*;have C:∃v:Int,(match R with| .error c=>Value.int .i64 (c:Int) | .ok _=>.int .i64 0)=.int .i64 v:=by cases R<;>exact⟨_,rfl⟩
  obtain⟨v,s⟩:=C;rw[s] at f;clear hs hg s r;go_enter func111,ntmps111
  go_wp2
  go_quiet ((go_at_call 118;refine Calls.quiet_of (d.o _ rfl)))
  go_wp2_with fail
  refine(f.o _ ⟨_,rfl⟩).mono ?_;rintro e w2 ⟨rfl,a⟩;have y:=aa a;clear a;go_wp2
  go_ret
  exact y.o
def dG(G:yB->Option yB)(t:Nd)(dep:Nat)(bl:Bool):Except Nat Nd:=match t with
 | .unread h=>iC G h dep bl
 |t=>.ok t
def gj(a:Nd->yL->Nat->Bool->Nd×Nat)(t:Nd)(p:yL)(dep:Nat):Nd×Nat:=match t with
 | .ext h q k=>if aF q p=q.length then(.ext h q (a k (p.drop q.length) (dep+q.length) true).1,(a k (p.drop q.length) (dep+q.length) true).2) else(.ext h q k,0)
 | .branch h v ks=>match p with
  | []=>(.branch h v ks,0)
  |c::r=>(.branch h v (aJ ks c.toNat (a (ks c.toNat) r (dep+1) false).1),(a (ks c.toNat) r (dep+1) false).2)
 |t=>(t,0)
def lG(t:Nd)(f:Nd->Nd×Nat):Except Nat Nd->Nd×Nat
 | .error c=>(t,c)
 | .ok t1=>f t1
def dc(G:yB->Option yB):Nat->Nd->yL->Nat->Bool->Nd×Nat
 | 0,t,_,_,_=>(t,0)
 |f+1,t,p,dep,bl=>lG t (fun t1=>gj (dc G f) t1 p dep) (dG G t dep bl)
def tT(G:yB->Option yB)(f:Nat)(p)(dep:Nat)(bl:Bool):dc G f .nil p dep bl=(.nil,0):=by cases f<;>rfl
def nf{G t t1 dep bl}(hK:aA t dep)(h:dG G t dep bl=.ok t1):aA t1 dep/\t1.ref=t.ref/\t1.isNil=t.isNil/\(bl=true->t.fY->t1.fY)/\(t1=.nil\/t1.read):=by
 cases t with
 |unread h0=>
  have hh:h0.length=32:=hK.aK;have h':iC G h0 dep bl=.ok t1:=h;unfold iC at h';split at h'
  ·cases h'
  ·next t _=>
   let⟨h1,h2,h3,_,_,h6⟩:=oT h';have A0:t1.hash≠[]:=fun e=>by rw[h3] at e;rw[e] at hh;cases hh
   have hs:t1.some:=by cases t1<;>first|exact h2.elim|trivial
   refine⟨h1,?_,?_,fun e _=>h6 e,.inr h2⟩
   ·rw[jQ hs A0,h3,jQ (t:=.unread h0) trivial (by rw[h3] at A0;exact A0)];rfl
   ·cases t1<;>first|exact h2.elim|rfl
 |nil=>cases h;exact⟨hK,rfl,rfl,fun _ h=>h,.inl rfl⟩
 |leaf _ _ _=>cases h;exact⟨hK,rfl,rfl,fun _ h=>h,.inr trivial⟩
 |ext _ _ _=>cases h;exact⟨hK,rfl,rfl,fun _ h=>h,.inr trivial⟩
 |branch _ _ _=>cases h;exact⟨hK,rfl,rfl,fun _ h=>h,.inr trivial⟩
structure uZ(t t':Nd)(dep:Nat)(bl:Bool):Prop where
 ok:aA t' dep
 ref:t'.ref=t.ref
 nil:t'.isNil=t.isNil
 fork:bl=true->t.fY->t'.fY
def xh(v)(ks:Nat->Nd)(c:Nat)(k:Nd)(h:k.isNil=(ks c).isNil):∀n,dj v (aJ ks c k) n=dj v ks n
 | 0=>rfl
 |n+1=>by
  simp only[dj,xh v ks c k h n]
  by_cases e:n=c
  ·subst e;rw[dK,h]
  ·rw[e9 _ _ _ _ e]
def Az(h p)(k k':Nd)(e:k'.ref=k.ref):(Nd.ext h p k').item=(Nd.ext h p k).item:=by
 show bJ [_,k'.ref]=bJ [_,k.ref];rw[e]
def AA(h v)(ks:Nat->Nd)(c:Nat)(k':Nd)(e:k'.ref=(ks c).ref):(Nd.branch h v (aJ ks c k')).item=(Nd.branch h v ks).item:=by
 show bJ ((List.range 16).map (fun i=>(aJ ks c k' i).ref)++_)=bJ ((List.range 16).map (fun i=>(ks i).ref)++_);congr 2;apply Vz;intro i _;by_cases hi:i=c
 ·subst hi;rw[dK,e]
 ·rw[e9 _ _ _ _ hi]
def Ht{t a:Nd}(hi:a.item=t.item)(b:a.hash=t.hash)(h:js t):js a:=by
 unfold js Nd.code at*;rw[hi,b];exact h
def Er{t a:Nd}(hi:a.item=t.item)(b:a.hash=t.hash)(h1:t.some)(h2:a.some):a.ref=t.ref:=by
 by_cases h0:t.hash=[]
 ·rw[ml h1 h0,ml h2 (by rw[b];exact h0),hi]
 ·rw[jQ h1 h0,jQ h2 (by rw[b];exact h0),b]
def RO{h q k k' dep}(a:aA (.ext h q k) dep)(b:uZ k k' (dep+q.length) true):aA (.ext h q k') dep:=by
 have c:=b.fork rfl a.bB.2.1;exact⟨⟨a.bB.1,c,b.ok.bB⟩,b.ok.full,⟨a.deep.1,b.ok.deep⟩,⟨Ht (Az h q k k' b.ref) rfl a.aK.1,a.aK.2.1,a.aK.2.2.1,c,b.ok.aK⟩⟩
def Tk{h v ks k' c dep}(a:aA (.branch h v ks) dep)(b:uZ (ks c) k' (dep+1) false):aA (.branch h v (aJ ks c k')) dep:=by
 have d:∀{P:Nd->Prop},(∀i,i<16->P (ks i))->P k'->∀i,i<16->P (aJ ks c k' i):=fun h1 h2 i hi=>by
  by_cases e:i=c
  ·subst e;rw[dK];exact h2
  ·rw[e9 _ _ _ _ e];exact h1 i hi
 exact⟨d a.bB b.ok.bB,⟨by rw[xh v ks c k' b.nil];exact a.full.1,d a.full.2 b.ok.full⟩,d a.deep b.ok.deep,⟨Ht (AA h v ks c k' b.ref) rfl a.aK.1,a.aK.2.1,d a.aK.2.2 b.ok.aK⟩⟩
def fq{h q k dep}(a:aA (.ext h q k) dep):aA k (dep+q.length):=⟨a.bB.2.2,a.full,a.deep.2,a.aK.2.2.2.2⟩
def dA{h v ks dep}(a:aA (.branch h v ks) dep)(c:Nat)(b:c<16):aA (ks c) (dep+1):=⟨a.bB c b,a.full.2 c b,a.deep c b,a.aK.2.2 c b⟩
def wG(G:yB->Option yB):∀(f:Nat) (t) (p) (dep:Nat) (bl:Bool),aA t dep->aw p->uZ t (dc G f t p dep bl).1 dep bl:=by
 intro f;induction f with
 |zero=>intro t p dep bl b _;exact⟨b,rfl,rfl,fun _ h=>h⟩
 |succ f ih=>
  intro t p dep bl b d;show uZ t (lG t _ (dG G t dep bl)).1 dep bl;cases hr:dG G t dep bl with
  |error c=>exact⟨b,rfl,rfl,fun _ h=>h⟩
  |ok t1=>
   let⟨h1,h2,h3,h4,_⟩:=nf b hr;suffices hs:uZ t1 (gj (dc G f) t1 p dep).1 dep bl from⟨hs.ok,hs.ref.trans h2,hs.nil.trans h3,fun e i=>hs.fork e (h4 e i)⟩
   cases t1 with
   |nil=>exact⟨h1,rfl,rfl,fun _ h=>h⟩
   |unread _=>exact⟨h1,rfl,rfl,fun _ h=>h⟩
   |leaf _ _ _=>exact⟨h1,rfl,rfl,fun _ h=>h⟩
   |ext h q k=>
    simp only[gj];by_cases e:aF q p=q.length
    ·rw[Uj e];have a:=ih k (p.drop q.length) (dep+q.length) true (fq h1) (da d _);exact⟨RO h1 a,Er (Az h q k _ a.ref) rfl trivial trivial,rfl,fun _ h=>h⟩
    ·rw[Ui e];exact⟨h1,rfl,rfl,fun _ h=>h⟩
   |branch h v ks=>
    cases p with
    |nil=>exact⟨h1,rfl,rfl,fun _ h=>h⟩
    |cons c r=>
     have g:=d c (Uk ..);have a:=ih (ks c.toNat) r (dep+1) false (dA h1 _ g) (fun y j=>d y (Ul _ j));exact⟨Tk h1 a,Er (AA h v ks _ _ a.ref) rfl trivial trivial,rfl,fun _ _=>trivial⟩
def Ex{h t dep bl c}(hr:gS h t dep bl=.error c):c=10\/c=11:=by
 unfold gS at hr;split at hr
 ·cases hr;exact .inl rfl
 ·split at hr
  ·cases hr;exact .inr rfl
  ·right;cases hd:dC t with
   |error _=>rw[hd] at hr;cases hr;rfl
   |ok x=>
    rw[hd] at hr;have A0:CY h (a6 6 x dep bl)=.error c:=hr;cases hn:a6 6 x dep bl with
    |none=>rw[hn] at A0;cases A0;rfl
    |some _=>rw[hn] at A0;cases A0
def vX{G t dep bl c}(h:dG G t dep bl=.error c):c=9\/c=10\/c=11:=by
 cases t with
 |unread h0=>
  have h':iC G h0 dep bl=.error c:=h;unfold iC at h';split at h'
  ·cases h';exact .inl rfl
  ·exact .inr (Ex h')
 | _=>cases h
def OZ(G:yB->Option yB):∀(f:Nat) (t) (p) (dep:Nat) (bl:Bool),aA t dep->aw p->p.length+1<=f->(dc G f t p dep bl).2=0->dD (dc G f t p dep bl).1 p:=by
 intro f;induction f with
 |zero=>intro t p dep bl _ _ h;omega
 |succ f ih=>
  intro t p dep bl hK hp hf h0;have A0:(lG t (fun t1=>gj (dc G f) t1 p dep) (dG G t dep bl)).2=0:=h0;show dD (lG t (fun t1=>gj (dc G f) t1 p dep) (dG G t dep bl)).1 p;cases hr:dG G t dep bl with
  |error c=>
   rw[hr] at A0;have:c=0:=A0;have:=vX hr;omega
  |ok t1=>
   rw[hr] at A0;let⟨h1,_,_,_,h5⟩:=nf hK hr;have h0:(gj (dc G f) t1 p dep).2=0:=A0;show dD (gj (dc G f) t1 p dep).1 p;cases t1 with
   |nil=>trivial
   |unread _=>exact(h5.elim (fun h=>by cases h) (fun h=>h.elim))
   |leaf _ _ _=>trivial
   |ext h q k=>
    simp only[gj] at h0⊢;by_cases e:aF q p=q.length
    ·rw[Uj e] at h0⊢;intro _;have hq:0<q.length:=Vt.2 h1.bB.1;have A1:=(iN q p).2;exact ih k (p.drop q.length) (dep+q.length) true (fq h1) (da hp _) (by rw[Uu];omega) h0
    ·rw[Ui e];intro e2;exact absurd e2 e
   |branch h v ks=>
    cases p with
    |nil=>trivial
    |cons c r=>
     have hc:c.toNat<16:=hp c (Uk ..);show dD (aJ ks c.toNat _ c.toNat) r;rw[dK];exact ih (ks c.toNat) r (dep+1) false (dA h1 _ hc) (fun y hy=>hp y (Ul _ hy)) (by simp at hf;omega) h0
def fZ(w:World)(S:Nat->Prop)(p:Value)(d:Nd->Nd)(a:Nat->Prop)(c:Value):Prop:=
 (∀x,a x->S x)/\∀(w':World) (b:Nd) (F:Nat->Prop),(∀x,S x->¬a x->w'.heap[x]? =w.heap[x]?)->At w' b F c->(∀x,F x->a x\/¬S x)->At w' (d b) (fun x=>S x\/F x) p
def fZ.refl(w S p):fZ w S p (fun t=>t) S p:=⟨fun _ h=>h,fun _ _ _ _ h _=>h.mono fun _ hx=>.inr hx⟩
def fZ.trans{w S c f p j k l e}(h1:fZ w S p l c j)(h2:fZ w c j e f k):fZ w S p (fun t=>l (e t)) f k:=
 ⟨fun x a=>h1.1 x (h2.1 x a),fun w' m F i n g=>
  (h1.2 w' (e m) (fun x=>c x\/F x) (fun x a b=>i x a fun o=>b (h2.1 x o))
   (h2.2 w' m F (fun x a b=>i x (h1.1 x a) b) n (fun x a=>(g x a).imp id fun b d=>b (h1.1 x d)))
   (fun x a=>a.elim .inl fun q=>(g x q).imp (h2.1 x) id)).mono fun x a=>a.elim .inl fun h=>h.elim (fun d=>.inl (h1.1 x d)) .inr⟩
def fZ.step{w w2:World}{S c d p e f}(h:fZ w S p f c e)(m:∀x,S x->¬c x->w2.heap[x]? =w.heap[x]?)(hs:∀x,d x->c x\/¬S x):fZ w2 (fun x=>S x\/d x) p f d e:=
 ⟨fun _ a=>.inr a,fun w' n F h1 g i=>(h.2 w' n F (fun x a b=>(h1 x (.inl a) fun k=>(hs x k).elim b fun l=>l a).trans (m x a b)) g
  (fun x a=>(i x a).elim (hs x) fun b=>.inr fun j=>b (.inl j))).mono fun _ a=>a.elim (fun h=>.inl (.inl h)) .inr⟩
def fZ.kept{w w2:World}{S a p d e}(h:fZ w S p e a d)(i:∀x,S x->¬a x->w2.heap[x]? =w.heap[x]?):fZ w2 S p e a d:=
 ⟨h.1,fun w' j F h1 f g=>h.2 w' j F (fun x c b=>(h1 x c b).trans (i x c b)) f g⟩
def fZ.fill{w S a p c d t}(h:fZ w S p d a c)(e:At w t a c):At w (d t) S p:=
 (h.2 w t a (fun _ _ _=>rfl) e fun _ b=>.inl b).mono fun x b=>b.elim id (h.1 x)
def fZ.none{w S p t}(b:At w t S p):fZ w S p (fun _=>t) (fun _=>False) (pV none):=
 ⟨fun _ h=>h.elim,fun _ _ _ hw _ _=>(b.kept fun x a _=>hw x a fun h=>h).mono fun _ a=>.inl a⟩
def fZ.ext{w S h q k b u S'}(c:S b)(B:bU w b (.ext h q k) (pV u) (fun _=>cN))(hs:∀x,S' x->S x/\x≠b):fZ w S (ptr b) (fun k'=>.ext h q k') S' (pV u):=
 ⟨fun x a=>(hs x a).1,fun w' j F i d f=>⟨b,_,F,rfl,.inl c,(i b c fun h=>(hs b h).2 rfl).trans B,fun x a=>⟨.inr a,fun e=>by subst e;exact(f x a).elim (fun h=>(hs x h).2 rfl) fun g=>g c⟩,d⟩⟩
def fZ.branch{w S h v ks b U k}(l:S b)(B:bU w b (.branch h v ks) cN (fun i=>pV (U i)))(d:Kids w ks (fun x=>S x/\x≠b) U k)(c:Nat)(f:c<16):
 fZ w S (ptr b) (fun k'=>.branch h v (aJ ks c k')) (k c) (pV (U c)):=
 ⟨fun x a=>(d.sub c x f a).1,fun w' s F o p n=>by
  refine⟨b,fun i=>pV (U i),fQ k c F,rfl,.inl l,(o b l fun h=>(d.sub c b f h).2 rfl).trans B,fun i x hi a=>?_,fun i j x hi g h1 h2=>?_,fun i hi=>?_⟩
  ·unfold fQ at a
   by_cases e:i=c
   ·rw[Uj e] at a
    exact⟨.inr a,fun e2=>by subst e2;exact(n x a).elim (fun h=>(d.sub c x f h).2 rfl) fun m=>m l⟩
   ·rw[Ui e] at a
    exact⟨.inl (d.sub i x hi a).1,(d.sub i x hi a).2⟩
  ·unfold fQ at h1 h2
   have key:∀j,j<16->j≠c->F x->k j x->False:=fun j g r q hs=>(n x q).elim (fun h=>r (d.jf j c x g f hs h)) fun m=>m (d.sub j x g hs).1
   by_cases e1:i=c
   ·rw[Uj e1] at h1
    by_cases e2:j=c
    ·omega
    ·rw[Ui e2] at h2;exact(key j g e2 h1 h2).elim
   ·rw[Ui e1] at h1
    by_cases e2:j=c
    ·rw[Uj e2] at h2;exact(key i hi e1 h2 h1).elim
    ·rw[Ui e2] at h2;exact d.jf i j x hi g h1 h2
  ·by_cases e:i=c
   ·subst e;simp only[aJ,fQ,U5];exact p
   ·simp only[aJ,fQ,e,UT]
    exact(d.at_ i hi).kept fun x a _=>o x (d.sub i x hi a).1 fun h=>e (d.jf i c x hi f a h)⟩
structure BY(w:World)(S:Nat->Prop)(b:Nat)(t:Nd)(r:yL)(d:Nat)(pl:Nd->Nd)(k:Nd)(u:Option Addr)(r':yL)(d':Nat)(bl':Bool)(S':Nat->Prop):Prop where
 at_:At w k S' (pV u)
 hole:fZ w S (ptr b) pl S' (pV u)
 ok:aA k d'
 fork:bl'=true->k.fY
 mx:aw r'
 deep:d'+r'.length<=80
 less:k≠.nil->r'.length+1<=r.length
 same:∀G f,gj (dc G f) t r d=(pl (dc G f k r' d' bl').1,(dc G f k r' d' bl').2)
 last:k=.nil->t.at r=aM (pl .nil) r
 more:k≠.nil->∀k',aM (pl k') r=aM k' r'
def JX(W:World)(S:Nat->Prop)(b:Nat)(t:Nd)(r:yL)(d:Nat)(e:Ending)(w':World):Prop:=
 ∃pl k u r' d' bl' S',e=rV (cz (pV u) (ae r') d' bl')/\BY W S b t r d pl k u r' d' bl' S'/\yW W w'
def mE(d:Nat):aA .nil d:=⟨trivial,trivial,trivial,trivial⟩
def zS{W S b t r d}(a:At W t S (ptr b))(h1:∀G f,gj (dc G f) t r d=(t,0))(h2:t.at r=aM t r):BY W S b t r d (fun _=>t) .nil none [] 0 false (fun _=>False):=
 ⟨rfl,fZ.none a,mE 0,fun h=>(by cases h),fun _ h=>(Vs h).elim,by decide,fun h=>(h rfl).elim,fun G f=>by rw[h1 G f,tT],fun _=>h2,fun h=>(h rfl).elim⟩
def PC(W S t)(b:Nat)(r)(d:Nat)(bl:Bool)(i:At W t S (pV (qA b)))(g:aA t d)(p:aw r)(D:d+r.length<=80)(hs:t.read):
 yC 112 #[cz (pV (qA b)) (ae r) d bl] W (JX W S b t r d):=by
 have n:=i;have u:=g.aK;cases t with
 |nil=>exact hs.elim
 |unread _=>exact hs.elim
 |leaf h q v=>
  let⟨l,a,_,B⟩:=i;cases a
  exact(zP b h q v _ _ r (by have:=u.2.2.1;omega) d bl W B).mono fun e w' ⟨h1,h2⟩=>⟨_,_,_,_,_,_,_,h1,zS n (fun _ _=>rfl) rfl,h2⟩
 |ext h q k=>
  let⟨l,L,C,a,o,B,F,w⟩:=i;cases a
  obtain⟨A,rfl⟩:=w.ptr;have K:=u.2.2.1;by_cases e:aF q r=q.length
  ·have m:aF r q=q.length:=by rw[oP];exact e
   have E:=(iN q r).2;rw[e] at E;have J:=Vt.2 g.bB.1;refine(wM b h q k A _ r (by omega) (by omega) m d (by omega) bl W B).mono fun en w' ⟨h1,h2⟩=>⟨fun k'=>.ext h q k',k,A,r.drop q.length,d+q.length,true,C,h1,⟨w,fZ.ext o B F,fq g,fun _=>g.bB.2.1,da p _,by rw[Uu];omega,?_,?_,?_,?_⟩,h2⟩
   ·intro _;rw[Uu];omega
   ·intro G f;simp only[gj,Uj e]
   ·intro z;have:=g.bB.2.1;rw[z] at this;exact this.elim
   ·intro _ k';simp only[aM,Uj e]
  ·have m:aF r q≠q.length:=by rw[oP];exact e
   exact(zQ b h q k _ _ r (by omega) (by omega) m d bl W B).mono fun en w' ⟨h1,h2⟩=>⟨_,_,_,_,_,_,_,h1,zS n (fun _ _=>by simp only[gj,Ui e]) (by simp only[aM,Ui e];rfl),h2⟩
 |branch h v ks=>
  cases r with
  |nil=>
   let⟨l,M,s,a,_,B,_⟩:=i;cases a
   exact(zR b h v ks _ _ d bl W B).mono fun en w' ⟨h1,h2⟩=>⟨_,_,_,_,_,_,_,h1,zS n (fun _ _=>rfl) (by simp[Nd.at,aM,Nd.kind,Nd.path,Nd.value]),h2⟩
  |cons c r=>
   let⟨l,U,s,a,o,B,x⟩:=i.kids;cases a
   have j:=p c (Uk ..);have I:r.length+1+d<=80:=by simp at D;omega
   refine(wN b h v ks _ _ c r j (U c.toNat) rfl (by omega) d (by omega) bl W B).mono fun en w' ⟨h1,h2⟩=>⟨fun k'=>.branch h v (aJ ks c.toNat k'),ks c.toNat,U c.toNat,r,d+1,false,s c.toNat,h1,⟨x.at_ _ j,fZ.branch o B x c.toNat j,dA g _ j,(fun h=>by cases h),fun y H=>p y (Ul _ H),by omega,?_,?_,?_,?_⟩,h2⟩
   ·intro _;simp
   ·intro G f;rfl
   ·intro z;show _=aM (aJ ks c.toNat .nil c.toNat) r;rw[dK];simp[Nd.at,aM,Nd.path]
   ·intro _ k';show aM (aJ ks c.toNat k' c.toNat) r=_;rw[dK]
structure bO(T:Nat->Prop)(w w':World):Prop where
 os:w'.os=w.os
 tape:w'.tape=w.tape
 output:w'.output=w.output
 size:w.heap.size<=w'.heap.size
 block:∀k,k<w.heap.size->¬T k->w'.heap[k]? =w.heap[k]?
namespace bO
variable {T T' : Nat → Prop} {w w1 w2 : World}
def refl(T w):bO T w w:=⟨rfl,rfl,rfl,Ug _,fun _ _ _=>rfl⟩
def iP(h:yW w w1):bO T w w1:=⟨h.os,h.tape,h.output,h.size,fun k a _=>h.block k a⟩
def trans(h:bO T w w1)(k:bO T' w1 w2)(c:∀x,T' x->T x\/w.heap.size<=x):bO T w w2:=
 ⟨k.os.trans h.os,k.tape.trans h.tape,k.output.trans h.output,Ut h.size k.size,fun x b a=>(k.block x (Us b h.size) fun d=>(c x d).elim a fun e=>by omega).trans (h.block x b a)⟩
def kU(h:bO T w w1)(k:yW w1 w2):bO T w w2:=h.trans (T':=fun _=>False) (iP k) fun _ h=>h.elim
def Fl{b}(k:Kept b w w1):bO (fun x=>x=b) w w1:=⟨k.os,k.tape,k.output,k.size,fun x c a=>k.block x c a⟩
def mono(h:bO T w w1)(c:∀x,T x->T' x):bO T' w w1:=⟨h.os,h.tape,h.output,h.size,fun x d b=>h.block x d fun a=>b (c x a)⟩
def set(h:bO T w w1)(g i:Nat)(v)(c:w.heap.size<=g):bO T w (w1.setCell ⟨g,i,none⟩ v):=
 ⟨h.os,h.tape,h.output,by simpa using h.size,fun k a b=>by rw[Uy _ _ _ _ (by show k≠g;omega)];exact h.block k a b⟩
def cJ(h:bO T w w1)(g:Nat)(e:w.heap.size<=g)(a b c d):bO T w ((((w1.setCell ⟨g,0,none⟩ a).setCell ⟨g,1,none⟩ b).setCell ⟨g,2,none⟩ c).setCell ⟨g,3,none⟩ d):=(((h.set g 0 a e).set g 1 b e).set g 2 c e).set g 3 d e
end bO
def aB.nL{T w w'}(h:aB w)(k:bO T w w')(c:∀x,T x->3<=x):aB w':=by
 have h3:=h.size;have b:∀x,x<3->w'.heap[x]? =w.heap[x]? :=fun x e=>k.block x (by omega) fun d=>by have:=c x d;omega
 exact⟨Ut h.size k.size,fun j a=>(Uz (w:=w) (b 0 (by omega))).trans (h.words j a),fun j a=>(Uz (w:=w) (b 1 (by omega))).trans (h.turns j a),fun j a=>(Uz (w:=w) (b 2 (by omega))).trans (h.ud j a)⟩
def xY(w:World)(S:Nat->Prop)(b:Nat)(r:Except Nat Nd)(e:Ending)(w':World):Prop:=match r with
 | .error c=>e=rV (iV .i64 (c:Int))/\yW w w'
 | .ok n=>e=rV (iV .i64 0)/\At w' n (fun x=>S x\/w.heap.size<=x) (ptr b)/\bO S w w'
def Ev(M:Nat->Prop)(w)(i b:Nat)(l u)(G:yB->Option yB)(t:Nd)(S:Nat->Prop)(dep:Nat)(bl:Bool)(s:fF w i l u)
 (g:At w t S (pV (qA b))) (q:aA t dep) (p:j5 M w l G) (hs:∀k t,G k=some t->t.size<=maxLen) (v:dep<=4000) (T:aB w):
 yC 111 #[pV (qA i),pV (qA b),i6 (dep:Int),bV bl] w (xY w S b (dG G t dep bl)):=by
 by_cases d:t.read
 ·let⟨o,y,z,j,_,B⟩:=g.ai (by cases t<;>first|exact d.elim|trivial);cases j
  have r:dG G t dep bl=.ok t:=by cases t<;>first|exact d.elim|rfl
  rw[r];exact(Nu w i b t y z dep bl B d).mono fun e w' ⟨h1,h2⟩=>by subst h2;exact⟨h1,g.mono fun _ f=>.inl f,bO.refl _ _⟩
 ·cases t with
  |nil=>have h:Value.pointer (qA b)=pV none:=g;cases h
  |unread h=>
   let⟨o,j,m,B⟩:=g;cases j
   refine(Lr M w i b l u G h dep bl s B q.aK p hs v T).mono fun e w' a=>?_
   show xY w S b (iC G h dep bl) e w';cases hR:iC G h dep bl with
   |error c=>rw[hR] at a;exact a
   |ok n=>rw[hR] at a;exact⟨a.1,a.2.1.mono fun x f=>f.imp (fun e=>by rw[e];exact m) id,(bO.Fl a.2.2).mono fun x f=>by rw[f];exact m⟩
  |leaf _ _ _=>exact absurd trivial d
  |ext _ _ _=>exact absurd trivial d
  |branch _ _ _=>exact absurd trivial d
structure xR(G:yB->Option yB)(w0:World)(S0:Nat->Prop)(ga gl gr:Nat)(u0:Option Addr)(T:Nd)(E:Nat)(V:yL)(g:Nat)(wr:World)(pl:Nd->Nd)(t:Nd)(S Sc:Nat->Prop)(u:Option Addr)(r:yL)(d:Nat)(bl:Bool)(ul:Option Addr)(rl:yL)(dl:Nat)(bll:Bool):Prop where
 here:db wr ga u (ae r) d bl
 last:db wr gl ul (ae rl) dl bll
 res:db wr gr none ⟨#[]⟩ 0 false
 root:fZ wr S (pV u0) pl Sc (pV u)
 at_:At wr t Sc (pV u)
 sub:∀x,S x->(S0 x\/w0.heap.size<=x)/\x<wr.heap.size/\x≠ga/\x≠gl/\x≠gr
 ok:aA t d
 mx:aw r
 deep:d+r.length<=80
 fuel:t≠.nil->r.length+1<=g
 tree:T=pl (dc G g t r d bl).1
 err:E=(dc G g t r d bl).2
 more:t≠.nil->E=0->aM (dc G g t r d bl).1 r=V
 done:t=.nil->E=0->sM wr wr.heap.size ul rl V
 wrote:bO S0 w0 wr
def cJ(w:World)(g:Nat)(u:Option Addr)(r:yL)(d:Nat)(bl:Bool):World:=(((w.setCell ⟨g,0,none⟩ (pV u)).setCell ⟨g,1,none⟩ (sV (ae r))).setCell ⟨g,2,none⟩ (iV .i64 (d:Int))).setCell ⟨g,3,none⟩ (bV bl)
def mZ(w)(g:Nat)(u r)(d:Nat)(bl:Bool)(x:Nat)(h:x≠g):(cJ w g u r d bl).heap[x]? =w.heap[x]? :=by
 unfold cJ;rw[Uy _ _ _ _ h,Uy _ _ _ _ h,Uy _ _ _ _ h,Uy _ _ _ _ h]
def tG(w)(g:Nat)(u r)(d:Nat)(bl:Bool):(cJ w g u r d bl).heap.size=w.heap.size:=by unfold cJ;simp
def Ez{G t t1 dep bl}(a:aA t dep)(h:dG G t dep bl=.ok t1)(b:t≠.nil):t1.read:=by
 let⟨_,_,h3,_,h5⟩:=nf a h;rcases h5 with e|e
 ·rw[e] at h3;cases t<;>first|exact absurd rfl b|cases h3
 ·exact e
def kJ(wr w2:World)(a:Nat->Prop):Nat->Prop:=fun x=>a x\/(wr.heap.size<=x/\x<w2.heap.size)
def Ds{G:yB->Option yB}{w0:World}{f:Nat->Prop}{j e k:Nat}{u0:Option Addr}{T:Nd}{E:Nat}{V:yL}{g:Nat}{wr:World}{n:Nd->Nd}{t:Nd}{S a:Nat->Prop}{b:Nat}{r:yL}{d:Nat}{bl:Bool}{p:Option Addr}{o:yL}{i:Nat}{h:Bool}
 (c:xR G w0 f j e k u0 T E V g wr n t S a (qA b) r d bl p o i h) {t1:Nd} {w2:World} (l:At w2 t1 (fun x=>a x\/wr.heap.size<=x) (ptr b)):
 At (cJ w2 e (qA b) r d bl) t1 (kJ wr w2 a) (ptr b):=by
 have q:=c.last.lt;refine(l.cut.mono (S':=kJ wr w2 a) ?_).kept ?_
 ·rintro x ⟨h1|h1,h2⟩
  ·exact .inl h1
  ·exact .inr ⟨h1,h2⟩
 ·rintro x m _;refine mZ _ _ _ _ _ _ _ ?_;rcases m with h1|⟨h1,_⟩
  ·exact(c.sub x (c.root.1 x h1)).2.2.2.1
  ·omega
def LX{G:yB->Option yB}{w0:World}{v:Nat->Prop}{f e j:Nat}{u0:Option Addr}{T:Nd}{E:Nat}{V:yL}{g:Nat}{wr:World}{F:Nd->Nd}{t:Nd}{S i:Nat->Prop}{b:Nat}{r:yL}{d:Nat}{bl:Bool}{ul:Option Addr}{rl:yL}{M:Nat}{L:Bool}
 (c:xR G w0 v f e j u0 T E V (g+1) wr F t S i (qA b) r d bl ul rl M L) (m:t≠.nil) (h1:f≠e) (h2:f≠j) (h3:e≠j) (p1:w0.heap.size<=f) (p2:w0.heap.size<=e)
 {t1:Nd} (I:dG G t d bl=.ok t1) {w2:World} (N:At w2 t1 (fun x=>i x\/wr.heap.size<=x) (ptr b)) (C:bO i wr w2)
 {w4:World} {H:Nd->Nd} {k:Nd} {u:Option Addr} {p:yL} {o:Nat} {n:Bool} {S':Nat->Prop} (l:BY (cJ w2 e (qA b) r d bl) (kJ wr w2 i) b t1 r d H k u p o n S') (q:Below (cJ w2 e (qA b) r d bl).heap.size (cJ w2 e (qA b) r d bl) w4):
 db w4 f (qA b) (ae r) d bl/\xR G w0 v f e j u0 T E V g (cJ w4 f u p o n) (fun x=>F (H x)) k (fun x=>S x\/kJ wr w2 i x) S' u p o n (qA b) r d bl:=by
 have U:=c.here.lt;have W:=c.last.lt;have X:=c.res.lt;have hz:=C.size;have B0:=tG w2 e (qA b) r d bl;have B1:=q.size;have B2:=tG w4 f u p o n;have D:∀x,i x->x<wr.heap.size/\x≠f/\x≠e/\x≠j:=fun x a=>(c.sub x (c.root.1 x a)).2
 have w:∀x,(S x\/kJ wr w2 i x)->(v x\/w0.heap.size<=x)/\x<w2.heap.size/\x≠f/\x≠e/\x≠j:=fun x a=>by
  rcases a with a|a|⟨a,A1⟩
  ·have:=c.sub x a;exact⟨this.1,by omega,this.2.2⟩
  ·have:=c.sub x (c.root.1 x a);exact⟨this.1,by omega,this.2.2⟩
  ·have:=c.wrote.size;exact⟨.inr (by omega),A1,by omega,by omega,by omega⟩
 have b24:∀x,x<w2.heap.size->x≠e->w4.heap[x]? =w2.heap[x]? :=fun x a m=>(q.block x (by omega)).trans (mZ _ _ _ _ _ _ _ m)
 have b45:∀x,x≠f->(cJ w4 f u p o n).heap[x]? =w4.heap[x]? :=fun x m=>mZ _ _ _ _ _ _ _ m
 have y:∀x,x<wr.heap.size->¬i x->w2.heap[x]? =wr.heap[x]? :=fun x a m=>C.block x a m
 have A4:¬i f:=fun h=>(D f h).2.1 rfl
 have A5:¬i e:=fun h=>(D e h).2.2.1 rfl
 have A6:¬i j:=fun h=>(D j h).2.2.2 rfl
 have A7:=c.here.kept (y f U A4);have K:db w4 f (qA b) (ae r) d bl:=A7.kept (b24 f (by omega) h1);have A8:db w4 e (qA b) (ae r) d bl:=by
  have:db (cJ w2 e (qA b) r d bl) e (qA b) (ae r) d bl:=(c.last.kept (y e W A5)).set _ _ _ _;exact this.kept (q.block e (by omega))
 have A9:db w4 j none ⟨#[]⟩ 0 false:=(c.res.kept (y j X A6)).kept (b24 j (by omega) (Ne.symm h3));refine⟨K,?_⟩;have z:dc G (g+1) t r d bl=(H (dc G g k p o n).1,(dc G g k p o n).2):=by
  show lG t (fun t1=>gj (dc G g) t1 r d) (dG G t d bl)=_;rw[I];exact l.same G g
 have P:=l.hole.1;have A0:t1.some:=by have:=Ez c.ok I m;cases t1<;>first|exact this.elim|trivial
 let⟨b',A2,A3,hu,J,B⟩:=(Ds c N).ai A0;cases hu
 have R:(cJ w4 f u p o n).heap[b]? =(cJ w2 e (qA b) r d bl).heap[b]? :=by
  have:=w b (.inr J);rw[b45 b this.2.2.1];exact q.block b (by omega)
 refine⟨K.set _ _ _ _,A8.kept (b45 e (Ne.symm h1)),A9.kept (b45 j (Ne.symm h2)),?_,?_,?_,l.ok,l.mx,l.deep,?_,?_,?_,?_,?_,?_⟩
 ·have Y:fZ (cJ w2 e (qA b) r d bl) (fun x=>S x\/kJ wr w2 i x) (pV u0) F (kJ wr w2 i) (ptr b):=by
   refine c.root.step (fun x a Z=>?_) fun x a=>?_
   ·have:=c.sub x a;rw[mZ _ _ _ _ _ _ _ this.2.2.2.1];exact y x this.2.1 Z
   ·rcases a with a|⟨a,_⟩
    ·exact .inl a
    ·exact .inr fun O=>by have:=(c.sub x O).2.1;omega
  refine(Y.trans l.hole).kept fun x a _=>?_
  have:=w x a;rw[b45 x this.2.2.1];exact q.block x (by omega)
 ·refine l.at_.kept fun x a _=>?_
  have:=w x (.inr (P x a));rw[b45 x this.2.2.1];exact q.block x (by omega)
 ·intro x a;have:=w x a;exact⟨this.1,by omega,this.2.2⟩
 ·intro s;have:=l.less s;have:=c.fuel m;omega
 ·rw[c.tree,z]
 ·rw[c.err,z]
 ·intro s A;have:=c.more m A;rw[z] at this;rw[<-l.more s];exact this
 ·intro s A;have:=c.more m A;rw[z,s,tT] at this;refine .inr ⟨b,t1,A2,A3,rfl,?_,R.trans B,(l.last s).trans this⟩
  ·have:=w b (.inr J);omega
 ·have Q:bO v w0 w2:=c.wrote.trans C fun x a=>(c.sub x (c.root.1 x a)).1
  have h3:bO v w0 (cJ w2 e (qA b) r d bl):=Q.cJ e p2 _ _ _ _;exact(h3.kU q).cJ f p1 _ _ _ _
def BJ(w:World)(S:Nat->Prop)(u:Option Addr)(T:Nd)(E:Nat)(V:yL)(e:Ending)(w':World):Prop:=
 (∃S',At w' T S' (pV u)/\∀x,S' x->S x\/w.heap.size<=x)/\bO S w w'/\
  ((E=0/\∃ul rl dl bl,e=rV (tV #[cz (pV ul) (ae rl) dl bl,iV .i64 0])/\sM w' w'.heap.size ul rl V)\/
   (E≠0/\e=rV (tV #[cz (pV none) ⟨#[]⟩ 0 false,iV .i64 (E:Int)])))
def KZ(M:Nat->Prop)(w)(m:Nat)(z:Option Addr)(u t S)(G:yB->Option yB)(key:yB)(hk:key.size<=40)(hA:At w t S (pV u))(hK:aA t 0)
 (N:fF w m z u) (hG:j5 M w z G) (hs:∀k t,G k=some t->t.size<=maxLen) (TB:aB w) (C2:∀x,S x->3<=x/\x≠m/\¬M x) (hM:∀x,M x->x<w.heap.size):
 yC 76 #[pV (qA m),sV key] w (BJ w S u (dc G 81 t (ch key.data.toList) 0 false).1 (dc G 81 t (ch key.data.toList) 0 false).2 (aM (dc G 81 t (ch key.data.toList) 0 false).1 (ch key.data.toList))):=by
 have t1:w.cell? ⟨m,1,none⟩=some (pV u):=by rw[Ur w m 1 _ _ _ N];rfl
 have F8:m<w.heap.size:=(Um.1 N).1;have HS:yH (∀W:World,yC 79 #[pV u,sV key] W fun e w'=>e=rV (cz (pV u) (ae (ch key.data.toList)) 0 false)/\yW W w'):=fun W=>vJ u key (by omega) W
 have HA:=aa hA.cut;have HK:=aa hK;have D9:=aa N;have HG:yH (j5 M w z G/\∀k t,G k=some t->t.size<=maxLen):=⟨hG,hs⟩
 have D8:=aa TB;have Z:=aa C2;have HM:=aa hM;have HL:yH ((ch key.data.toList).length<=80):=by show _<=80;rw[py];have:key.data.toList.length=key.size:=(by simp);omega
 have HN:yH (aw (ch key.data.toList)):=xx _;obtain⟨T,O⟩:=yX ((dc G 81 t (ch key.data.toList) 0 false).1)
 obtain⟨E,A3⟩:=yX ((dc G 81 t (ch key.data.toList) 0 false).2)
 obtain⟨V,P⟩:=yX (aM (dc G 81 t (ch key.data.toList) 0 false).1 (ch key.data.toList))
 rw[<-O,<-A3];rw[<-O] at P;rw[<-P];have A0:=aa O;have D5:=aa A3;have B3:=aa P;clear N hk hA hK hG hs TB C2 hM O A3 P;generalize ch key.data.toList=K0 at*;unfold cz at*;go_enter func76,ntmps76
 go_wp2_with fail
 refine(HS.o _).mono ?_;rintro e w1 ⟨rfl,Q⟩;obtain⟨⟨c0,c1,c2,c3⟩,⟨f0,f1,f2,f3⟩,C6⟩:=Cq Q;have G4:w.heap.size<w1.heap.size:=by have:=Q.size;simp at this;omega
 have C9:db w1 w.heap.size none ⟨#[]⟩ 0 false:=(Q.block _ (by simp)).trans (UG _ _);have D3:=aa C6;have D6:=aa C9;clear Q C6 C9 c0 c1 c2 c3 f0 f1 f2 f3 t1;go_wp2
 go_loopg [8] 81 (fun g ee wr=>∃H l C n U r d bl A y F D,xR G w (fun x=>S x/\x<w.heap.size) w1.heap.size (w1.heap.size+1) w.heap.size u T E V g wr H l C n U r d bl A y F D)
 case atStart=>
  have F7:∀{W:World},yW w W->At W t (fun x=>S x/\x<w.heap.size) (pV u):=fun hW=>HA.o.below hW
  have C5:=(D3.o.alloc (o:=.cells #[pV u,sV (ae K0),i6 0,bV false] 127) (by omega)).alloc (o:=.cells #[pV u,sV (ae K0),i6 0,bV false] 127) (by simp;omega);refine⟨fun x=>x,t,_,_,u,K0,0,false,u,K0,0,false,⟨?_,?_,?_,fZ.refl _ _ _,F7 C5,fun x i=>⟨.inl i,by simp;omega,by omega,by omega,by omega⟩,HK.o,HN.o,by have:=HL.o;omega,fun _=>by have:=HL.o;omega,A0.o,D5.o,fun _ _=>?_,fun h _=>.inl ?_,bO.iP C5⟩⟩
  ·unfold db;rw[U6 _ _ _ (by simp)];exact UG _ _
  ·exact xO _ _ _ (by simp)
  ·unfold db;rw[U6 _ _ _ (by simp;omega),U6 _ _ _ G4];exact D6.o
  ·rw[B3.o,A0.o]
  ·subst h;have h1:Value.pointer u=pV none:=HA.o;cases h1;refine⟨rfl,?_⟩;rw[B3.o,A0.o,tT];rfl
 case round=>
  obtain⟨H,l,C,n,U,r,d,bl,A,y,F,D,f⟩:=hrel;have j:=aa f;by_cases hs:l.some
  ·obtain⟨b,D1,D2,hu,G3,B⟩:=f.at_.ai hs;cases hu
   have A7:l≠.nil:=fun e=>by rw[e] at hs;exact hs
   obtain⟨J,C7⟩:∃J,gk=J+1:=⟨gk - 1,by have:=f.fuel A7;omega⟩
   have A8:∀x,x<w.heap.size->¬S x->wr.heap[x]? =w.heap[x]? :=fun x i hn=>f.wrote.block x i fun h=>hn h.1
   have C4:fF wr m z u:=D9.o.kept (A8 m F8 fun h=>(Z.o m h).2.1 rfl);have C0:j5 M wr z G:=fun W h h32 hW=>HG.o.1 W h h32 fun x i=>(hW x i).trans (A8 x (HM.o x i) fun h=>(Z.o x h).2.2 i)
   have C3:aB wr:=D8.o.nL f.wrote fun x i=>(Z.o x i.1).1
   have L:=aa (Ev M wr m b z u G l n d bl C4 f.at_ f.ok C0 HG.o.2 (by have:=f.deep;omega) C3);obtain⟨a0,a1,a2,a3⟩:=f.here.cells;have A5:=f.here.lt;have A6:=f.last.lt;have F9:w1.heap.size≠w.heap.size:=by omega
   have G0:w1.heap.size+1≠w.heap.size:=by omega
   have B2:=aa A7;have X:=aa C7;clear C4 C0 C3 A8 A7 C7 B G3;cases hR:dG G l d bl with
   |error c=>
    rw[hR] at L;have hc:=vX hR;have G7:((c:Int) != 0)=true:=by simp;omega
    have hO:dc G gk l r d bl=(l,c):=by rw[X.o];show lG l _ (dG G l d bl)=_;rw[hR];rfl
    have I:yH (T=H l/\E=c):=⟨by rw[f.tree,hO],by rw[f.err,hO]⟩
    have HC:yH (c≠0):=by show c≠0;omega
    obtain⟨r0,r1,r2,r3⟩:=f.res.cells;obtain⟨B4,B5,B6,B7⟩:=f.res.free;have s:=f.res.lt;clear f hR hO hc;go_wp2_with fail
    refine L.m ?_;rintro e w2 ⟨rfl,q⟩;have G5:=q.size;have s0:=(q.cell (p:=⟨w.heap.size,0,none⟩) s).trans r0;have s1:=(q.cell (p:=⟨w.heap.size,1,none⟩) s).trans r1;have s2:=(q.cell (p:=⟨w.heap.size,2,none⟩) s).trans r2;have s3:=(q.cell (p:=⟨w.heap.size,3,none⟩) s).trans r3;have q0:=(q.frozen (p:=⟨w.heap.size,0,none⟩) s).trans B4;have q1:=(q.frozen (p:=⟨w.heap.size,1,none⟩) s).trans B5;have q2:=(q.frozen (p:=⟨w.heap.size,2,none⟩) s).trans B6;have q3:=(q.frozen (p:=⟨w.heap.size,3,none⟩) s).trans B7;have B0:=aa q;clear q;go_wp2_with fail
    refine UB (v:=tV #[cz (pV none) ⟨#[]⟩ 0 false,i6 (c:Int)]) (by simp[results,results76,go_sem,cz,s0,s1,s2,s3]) rfl ?_;show BJ w S u T E V _ (cJ w2 w.heap.size none [] 0 false);refine⟨⟨C,?_,fun x i=>(j.o.sub x i).1.imp (fun h=>h.1) id⟩,((j.o.wrote.mono fun x i=>i.1).kU B0.o).cJ w.heap.size (Ug _) _ _ _ _,.inr ⟨by rw[I.o.2];exact HC.o,by rw[I.o.2]⟩⟩;rw[I.o.1];exact((j.o.root.fill j.o.at_).below B0.o).kept fun x i _=>mZ _ _ _ _ _ _ _ (j.o.sub x i).2.2.2.2
   |ok t1=>
    rw[hR] at L;have Y:=aa hR;obtain⟨b0,b1,b2,b3⟩:=f.last.cells;obtain⟨E9,F1,F3,F5⟩:=f.last.free;have C8:∀x,(x=w1.heap.size\/x=w1.heap.size+1)->¬n x:=fun x i hS=>by
     have:=f.sub x (f.root.1 x hS);omega
    have B1:=aa C8;clear f hR C8;go_wp2_with fail
    refine L.m ?_;rintro e w2 ⟨rfl,B8,K⟩;have G5:=K.size;have k1:w2.heap[w1.heap.size]? =wr.heap[w1.heap.size]? :=K.block _ A5 (B1.o _ (.inl rfl));have k2:w2.heap[w1.heap.size+1]? =wr.heap[w1.heap.size+1]? :=K.block _ A6 (B1.o _ (.inr rfl));have E1:=(Uz (a:=⟨w1.heap.size,0,none⟩) k1).trans a0;have E2:=(Uz (a:=⟨w1.heap.size,1,none⟩) k1).trans a1;have E3:=(Uz (a:=⟨w1.heap.size,2,none⟩) k1).trans a2;have E4:=(Uz (a:=⟨w1.heap.size,3,none⟩) k1).trans a3;have E5:=(Uz (a:=⟨w1.heap.size+1,0,none⟩) k2).trans b0;have E6:=(Uz (a:=⟨w1.heap.size+1,1,none⟩) k2).trans b1;have E7:=(Uz (a:=⟨w1.heap.size+1,2,none⟩) k2).trans b2;have E8:=(Uz (a:=⟨w1.heap.size+1,3,none⟩) k2).trans b3;obtain⟨F0,F2,F4,F6⟩:=(j.o.last.kept k2).free;have A9:=aa B8;have E0:=aa K;clear B8 K k1 k2 a0 a1 a2 a3 b0 b1 b2 b3 E9 F1 F3 F5;go_wp2_with fail
    have C1:yC 112 #[gV #[pV (qA b),sV (ae r),i6 (d:Int),bV bl]] (cJ w2 (w1.heap.size+1) (qA b) r d bl) (JX (cJ w2 (w1.heap.size+1) (qA b) r d bl) (kJ wr w2 n) b t1 r d):=
     PC _ (kJ wr w2 n) t1 b r d bl (Ds j.o A9.o) (nf j.o.ok Y.o).1 j.o.mx j.o.deep (Ez j.o.ok Y.o B2.o)
    refine C1.mono ?_;rintro e w4 ⟨G6,k,uk,r',d',A1,S',rfl,hN,B9⟩;have A4:=j.o;rw[X.o] at A4;obtain⟨R,D0⟩:=LX A4 B2.o (by omega) F9 G0 (by omega) (by omega) Y.o A9.o E0.o hN B9;have D7:=aa D0;obtain⟨x0,x1,x2,x3⟩:=R.cells;obtain⟨y0,y1,y2,y3⟩:=R.free;have G8:=R.lt;unfold cz;clear hN B9 D0 R C1 A4 E1 E2 E3 E4 E5 E6 E7 E8 F0 F2 F4 F6 A5 A6;go_wp2
    go_roundg J
    case measure=>have:=X.o;omega
    case rel=>exact⟨_,k,_,S',uk,r',d',A1,some ⟨b,0,none⟩,r,d,bl,D7.o⟩
  ·have G2:l=.nil:=by cases l<;>first|rfl|exact absurd trivial hs
   subst G2;have hu:=f.at_;cases hu
   obtain⟨r0,r1,r2,r3⟩:=f.res.cells;obtain⟨B4,B5,B6,B7⟩:=f.res.free;obtain⟨a0,a1,a2,a3⟩:=f.here.cells;obtain⟨b0,b1,b2,b3⟩:=f.last.cells;have A5:=f.here.lt;have A6:=f.last.lt;have A2:E=0:=by rw[f.err,tT]
   have I:yH (T=H .nil):=by show _=_;rw[f.tree,tT]
   have D4:=aa A2;have HD:yH (sM wr wr.heap.size A y V):=f.done rfl A2;clear f A2;go_wp2_with fail
   refine UB (v:=tV #[cz (pV A) (ae y) F D,i6 0]) (by simp[results,results76,go_sem,cz,r0,r1,r2,r3]) rfl ?_;show BJ w S u T E V _ (cJ wr w.heap.size A y F D);refine⟨⟨C,?_,fun x i=>(j.o.sub x i).1.imp (fun h=>h.1) id⟩,(j.o.wrote.mono fun x i=>i.1).cJ w.heap.size (Ug _) _ _ _ _,.inl ⟨D4.o,A,y,F,D,rfl,?_⟩⟩
   ·rw[I.o];exact(j.o.root.fill j.o.at_).kept fun x i _=>mZ _ _ _ _ _ _ _ (j.o.sub x i).2.2.2.2
   ·rcases HD.o with h|⟨b,t,D1,D2,h1,h2,h3,h4⟩
    ·exact .inl h
    ·refine .inr ⟨b,t,D1,D2,h1,by rw[tG];exact h2,?_,h4⟩;have G1:b≠w.heap.size:=fun e=>by
      have h5:=j.o.res;unfold db at h5;unfold bU at h3;rw[e,h5] at h3;cases h3
     exact(mZ _ _ _ _ _ _ _ G1).trans h3
structure eX(w:World)(tb:Nat)(st:Option Addr)(S:Nat->Prop)(t:Nd):Prop where
 at_:∃u,fF w tb st u/\At w t S (pV u)
 ok:aA t 0
 own:∀x,S x->3<=x/\x≠tb/\x<w.heap.size
structure lX(M:Nat->Prop)(w:World)(st:Option Addr)(G:yB->Option yB)(S:Nat->Prop):Prop where
 rZ:j5 M w st G
 small:∀k t,G k=some t->t.size<=maxLen
 lt:∀x,M x->x<w.heap.size
 apart:∀x,S x->¬M x
 bz:aB w
def gF(w:World)(a:Nat)(b:Option Addr)(S:Nat->Prop)(t:Nd)(w':World):Prop:=
 (∃S',eX w' a b S' t/\∀x,S' x->S x\/w.heap.size<=x)/\bO (fun x=>S x\/x=a) w w'
def aG(G:yB->Option yB)(t:Nd)(key:yB):Nd×Nat:=dc G 81 t (aD key) 0 false
def jk(G:yB->Option yB)(t key)(h:aA t 0):aA (aG G t key).1 0:=(wG G 81 t (aD key) 0 false h (b8 key)).ok
def kA(G:yB->Option yB)(t)(key:yB)(h:aA t 0)(a:key.size<=40)(h0:(aG G t key).2=0):dD (aG G t key).1 (aD key):=
 OZ G 81 t (aD key) 0 false h (b8 key) (by rw[g6];omega) h0
def gF.below{w w1 w2 b c S t}(h:gF w b c S t w1)(a:yW w1 w2):gF w b c S t w2:=by
 let⟨⟨S',⟨⟨u,h1,h2⟩,h3,h4⟩,h5⟩,h6⟩:=h;exact⟨⟨S',⟨⟨u,h1.kept (a.block b h1.lt),h2.below a⟩,h3,fun x d=>by have:=h4 x d;have:=a.size;exact⟨by omega,by omega,by omega⟩⟩,h5⟩,h6.kU a⟩
def tg{M w b f S t G}(j:eX w b f S t)(c:lX M w f G S)(key:yB)(k:key.size<=40):
 yC 76 #[pV (qA b),sV key] w fun e w'=>gF w b f S (aG G t key).1 w'/\(∃g d i bl,e=rV (tV #[cz (pV g) (ae d) i bl,i6 ((aG G t key).2:Int)])/\((aG G t key).2=0->sM w' w'.heap.size g d (aM (aG G t key).1 (aD key)))):=by
 let⟨⟨u,h1,h2⟩,h3,h4⟩:=j;refine(KZ M w b f u t S G key k h2 h3 h1 c.rZ c.small c.bz (fun x a=>⟨(h4 x a).1,(h4 x a).2.1,c.apart x a⟩) c.lt).mono ?_;rintro e w' ⟨⟨S',q1,q2⟩,q3,q4⟩;have l:w'.heap[b]? =w.heap[b]? :=q3.block b h1.lt fun h=>(h4 b h).2.1 rfl
 refine⟨⟨⟨fun x=>S' x/\x<w'.heap.size,⟨⟨u,h1.kept l,q1.cut⟩,jk G t key h3,fun x a=>?_⟩,fun x a=>q2 x a.1⟩,q3.mono fun x a=>.inl a⟩,?_⟩
 ·have h0:=c.bz.size;rcases q2 x a.1 with h|h
  ·exact⟨(h4 x h).1,(h4 x h).2.1,a.2⟩
  ·have:=h1.lt;exact⟨by omega,by omega,a.2⟩
 ·rcases q4 with⟨e0,g,d,i,bl,e1,e2⟩|⟨e0,e1⟩
  ·exact⟨g,d,i,bl,by rw[e1];unfold aG aD at*;rw[e0];rfl,fun _=>e2⟩
  ·exact⟨none,[],0,false,e1,fun h=>absurd h e0⟩
def eX.now{w w' b a S t}(h:eX w b a S t)(c:yW w w'):gF w b a S t w':=
 gF.below ⟨⟨S,h,fun _ hx=>.inl hx⟩,bO.refl _ _⟩ c
def tk{w d a V}(f:sM w w.heap.size d a V)(c:Nat)(bl:Bool)(W)(g:yW w W):
 yC 77 #[cz (pV d) (ae a) c bl] W fun e w'=>e=rV (sV (ae V))/\yW W w':=by
 rcases f with⟨rfl,rfl⟩|⟨b,t,i,j,rfl,h,B,rfl⟩
 ·exact Lc _ _ _ _
 ·exact Lf b t i j a c bl W ((g.block b h).trans B)
def bE(G:yB->Option yB)(t:Nd)(key:yB):Nd:=if 40<key.size then t else(aG G t key).1
def jn(G:yB->Option yB)(t:Nd)(key:yB):yB:=if 40<key.size then⟨#[]⟩ else if(aG G t key).2=0 then ae (aM (aG G t key).1 (aD key)) else⟨#[]⟩
def cK(G:yB->Option yB)(t:Nd)(key:yB):Nat:=if 40<key.size then 1 else(aG G t key).2
def Ka{M w b c S t G}(k:eX w b c S t)(n:lX M w c G S)(key:yB)(A:key.size<=maxLen):
 yC 36 #[pV (qA b),sV key] w fun e w'=>e=rV (tV #[sV (jn G t key),i6 (cK G t key:Int)])/\gF w b c S (bE G t key) w':=by
 unfold maxLen at A;by_cases a:40<key.size
 ·have i:yH (jn G t key=⟨#[]⟩/\cK G t key=1/\bE G t key=t):=by unfold jn cK bE;rw[Uj a,Uj a,Uj a];exact⟨rfl,rfl,rfl⟩
  have v:yH (eX w b c S t):=k;have z:(40:Int)<(key.size:Int):=by omega
  clear k n a;generalize jn G t key=V at*;generalize cK G t key=E at*;generalize bE G t key=T at*;go_enter func36,ntmps36
  go_wp2
  go_ret2
  obtain⟨h1,h2,h3⟩:=i.o;rw[h1,h2,h3];exact⟨rfl,v.o.now (Un _ _)⟩
 ·have r:key.size<=40:=by omega
  have p:=tg k n key r;have i:yH (cK G t key=(aG G t key).2/\bE G t key=(aG G t key).1/\jn G t key=if(aG G t key).2=0 then ae (aM (aG G t key).1 (aD key)) else⟨#[]⟩):=by unfold jn cK bE;rw[Ui a,Ui a,Ui a];exact⟨rfl,rfl,rfl⟩
  have o:yH (yC 76 #[pV (qA b),sV key] w fun e w'=>gF w b c S (aG G t key).1 w'/\(∃(h:Option Addr) (g:yL) (d:Nat) (bl:Bool),e=rV (tV #[gV #[pV h,sV (ae g),i6 (d:Int),bV bl],i6 ((aG G t key).2:Int)])/\((aG G t key).2=0->sM w' w'.heap.size h g (aM (aG G t key).1 (aD key))))):=p;have z:decide ((40:Int)<(key.size:Int))=false:=by simp;omega
  clear k n a r p;generalize jn G t key=V at*;generalize cK G t key=E at*;generalize bE G t key=T at*;generalize aM (aG G t key).1 (aD key)=F at*;generalize (aG G t key).1=T1 at*;generalize (aG G t key).2=l at*;by_cases h0:l=0
  ·subst h0;go_enter func36,ntmps36
   go_wp2_with fail
   refine o.m ?_;rintro e w1 ⟨f,h,g,d,bl,rfl,j⟩;have m:yH (gF w b c S T1 w1):=f;have x:yH (∀W,yW w1 W->yC 77 #[gV #[pV h,sV (ae g),i6 (d:Int),bV bl]] W fun e w'=>e=rV (sV (ae F))/\yW W w'):=fun W y=>tk (j (by first|trivial|rfl)) d bl W y
   clear f j;go_wp2_with fail
   refine(x.o _ ((Un _ _).alloc (Ug _) _)).mono ?_;rintro e w2 ⟨rfl,q⟩;have s:yH (yW w1 w2):=((Un w1.heap.size w1).alloc (Ug _) _).trans (q.mono (by simp));clear q;go_wp2
   go_ret2
   obtain⟨h1,h2,h3⟩:=i.o;rw[h1,h2,h3];exact⟨rfl,m.o.below s.o⟩
  ·have B:((l:Int) != 0)=true:=by simp;omega
   have u:yH (E=l/\T=T1/\V=⟨#[]⟩):=by
    obtain⟨h1,h2,h3⟩:=i.o;rw[Ui h0] at h3;exact⟨h1,h2,h3⟩
   clear h0;go_enter func36,ntmps36
   go_wp2_with fail
   refine o.m ?_;rintro e w1 ⟨f,h,g,d,bl,rfl,j⟩;have m:yH (gF w b c S T1 w1):=f;clear f j;go_wp2
   go_ret2
   obtain⟨h1,h2,h3⟩:=u.o;rw[h1,h2,h3];exact⟨rfl,m.o.below ((Un _ _).alloc (Ug _) _)⟩
def gM(t:Nd):t.isNil=false↔t.some:=by cases t<;>simp[Nd.isNil,Nd.some]
def xi(v)(ks:Nat->Nd):∀n,2<=dj v ks n->∃i,i<n/\(ks i).some
 | 0,h=>by simp only[dj] at h;split at h<;>omega
 |n+1,h=>by
  by_cases e:(ks n).isNil=true
  ·simp only[dj,e,U5,Nat.add_zero] at h
   let⟨i,h1,h2⟩:=xi v ks n h
   exact⟨i,by omega,h2⟩
  ·exact⟨n,by omega,(gM _).1 (by cases h:(ks n).isNil with|true=>exact absurd h e|false=>rfl)⟩
def pj(v)(ks:Nat->Nd)(i:Nat)(h:(ks i).some):∀n,i<n->dj v ks n=dj v (aJ ks i .nil) n+1
 | 0,hi=>by omega
 |n+1,hi=>by
  simp only[dj]
  by_cases e:i=n
  ·subst e
   have h1:∀m,m<=i->dj v ks m=dj v (aJ ks i .nil) m:=fun m=>by
    induction m with
    |zero=>intro _;rfl
    |succ m ih=>intro a;simp only[dj,ih (by omega),e9 ks i .nil m (by omega)]
   rw[h1 i (Ug _),dK,(gM _).2 h];rfl
  ·rw[pj v ks i h n (by omega),e9 ks i .nil n (by omega)];omega
def GI(v)(ks:Nat->Nd)(h:v≠[]):∀n,1<=dj v ks n
 | 0=>by simp only[dj];rw[Ui h];exact Ug _
 |n+1=>by have:=GI v ks h n;simp only[dj];omega
def QQ(v)(ks:Nat->Nd)(i n:Nat)(h:(ks i).some)(hi:i<n):1<=dj v ks n:=by rw[pj v ks i h n hi];omega
def QP(v)(ks:Nat->Nd)(i j:Nat)(hi:i<16)(a:j<16)(b:i≠j)(h1:(ks i).some)(h2:(ks j).some):2<=dj v ks 16:=by
 rw[pj v ks i h1 16 hi];have:=QQ v (aJ ks i .nil) j 16 (by rw[e9 _ _ _ _ (Ne.symm b)];exact h2) a;omega
def GM(v)(ks:Nat->Nd)(i:Nat)(hi:i<16)(h1:(ks i).some)(a:v≠[]):2<=dj v ks 16:=by
 rw[pj v ks i h1 16 hi];have:=GI v (aJ ks i .nil) a 16;omega
def xD:∀(t:Nd) (dep:Nat),t.some->sW t->pO dep t->dep<=80:=by
 intro t;induction t with
 |nil=>intro dep h;exact h.elim
 |unread h=>intro dep _ _ a;exact a
 |leaf h p v=>intro dep _ _ a;have:dep+p.length<=80:=a;omega
 |ext h p k _=>intro dep _ _ a;have:=a.1;omega
 |branch h v ks ih=>
  intro dep _ b a;let⟨i,hi,hs⟩:=xi v ks 16 b.1;have:=ih i (dep+1) hs (b.2 i hi) (a i hi);omega
structure iW(t:Nd)(dep:Nat):Prop where
 bB:mP t
 full:sW t
 deep:pO dep t
def DY(dep:Nat):iW .nil dep:=⟨trivial,trivial,trivial⟩
def tE{p v:yL}{dep}(b:v≠[])(a:dep+p.length<=80):iW (dw p v) dep:=⟨b,trivial,a⟩
def vO{p}{k:Nd}{dep}(c:p≠[])(b:k.fY)(a:iW k (dep+p.length)):iW (gm p k) dep:=
 ⟨⟨c,b,a.bB⟩,a.full,⟨xD k _ (oq b) a.full a.deep,a.deep⟩⟩
def vP{ks v dep}(h2:2<=dj v ks 16)(a:∀i,i<16->iW (ks i) (dep+1)):iW (dN ks v) dep:=
 ⟨fun i hi=>(a i hi).bB,⟨h2,fun i hi=>(a i hi).full⟩,fun i hi=>(a i hi).deep⟩
def yT{p:yL}{t:Nd}{dep}(hs:t.some)(a:iW t (dep+p.length)):iW (aX p t) dep:=by
 by_cases b:p=[]
 ·subst b;rw[mG];exact a
 ·cases t with
  |nil=>exact hs.elim
  |leaf h q v=>
   simp only[aX,Ui b];exact tE a.bB (by have:dep+p.length+q.length<=80:=a.deep;rw[Uq];omega)
  |ext h q k=>
   simp only[aX,Ui b];refine vO (fun e=>b (List.append_eq_nil_iff.1 e).1) a.bB.2.1 ⟨a.bB.2.2,a.full,?_⟩;have:=a.deep.2;rw[Uq,<-Nat.add_assoc];exact this
  |unread h=>simp only[aX,Ui b];exact vO b trivial a
  |branch h v ks=>simp only[aX,Ui b];exact vO b trivial a
def yS{n:Nd}{dep s}(hk:n.kind=1\/n.kind=2)(hs:s<n.path.length)(hS:iW n dep):iW (gJ n (n.path.drop (s+1))) (dep+s+1)/\(gJ n (n.path.drop (s+1))).some:=by
 cases n with
 |nil=>rcases hk with h|h<;>cases h
 |unread _=>rcases hk with h|h<;>cases h
 |branch _ _ _=>rcases hk with h|h<;>cases h
 |leaf h q v=>
  have A0:s<q.length:=hs;exact⟨tE hS.bB (by have:dep+q.length<=80:=hS.deep;show dep+s+1+(q.drop (s+1)).length<=80;rw[Uu];omega),trivial⟩
 |ext h q k=>
  have A0:s<q.length:=hs;refine⟨yT (oq hS.bB.2.1) ⟨hS.bB.2.2,hS.full,?_⟩,qu _ _ (oq hS.bB.2.1)⟩;have e:dep+s+1+(q.drop (s+1)).length=dep+q.length:=by rw[Uu];omega
  show pO (dep+s+1+(q.drop (s+1)).length) k;rw[e];exact hS.deep.2
def DX{n:Nd}{p v dep}(a:n.kind=1\/n.kind=2)(j:aw n.path)(g:aw p)(b:iW n dep)(z:dep+p.length<=80)(l:v≠[])(x:n.kind=1->n.value≠[])(d:n.kind=2->aF n.path p≠n.path.length)(t:n.path≠p):iW (gi n p v (aF n.path p)) dep:=by
 let⟨s,hs⟩:=yX (aF n.path p)
 have f:=iN n.path p;have r:s<n.path.length->s<p.length->n.path.getD s 0≠p.getD s 0:=fun h1 h2=>by rw[hs] at h1 h2⊢;exact yQ _ _ h1 h2
 have y:¬(s=n.path.length/\s=p.length):=fun h=>t (yR n.path p (by rw[<-hs];exact h.1) (by rw[<-hs];exact h.2))
 rw[<-hs] at f d⊢;unfold gi;have w:dep+(p.take s).length=dep+s:=by rw[UN];omega
 refine yT trivial ?_;rw[w];have k:∀i,iW (dX n s i) (dep+s+1):=fun i=>by
  unfold dX;by_cases h:s<n.path.length
  ·rw[Uj h];unfold aJ;split
   ·exact(yS a h b).1
   ·exact DY _
  ·rw[Ui h];exact DY _
 have u:∀i,iW (dF n p v s i) (dep+s+1):=fun i=>by
  unfold dF;by_cases h:s<p.length
  ·rw[Uj h];unfold aJ;split
   ·exact tE l (by rw[Uu];omega)
   ·exact k i
  ·rw[Ui h];exact k i
 refine vP ?_ fun i _=>u i
 by_cases h2:s<p.length
 ·have m:(dF n p v s (p.getD s 0).toNat).some:=by unfold dF;rw[Uj h2,dK];trivial
  by_cases h1:s<n.path.length
  ·have o:=r h1 h2;have c:(n.path.getD s 0).toNat≠(p.getD s 0).toNat:=fun e=>o (UInt8.toNat_inj.1 e)
   refine QP _ _ (n.path.getD s 0).toNat (p.getD s 0).toNat (kB j s) (kB g s) c ?_ m;unfold dF;rw[Uj h2,e9 _ _ _ _ c];unfold dX;rw[Uj h1,dK];exact(yS a h1 b).2
  ·have q:n.kind=1:=a.resolve_right fun h=>d h (by omega)
   refine GM _ _ (p.getD s 0).toNat (kB g s) m ?_;unfold fy;rw[Uj h2,Ui h1];exact x q
 ·have h1:s<n.path.length:=by have:=f.1;omega
  refine GM _ _ (n.path.getD s 0).toNat (kB j s) ?_ ?_
  ·unfold dF;rw[Ui h2];unfold dX;rw[Uj h1,dK];exact(yS a h1 b).2
  ·unfold fy;rw[Ui h2];exact l
def KR(t p v)(h:dD t p):(bR t p v).some:=by
 cases t with
 |nil=>trivial
 |unread _=>exact h.elim
 |leaf h q x=>
  simp only[bR];split
  ·trivial
  ·exact qu _ _ trivial
 |ext h q k=>
  simp only[bR];split
  ·trivial
  ·exact qu _ _ trivial
 |branch h x ks=>cases p<;>trivial
def GL(v)(ks:Nat->Nd)(c:Nat)(k:Nd)(h:k.some):∀n,dj v ks n<=dj v (aJ ks c k) n
 | 0=>Ug _
 |n+1=>by
  have:=GL v ks c k h n
  simp only[dj]
  by_cases e:n=c
  ·subst e;rw[dK,(gM _).2 h];simp only[Bool.false_eq_true,UT];split<;>omega
  ·rw[e9 _ _ _ _ e];omega
def GJ(v a)(ks:Nat->Nd)(h:a≠[]):∀n,dj v ks n<=dj a ks n
 | 0=>by simp only[dj];rw[Ui h];split<;>omega
 |n+1=>by have:=GJ v a ks h n;simp only[dj];omega
def My:∀(t) (p v) (dep:Nat),aO t->iW t dep->dD t p->aw p->dep+p.length<=80->v≠[]->iW (bR t p v) dep:=by
 intro t;induction t with
 |nil=>intro p v dep _ _ _ _ d b;exact tE b d
 |unread h=>intro p v dep _ _ f;exact f.elim
 |leaf h q x=>
  intro p v dep j a _ g d b;simp only[bR];by_cases e:q=p
  ·rw[Uj e];exact tE b d
  ·rw[Ui e];exact DX (n:=.leaf h q x) (.inl rfl) j.2.1 g a d b (fun _=>a.bB) (fun h=>by cases h) e
 |ext h q k ih=>
  intro p v dep j a f g d b;simp only[bR];by_cases e:aF q p=q.length
  ·rw[Uj e];have u:=(iN q p).2;exact vO a.bB.1 (yl a.bB.2.1 (f e)) (ih _ v _ j.2.2.2.2 ⟨a.bB.2.2,a.full,a.deep.2⟩ (f e) (da g _) (by rw[Uu];omega) b)
  ·rw[Ui e];refine DX (n:=.ext h q k) (.inr rfl) j.2.1 g a d b (fun h=>by cases h) (fun _=>e) fun e1=>e ?_
   have:=tC q [];rw[UU] at this;have e2:=e1;rw[<-e2];exact this
 |branch h x ks ih=>
  intro p v dep j a f g d b;have l:∀i,i<16->iW (ks i) (dep+1):=fun i hi=>⟨a.bB i hi,a.full.2 i hi,a.deep i hi⟩
  cases p with
  |nil=>exact vP (Ut a.full.1 (GJ _ _ _ b 16)) l
  |cons c r=>
   have m:=g c (Uk ..);have o:=ih c.toNat r v (dep+1) (j.2.2 _ m) (l _ m) f (fun y s=>g y (Ul _ s)) (by simp at d;omega) b;have h2:=GL x ks c.toNat (bR (ks c.toNat) r v) (KR (ks c.toNat) r v f) 16;have h3:=a.full.1;refine vP (ks:=aJ ks c.toNat (bR (ks c.toNat) r v)) (v:=x) (Ut h3 h2) fun i hi=>?_
   by_cases e:i=c.toNat
   ·subst e;rw[dK];exact o
   ·rw[e9 _ _ _ _ e];exact l i hi
def yj{t p v dep}(a:aA t dep)(b:dD t p)(c:aw p)(d:dep+p.length<=80)(e:v≠[])(f:v.length<=160):aA (bR t p v) dep:=by
 have:=My t p v dep a.aK ⟨a.bB,a.full,a.deep⟩ b c d e;exact⟨this.bB,this.full,this.deep,uF a.aK b c (by omega) f⟩
end Go.Proofs.YtmafnmpeehmndaaGreatDoor
