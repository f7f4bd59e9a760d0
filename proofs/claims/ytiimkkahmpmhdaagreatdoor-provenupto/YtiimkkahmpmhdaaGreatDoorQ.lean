import Derived.Test.YtiimkkahmpmhdaaGreatDoorN
open Go.Proofs.Tryz
open Go.Proofs.Tryz renaming prog→yP
open Go.Value renaming string→sV,pointer→pV,int→iV,slice→lV,bool→bV,tuple→tV,agg→gV
open Go.Ending renaming returned→rV
namespace Go.Proofs.YtiimkkahmpmhdaaGreatDoor
open Go.RowKit
set_option maxRecDepth 100000
set_option maxHeartbeats 0
set_option linter.all false
abbrev b6:=yB×Option Addr
def kU(sb a:Nat)(b:Nat->Value):Array Value:=#[pV (qA sb),pV (qA a)]++iL b
theorem rT(sb b:Nat)(a)(c:Nat)(h:c<256):(kU sb b a)[2+c]? =some (a c):=by
 unfold kU;rw[Array.getElem?_append_right (by simp)];rw[show 2+c - (#[Value.pointer (qA sb),Value.pointer (qA b)]:Array Value).size=c by simp];exact lX a c h
theorem Bm(sb a:Nat)(b):(kU sb a b)[0]? =some (pV (qA sb)):=by
 unfold kU;rw[Array.getElem?_append_left (by simp)];rfl
theorem Bl(sb a:Nat)(b):(kU sb a b)[1]? =some (pV (qA a)):=by
 unfold kU;rw[Array.getElem?_append_left (by simp)];rfl
theorem Bj(sb d:Nat)(a)(c:Nat)(v)(h:c<256):(kU sb d a).setIfInBounds (2+c) v=kU sb d (aU a c v):=by
 unfold kU;rw[<-xC a c v h];apply Sn;intro j;by_cases b:j<2
 ·rw[Array.getElem?_setIfInBounds_ne (by omega),Array.getElem?_append_left (by simpa using b),Array.getElem?_append_left (by simpa using b)]
 ·rw[Array.getElem?_append_right (by simp;omega),R4,R4];simp only[List.size_toArray,Ro,List.length_nil,Array.size_append,uB];by_cases e:2+c=j
  ·subst e;rw[QX rfl,QX (by omega),QX (by omega),QX (by omega)]
  ·rw[QW e,QW (by omega),Array.getElem?_append_right (by simp;omega)];rfl
def gN(a:List b6):List Value:=a.flatMap fun p=>[Value.string p.1,Value.pointer p.2]
theorem Ju(a b:List b6):gN (a++b)=gN a++gN b:=by simp[gN]
theorem uw:∀(a:List b6) (k:Nat) (p:b6),a[k]? =some p->(gN a)[k*2]? =some (sV p.1)/\(gN a)[k*2+1]? =some (pV p.2)
 | [],k,p,h=>by simp at h
 |q::t,0,p,h=>by simp at h;subst h;exact⟨rfl,rfl⟩
 |q::t,k+1,p,h=>by
  have:=uw t k p (by simpa using h)
  exact⟨by rw[show(k+1)*2=k*2+2 by omega];exact this.1,by rw[show(k+1)*2+1=k*2+1+2 by omega];exact this.2⟩
theorem Bu:∀(a:List b6) (m:Nat),gN (a.take m)=(gN a).take (m*2)
 | [],m=>by simp[gN]
 |q::t,0=>by simp[gN]
 |q::t,m+1=>by
  have:=Bu t m
  rw[show(m+1)*2=m*2+2 by omega]
  show [Value.string q.1,Value.pointer q.2]++gN (t.take m)=_
  rw[this];rfl
structure wm(w:World)(b c:Nat)(a:Option Addr)(cap:Nat)(ps:List b6):Prop where
 cell:w.cell? ⟨b,2+c,none⟩=some (lV a ps.length cap)
 at_:∀(k:Nat) (p:b6),ps[k]? =some p->∃g,a=some ⟨g,0,none⟩/\w.cell? ⟨g,k*2,none⟩=some (sV p.1)/\w.cell? ⟨g,k*2+1,none⟩=some (pV p.2)
structure cJ(base:Nat)(w:World)(b sb tw:Nat)(vs:Nat->Value)(sh:Nat->List b6):Prop where
 ah:w.heap[b]? =some (.cells (kU sb tw vs) 98 (0,0))
 own:∀c,c<256->w.ownsRow base 151 2 (vs c) (sh c).length (gN (sh c))
 sep:∀c d g,c<256->d<256->(vs c).ownBlock=some g->(vs d).ownBlock=some g->c=d
 ff:∀c g,c<256->(vs c).ownBlock=some g->g≠b
theorem cJ.kx{base w b sb m l i}(h:cJ base w b sb m l i)(c:Nat)(d:c<256):∃a cap,l c=lV a (i c).length cap/\wm w b c a cap (i c):=by
 obtain⟨a,cap,e,_,_,f⟩:=dr (h.own c d);refine⟨a,cap,e,⟨by rw[Q5 w b (2+c) _ _ _ h.ah,rT _ _ _ _ d,e],fun k p j=>?_⟩⟩;have n:=(Rb.1 j).1;rcases f with⟨_,h0,_⟩|⟨g,rfl⟩
 ·omega
 ·obtain⟨p1,p2⟩:=uw _ k p j;exact⟨g,rfl,dK (h.own c d) (by rw[e];rfl) _ _ p1,dK (h.own c d) (by rw[e];rfl) _ _ p2⟩
theorem Bv:∀(a:List b6) (k:Nat) (p:b6),gN (a.set k p)=((gN a).set (k*2) (sV p.1)).set (k*2+1) (pV p.2)
 | [],k,p=>by simp[gN]
 |q::t,0,p=>by simp[gN]
 |q::t,k+1,p=>by
  have:=Bv t k p
  rw[show(k+1)*2=k*2+2 by omega,show k*2+2+1=k*2+1+2 by omega]
  show [Value.string q.1,Value.pointer q.2]++gN (t.set k p)=_
  rw[this];rfl
def dX(L:List b6)(n:Nat):Nat->List b6
 | 0=>L
 |k+1=>(dX L n k).set (n - k) (L.getD (n - k - 1) (⟨#[]⟩,none))
theorem oR(L:List b6)(n:Nat):∀k,(dX L n k).length=L.length
 | 0=>rfl
 |k+1=>by show((dX L n k).set _ _).length=_;rw[R3,oR L n k]
theorem wR(L:List b6)(n:Nat):∀k j,j+k<=n->(dX L n k)[j]? =L[j]?
 | 0,j,_=>rfl
 |k+1,j,h=>by
  show((dX L n k).set (n - k) _)[j]? =_
  rw[RX (by omega)]
  exact wR L n k j (by omega)
theorem AH(L:List b6)(n:Nat)(a:L.length=n+1):∀k j,k<=n->n<j+k->j<=n->(dX L n k)[j]? =L[j - 1]?
 | 0,j,_,h,hj=>by omega
 |k+1,j,hk,h,hj=>by
  show((dX L n k).set (n - k) _)[j]? =_
  by_cases e:n - k=j
  ·subst e
   rw[List.getElem?_set_self (by rw[oR,a];omega),Q3,QV (by omega)];rfl
  ·rw[RX e]
   exact AH L n a k j (by omega) (by omega) hj
def aL(a:Nat->List b6)(c:Nat)(l:List b6):Nat->List b6:=fun d=>if d=c then l else a d
theorem cJ.grown{base w b sb p j y}(S:cJ base w b sb p j y)(c:Nat)(n:c<256)(o:Obj)(l:List b6)
 (g cap:Nat) (w1:World) (x:w1.ownsRow base 151 2 (lV (qA g) l.length cap) l.length (gN l)) (m:(w.drew.alloc o).grownBy w1 (j c).ownBlock) (u:(j c).ownBlock=some g\/g=w.heap.size+1):
 w1.heap[b]? =some (.cells (kU sb p j) 98 (0,0))/\cJ base (w1.setCell ⟨b,2+c,none⟩ (lV (qA g) l.length cap)) b sb p (aU j c (lV (qA g) l.length cap)) (aL y c l)/\
  aN (fun k=>k=b\/(j c).ownBlock=some k) w (w1.setCell ⟨b,2+c,none⟩ (lV (qA g) l.length cap))/\g<w1.heap.size:=by
 have z:b<w.heap.size:=(Q0.1 S.ah).1;have F:=m.size;have E:(w.drew.alloc o).heap.size=w.heap.size+1:=by simp
 have t:∀k,k<w.heap.size->(w.drew.alloc o).heap[k]? =w.heap[k]? :=fun k s=>RL w.drew o k s
 have r:w1.heap[b]? =some (.cells (kU sb p j) 98 (0,0)):=by
  rw[m.block b (by omega) (fun e=>S.ff c b n e.symm rfl),t b z];exact S.ah
 have v:g≠b:=by
  rcases u with h|h
  ·exact S.ff c g n h
  ·omega
 have A:g<w1.heap.size:=(x.lt g rfl).2;refine⟨r,⟨?_,?_,?_,?_⟩,?_,A⟩
 ·rw[RM w1 b (2+c) _ _ (0,0) _ r,R7 w1 b _ _ _ _ r,Bj _ _ _ _ _ n]
 ·intro d f;by_cases e:d=c
  ·subst e;simp only[aU,aL,RJ];exact cK x fun a i=>Rq _ _ _ a (by show a≠b;simp[Value.ownBlock] at i;subst i;exact v)
  ·simp only[aU,aL,e,Ry];refine cK (S.own d f) fun a i=>?_
   have B:=((S.own d f).lt a i).2;rw[Rq _ _ _ a (by show a≠b;exact S.ff d a f i),m.block a (by omega) (fun h=>e (S.sep d c a f n i h.symm)),t a B]
 ·intro d1 d2 a h1 h2 e1 e2;have key:∀d,d<256->d≠c->(j d).ownBlock=some g->False:=fun d f D i=>by
   rcases u with h|h
   ·exact D (S.sep d c g f n i h)
   ·have:=((S.own d f).lt g i).2;omega
  by_cases q1:d1=c<;>by_cases q2:d2=c
  ·rw[q1,q2]
  ·simp only[aU,q1,RJ] at e1;simp only[aU,q2,Ry] at e2;simp[Value.ownBlock] at e1;subst e1;exact(key d2 h2 q2 e2).elim
  ·simp only[aU,q2,RJ] at e2;simp only[aU,q1,Ry] at e1;simp[Value.ownBlock] at e2;subst e2;exact(key d1 h1 q1 e1).elim
  ·simp only[aU,q1,Ry] at e1;simp only[aU,q2,Ry] at e2;exact S.sep d1 d2 a h1 h2 e1 e2
 ·intro d a f e;by_cases q:d=c
  ·simp only[aU,q,RJ] at e;simp[Value.ownBlock] at e;subst e;exact v
  ·simp only[aU,q,Ry] at e;exact S.ff d a f e
 ·exact aN.set (T:=fun k=>k=b\/(j c).ownBlock=some k) (w:=w) (w':=w1) ⟨m.os,m.tape,m.output,by omega,fun k s C=>by
   rw[m.block k (by omega) (fun h=>C (.inr h.symm)),t k s]⟩ ⟨b,2+c,none⟩ _ (.inl (.inl rfl))
theorem cJ.put{base w b sb q l j}(S:cJ base w b sb q l j)(c:Nat)(m:c<256)(g:Nat)(f:(l c).ownBlock=some g)(k:Nat)(p:b6):
 cJ base ((w.setCell ⟨g,k*2,none⟩ (sV p.1)).setCell ⟨g,k*2+1,none⟩ (pV p.2)) b sb q l (aL j c ((j c).set k p)):=by
 have n:=S.ff c g m f;refine⟨?_,?_,S.sep,S.ff⟩
 ·rw[Rq _ _ _ b (by show b≠g;exact n.symm),Rq _ _ _ b (by show b≠g;exact n.symm)];exact S.ah
 ·intro d i;by_cases e:d=c
  ·subst e;simp only[aL,RJ];rw[Bv,R3];exact ss (ss (S.own d i) f _ _) f _ _
  ·simp only[aL,e,Ry];refine cK (S.own d i) fun a r=>?_
   have o:a≠g:=fun h=>e (S.sep d c g i m (by rw[<-h];exact r) f)
   rw[Rq _ _ _ a (by show a≠g;exact o),Rq _ _ _ a (by show a≠g;exact o)]
theorem Iu(a:List b6)(e q:b6)(k:Nat)(f:k<=a.length):(dX (a++[e]) a.length (a.length - k)).set k q=a.take k++[q]++a.drop k:=by
 apply SK;intro j;have g:(dX (a++[e]) a.length (a.length - k)).length=a.length+1:=by rw[oR];simp
 have c:(a.take k++[q]).length=k+1:=by rw[Q4,Rs];simp;omega
 rcases Nat.lt_trichotomy j k with b|b|b
 ·rw[RX (by omega),wR _ _ _ j (by omega),RA (by omega),Rn,RA (by rw[Rs];omega),Sm,QX b]
 ·subst b;rw[List.getElem?_set_self (by omega),RA (by omega),RY (by rw[Rs];omega)];simp[Rs,Nat.min_eq_left f]
 ·rw[RX (by omega)];by_cases d:j<=a.length
  ·rw[AH _ _ (by simp) _ j (by omega) (by omega) d,RA (by omega),RY (by omega),c,Sw];congr 1;omega
  ·rw[RP (by omega),RP (by rw[Q4,c,Q8];omega)]
theorem cJ.same{base}{w w':World}{b sb e f d}(S:cJ base w b sb e f d)(a:w'.heap=w.heap):cJ base w' b sb e f d:=
 ⟨by rw[a];exact S.ah,fun c h=>cK (S.own c h) fun g _=>by rw[a],S.sep,S.ff⟩
theorem cJ.last{base W b sb l V d}(S:cJ base W b sb l V d)(c:Nat)(f:c<256)(k:Nat)(j:k<(d c).length)(p:b6):
 ∃g cap u0 u1,V c=lV (qA g) (d c).length cap/\W.cell? ⟨b,2+c,none⟩=some (lV (qA g) (d c).length cap)/\W.cell? ⟨g,k*2,none⟩=some u0/\W.cell? ⟨g,k*2+1,none⟩=some u1/\W.frozen? ⟨g,k*2,none⟩=false/\W.frozen? ⟨g,k*2+1,none⟩=false/\
  cJ base ((W.drew.setCell ⟨g,k*2,none⟩ (sV p.1)).setCell ⟨g,k*2+1,none⟩ (pV p.2)) b sb l V (aL d c ((d c).set k p)):=by
 obtain⟨a,cap,e,i⟩:=S.kx c f;have m:(d c)[k]? =some ((d c)[k]'j):=QV j;obtain⟨g,rfl,c1,c2⟩:=i.at_ k _ m;have h:(V c).ownBlock=some g:=by rw[e];rfl
 exact⟨g,cap,_,_,e,i.cell,c1,c2,ju (S.own c f) h _,ju (S.own c f) h _,(S.same (w':=W.drew) rfl).put c f g h k p⟩
def dM(L:List b6)(i:Nat):Nat->List b6
 | 0=>L
 |k+1=>(dM L i k).set (i+k) (L.getD (i+k+1) (⟨#[]⟩,none))
theorem pC(L:List b6)(i:Nat):∀k,(dM L i k).length=L.length
 | 0=>rfl
 |k+1=>by show((dM L i k).set _ _).length=_;rw[R3,pC L i k]
theorem zD(L:List b6)(i:Nat):∀k j,(j<i\/i+k<=j)->(dM L i k)[j]? =L[j]?
 | 0,j,_=>rfl
 |k+1,j,h=>by
  show((dM L i k).set (i+k) _)[j]? =_
  rw[RX (by omega)]
  exact zD L i k j (by omega)
theorem FL(L:List b6)(i:Nat):∀k j,i+k<L.length->i<=j->j<i+k->(dM L i k)[j]? =L[j+1]?
 | 0,j,_,_,h=>by omega
 |k+1,j,hL,h1,h2=>by
  show((dM L i k).set (i+k) _)[j]? =_
  by_cases e:i+k=j
  ·subst e
   rw[List.getElem?_set_self (by rw[pC];omega),Q3,QV (by omega)];rfl
  ·rw[RX e]
   exact FL L i k j (by omega) h1 (by omega)
theorem OX(L:List b6)(i n:Nat)(e:b6)(c:L.length=n+1)(hi:i<=n):((dM L i (n - i)).set n e).take n=L.eraseIdx i:=by
 apply SK;intro j;rw[Sm];by_cases b:j<n
 ·rw[QX b,RX (by omega),List.getElem?_eraseIdx];by_cases a:j<i
  ·rw[QX a,zD _ _ _ _ (.inl a)]
  ·rw[QW a,FL _ _ _ _ (by omega) (by omega) (by omega)]
 ·rw[QW b,RP (by rw[List.length_eraseIdx];split<;>omega)]
theorem cJ.cut{base w b sb p i h}(S:cJ base w b sb p i h)(c:Nat)(m:c<256)(g cap n:Nat)(k:i c=lV (qA g) (h c).length cap)(s:n<=(h c).length):
 cJ base (w.setCell ⟨b,2+c,none⟩ (lV (qA g) n cap)) b sb p (aU i c (lV (qA g) n cap)) (aL h c ((h c).take n)):=by
 have q:=S.ff c g m (by rw[k];rfl);have l:∀d,d<256->(aU i c (lV (qA g) n cap) d).ownBlock=(i d).ownBlock:=fun d _=>by
  by_cases e:d=c
  ·subst e;simp only[aU,RJ];rw[k];rfl
  ·simp only[aU,e,Ry]
 refine⟨?_,?_,?_,?_⟩
 ·rw[RM w b (2+c) _ _ (0,0) _ S.ah,R7 w b _ _ _ _ S.ah,Bj _ _ _ _ _ m]
 ·intro d f;by_cases e:d=c
  ·subst e;simp only[aU,aL,RJ];have o:=S.own d f;rw[k] at o;have t:=CN o s;have r:((h d).take n).length=n:=by rw[Rs];omega
   rw[r,Bu];exact cK t fun a j=>Rq _ _ _ a (by show a≠b;simp[Value.ownBlock] at j;subst j;exact q)
  ·simp only[aU,aL,e,Ry];exact cK (S.own d f) fun a j=>Rq _ _ _ a (by show a≠b;exact S.ff d a f j)
 ·intro d1 d2 a h1 h2 e1 e2;rw[l d1 h1] at e1;rw[l d2 h2] at e2;exact S.sep d1 d2 a h1 h2 e1 e2
 ·intro d a f e;rw[l d f] at e;exact S.ff d a f e
def Rg(x:Int):Prop:=-9223372036854775808<=x/\x<=9223372036854775807
def bO(x:Int)(n:Nat):Nat:=(if x<0 then(-(x+1)).toNat else x.toNat) % n
theorem kz(x:Int)(n:Nat)(h:0<n):bO x n<n:=Nat.mod_lt _ h
theorem pk(x:Int)(n:Nat)(a:Rg x)(c:0<n)(b:n<9223372036854775808)(w:World):
 Calls yP 13 #[iV .i64 x,iV .i64 n] w fun e w'=>e=rV (iV .i64 (bO x n))/\w'=w:=by
 have d:(n:Int)≠0:=by omega
 obtain⟨f,g⟩:=a;by_cases h0:x<0
 ·have e1:IntKind.i64.wrap (x+1)=x+1:=by rw[RE];omega
  have e2:IntKind.i64.wrap (-(x+1))= -(x+1):=by rw[RE];omega
  have e0:((bO x n:Nat):Int)=(-(x+1)) % n:=by
   unfold bO;rw[QX h0,Int.natCast_emod,Int.toNat_of_nonneg (by omega)]
  have e3:-((x+1).tmod n)=(bO x n:Int):=by
   rw[e0,<-Int.neg_tmod,Int.tmod_eq_emod_of_nonneg (by omega)]
  clear e0;generalize bO x n=r at*;go_enter func13,ntmps13
  go_wp2
  go_ret
  exact⟨by simp,rfl⟩
 ·have e0:((bO x n:Nat):Int)=x % n:=by
   unfold bO;rw[QW h0,Int.natCast_emod,Int.toNat_of_nonneg (by omega)]
  have e3:=e0.symm;clear e0;generalize bO x n=r at*;go_enter func13,ntmps13
  go_wp2
  go_ret
  exact⟨by simp,rfl⟩
def lg(key value:yB):Bool:=decide (40<key.size\/160<value.size)
theorem vw(key value:yB)(d:key.size<=maxLen)(f:value.size<=maxLen)(w:World):
 Calls yP 32 #[sV key,sV value] w fun e w'=>e=rV (bV (lg key value))/\w'=w:=by
 unfold maxLen at d f;by_cases h1:40<key.size
 ·have a:Hid (lg key value=true):=Ra (.inl h1);have b:(40:Int)<(key.size:Int):=by omega
  generalize lg key value=R at*;go_enter func32,ntmps32
  go_wp2_with fail
  go_ret
  exact⟨by rw[a.out];rfl,rfl⟩
 ·by_cases h2:160<value.size
  ·have a:Hid (lg key value=true):=Ra (.inr h2);have b:¬(40:Int)<(key.size:Int):=by omega
   have c:(160:Int)<(value.size:Int):=by omega
   generalize lg key value=R at*;go_enter func32,ntmps32
   go_wp2_with fail
   go_ret
   exact⟨by rw[a.out];rfl,rfl⟩
  ·have a:Hid (lg key value=false):=Q9 (by rintro (h|h);exact h1 h;exact h2 h);have b:¬(40:Int)<(key.size:Int):=by omega
   have c:¬(160:Int)<(value.size:Int):=by omega
   generalize lg key value=R at*;go_enter func32,ntmps32
   go_wp2_with fail
   go_ret
   exact⟨by rw[a.out];rfl,rfl⟩
theorem og(w)(T:az w):Calls yP 11 #[] w fun e w'=>e=rV (sV (str cw))/\yW w w':=by
 have a:Hid (Calls yP 24 #[sV ⟨#[128]⟩] w fun e w'=>e=rV (sV (str cw))/\yW w w'):=by
  have h:=iE ⟨#[128]⟩ (by decide) w T;have e:str cw=ai ⟨#[128]⟩:=by unfold cw;rw[lW];rfl
  rw[e];exact h
 clear T;generalize str cw=R at*;go_enter func11,ntmps11
 go_wp2_with fail
 refine a.out.mono ?_;rintro e w1 ⟨rfl,b⟩;have c:=aa b;clear b a;go_wp2_with fail
 go_ret
 exact⟨rfl,c.out⟩
def fO:yB:=ai ⟨#[]⟩
theorem yM(w)(T:az w):Calls yP 95 #[] w fun e w'=>e=rV (sV fO)/\yW w w':=by
 have a:Hid (Calls yP 24 #[sV ⟨#[]⟩] w fun e w'=>e=rV (sV fO)/\yW w w'):=iE ⟨#[]⟩ (by decide) w T;clear T;generalize fO=R at*;go_enter func95,ntmps95
 go_wp2_with fail
 refine a.out.mono ?_;rintro e w1 ⟨rfl,b⟩;have c:=aa b;clear b a;go_wp2_with fail
 go_ret
 exact⟨rfl,c.out⟩
def dP(w:World)(v:Value)(a:List (yB×yB)):Prop:=w.ownsRow 3 91 2 v a.length (eW a)
theorem dP.at_{w a n cap b}(h:dP w (lV a n cap) b)(k:Nat)(p:yB×yB)(c:b[k]? =some p):
 ∃g,a=some ⟨g,0,none⟩/\g<w.heap.size/\w.cell? ⟨g,k*2,none⟩=some (sV p.1)/\w.cell? ⟨g,k*2+1,none⟩=some (sV p.2):=by
 obtain⟨d,i,e,_,_,f⟩:=dr h;cases e
 have j:=(Rb.1 c).1;rcases f with⟨_,h0,_⟩|⟨g,rfl⟩
 ·omega
 ·obtain⟨p1,p2⟩:=qw b k p c;exact⟨g,rfl,(h.lt g rfl).2,dK h rfl _ _ p1,dK h rfl _ _ p2⟩
theorem dP.form{w v b}(h:dP w v b):∃a cap,v=lV a b.length cap:=by
 obtain⟨a,cap,e,_⟩:=dr h;exact⟨a,cap,e⟩
theorem dP.below{w w' v a}(h:dP w v a)(k:yW w w'):dP w' v a:=cK h fun g b=>k.block g (h.lt g b).2
theorem dP.nil(w):dP w (lV none 0 0) []:=RO _ _ _ _
def dj(m:List (yB×yB))(key:yB):yB:=(ae m key).getD ⟨#[]⟩
theorem mY(w v m)(key:yB)(n:dP w v m)(G:m.length<4200000000000):
 Calls yP 36 #[v,sV key] w fun e w'=>e=rV (sV (dj m key))/\w'=w:=by
 obtain⟨a,cap,rfl⟩:=n.form;have x:Hid (∀k (_:k<m.length),∃p q g,(a=some ⟨g,0,none⟩/\w.cell? ⟨g,k*2,none⟩=some (sV p)/\w.cell? ⟨g,k*2+1,none⟩=some (sV q))/\((p.toList == key.toList)=true->ae (m.drop k) key=some q)/\((p.toList == key.toList)=false->ae (m.drop k) key=ae (m.drop (k+1)) key)):=fun k E=>by
  have o:m[k]? =some m[k]:=QV E;obtain⟨g,e,_,c,d⟩:=n.at_ k _ o;exact⟨_,_,g,⟨e,c,d⟩,MY m key k _ o,MW m key k _ o⟩
 have y:Hid (ae (m.drop m.length) key=none):=by show _=_;rw[List.drop_length];rfl
 have u:Hid (ae m key=ae (m.drop 0) key):=by show _=_;simp
 have C:Hid (∀t,ae m key=some t->dj m key=t):=fun t h=>by unfold dj;rw[h];rfl
 have A:Hid (ae m key=none->dj m key=⟨#[]⟩):=fun h=>by unfold dj;rw[h];rfl
 clear n;generalize m.length=N at*;generalize dj m key=R at*;go_enter func36,ntmps36
 go_wp2_with fail
 go_loopg [5] N (fun g r wr=>∃i:Nat,g=N - i/\i<=N/\r=iV .i64 i/\Hid (ae m key=ae (m.drop i) key)/\wr=w)
 case atStart=>exact⟨0,rfl,by omega,rfl,u,rfl⟩
 case round=>
  obtain⟨i,s,hi,rfl,f,rfl⟩:=hrel;have z:=aa s;clear s;by_cases F:i<N
  ·obtain⟨p,q,g,⟨rfl,c1,c2⟩,j,l⟩:=x.out i F;have D:(i:Int)<(N:Int):=by omega
   cases hls:(p.toList == key.toList)
   ·have B:=aa (f.out.trans (l hls));clear j l;go_wp2_with fail
    go_roundg (N - (i+1))
    case measure=>have:=z.out;omega
    case rel=>exact⟨i+1,rfl,by omega,by go_num,B,rfl⟩
   ·have b:=aa (C.out q (f.out.trans (j hls)));clear j l;go_wp2_with fail
    go_ret
    exact⟨by rw[b.out];rfl,rfl⟩
  ·obtain rfl:i=N:=by omega
   have D:¬(i:Int)<(i:Int):=by omega
   have b:=aa (A.out (f.out.trans y.out));go_wp2_with fail
   go_ret
   exact⟨by rw[b.out];rfl,rfl⟩
theorem N4:(yP.info? 91).map (fun i=>(i.zero,i.size,i.bytes))=some (some (gV #[sV ⟨#[]⟩,sV ⟨#[]⟩]),2,32):=by kernel_rfl
def cz(m:List (yB×yB))(key value:yB):List (yB×yB):=others m key++(if value.size=0 then [] else [(key,value)])
theorem yI(w v m)(key value:yB)(B:dP w v m)(X:m.length<4000000000000):
 Calls yP 34 #[v,sV key,sV value] w fun e w'=>(∃v',e=rV v'/\w'.ownsRow w.heap.size 91 2 v' (cz m key value).length (eW (cz m key value)))/\yW w w':=by
 obtain⟨a,cap,rfl⟩:=B.form;have M:Hid (∀k (_:k<m.length),∃p q g,(a=some ⟨g,0,none⟩/\w.cell? ⟨g,k*2,none⟩=some (sV p)/\w.cell? ⟨g,k*2+1,none⟩=some (sV q))/\others (m.take (k+1)) key=others (m.take k) key++(if(p.toList == key.toList) then [] else [(p,q)])):=fun k l=>by
  have H:m[k]? =some m[k]:=QV l;obtain⟨g,e,_,c,d⟩:=B.at_ k _ H;exact⟨_,_,g,⟨e,c,d⟩,LF m key k _ H⟩
 have O:Hid (others (m.take m.length) key=others m key):=by show _=_;rw[SG]
 have P:Hid (∀k,(others (m.take k) key).length<=k):=fun k=>Q7 (nR _ _) (by rw[Rs];omega)
 have Q:Hid ((others m key).length<=m.length):=nR _ _;have E:Hid (cz m key value=others m key++(if value.size=0 then [] else [(key,value)])):=rfl;obtain⟨i0,G,J,K,L⟩:=Sf N4;clear B;generalize m.length=N at*;generalize cz m key value=R at*;go_enter func34,ntmps34
 go_wp2_with fail
 go_loopg [7,8] N (fun g v r wr=>∃i:Nat,g=N - i/\i<=N/\r=iV .i64 i/\Hid (wr.ownsRow w.heap.size 91 2 v (others (m.take i) key).length (eW (others (m.take i) key)))/\Hid (yW w wr))
 case atStart=>exact⟨0,rfl,by omega,rfl,RO _ _ _ _,Q1 _ _⟩
 case round=>
  obtain⟨i,F,hi,rfl,f,b⟩:=hrel;have D:=aa F;clear F;by_cases U:i<N
  ·obtain⟨p,q,g,⟨rfl,c1,c2⟩,h⟩:=M.out i U;have r1:=dC b.out c1;have r2:=dC b.out c2;have T:(i:Int)<(N:Int):=by omega
   have V:=P.out i;have C:=b.out.size;cases hls:(p.toList == key.toList)
   ·rw[hls] at h;have x:=aa h;clear h c1 c2;generalize others (m.take i) key=os at*;go_wp2_with (at_builtin;refine RG _ rfl (.tmp 22) (.tmp 27) 45 rfl w.heap.size 91 i0 (gV #[sV ⟨#[]⟩,sV ⟨#[]⟩]) 2 32 underlying45 G J K L rfl (by decide) _ os.length (eW os) rfl (f.out.alloc _) ⟨wr.heap.size,0,none⟩ 1 1 [sV p,sV q] rfl rfl (ud _ _ _ _ rfl) ?c2 (by omega) ?c3 ?c4 ?c5 _ rfl ?c6)
    case c2=>intro v I;simp at I;rcases I with rfl|rfl<;>rfl
    case c3=>unfold maxLen;omega
    case c4=>omega
    case c5=>simp;omega
    intro g2 y w2 n j z A;have t:Hid (w2.ownsRow w.heap.size 91 2 (lV (qA g2) (os.length+1) y) (others (m.take (i+1)) key).length (eW (others (m.take (i+1)) key))):=by
     show World.ownsRow _ _ _ _ _ _ _;rw[x.out,xZ,Q4];exact n
    have s:Hid (yW w w2):=(b.out.alloc C _).grown j (by simp;omega) (fun k l=>(f.out.lt k l).1);clear n j z A;go_wp2_with fail
    go_roundg (N - (i+1))
    case measure=>have:=D.out;omega
    case rel=>exact⟨i+1,rfl,by omega,by go_num,t,s⟩
   ·rw[hls] at h;have x:Hid (others (m.take (i+1)) key=others (m.take i) key):=by rw[h];show _=_;simp
    clear h c1 c2;go_wp2_with fail
    go_roundg (N - (i+1))
    case measure=>have:=D.out;omega
    case rel=>exact⟨i+1,rfl,by omega,by go_num,by rw[x.out];exact f,b⟩
  ·obtain rfl:i=N:=by omega
   have T:¬(i:Int)<(i:Int):=by omega
   rw[O.out] at f;have W:=Q.out;have C:=b.out.size;generalize others m key=os at*;by_cases o:value.size=0
   ·have S:value.toList.isEmpty=true:=by rw[gH];exact o
    have u:Hid (R=os):=by rw[E.out,QX o];show _=_;simp
    clear o;go_wp2_with fail
    go_ret
    exact⟨⟨_,rfl,by rw[u.out];exact f.out⟩,b.out⟩
   ·have S:value.toList.isEmpty=false:=by rw[gT];omega
    have u:Hid (R=os++[(key,value)]):=by rw[E.out,QW o];rfl
    clear o;go_wp2_with (at_builtin;refine RG _ rfl (.tmp 31) (.tmp 35) 45 rfl w.heap.size 91 i0 (gV #[sV ⟨#[]⟩,sV ⟨#[]⟩]) 2 32 underlying45 G J K L rfl (by decide) _ os.length (eW os) rfl (f.out.alloc _) ⟨wr.heap.size,0,none⟩ 1 1 [sV key,sV value] rfl rfl (ud _ _ _ _ rfl) ?kk2 (by omega) ?kk3 ?kk4 ?kk5 _ rfl ?kk6)
    case kk2=>exact⟨rfl,rfl⟩
    case kk3=>unfold maxLen;omega
    case kk4=>omega
    case kk5=>omega
    intro g2 y w2 n j z A;have t:Hid (w2.ownsRow w.heap.size 91 2 (lV (qA g2) (os.length+1) y) R.length (eW R)):=by
     show World.ownsRow _ _ _ _ _ _ _;rw[u.out,xZ,Q4];exact n
    have s:Hid (yW w w2):=(b.out.alloc C _).grown j (by simp;omega) (fun k l=>(f.out.lt k l).1);clear n j z A;go_wp2_with fail
    go_ret
    exact⟨⟨_,rfl,t.out⟩,s.out⟩
theorem gB{B w w'}(h:Below B w w')(n:Nat):Below B w (w'.drewN n):=⟨h.os,h.tape,h.output,h.size,h.block⟩
def gu(l:List yB)(x:yB)(n:Nat):Bool:=(l.take n).any fun y=>((ai x).toList == (ai y).toList) && !(x.toList == y.toList)
def cQ(l:List yB):Nat->Bool
 | 0=>false
 |n+1=>cQ l n || (match l[n]? with|some x=>gu l x n|none=>false)
theorem Pu(l:List yB)(x y)(n:Nat)(h:l[n]? =some y):gu l x (n+1)=(gu l x n || (((ai x).toList == (ai y).toList) && !(x.toList == y.toList))):=by
 unfold gu;rw[Sx,h,List.any_append];simp
theorem Pv(l:List yB)(x)(m n:Nat)(a:m<=n)(h:gu l x m=true):gu l x n=true:=by
 unfold gu at h⊢;rw[List.any_eq_true] at h⊢;obtain⟨y,h1,h2⟩:=h;exact⟨y,(List.take_sublist_take_left a).subset h1,h2⟩
theorem Gi (l : List ByteArray) : ∀ (m n : Nat), m ≤ n → cQ l m = true → cQ l n = true
  | m, 0, h, hc => by have : m = 0 := by omega
                      subst this; exact hc
  | m, n + 1, h, hc => by
    by_cases e : m = n + 1
    · subst e; exact hc
    · simp only [cQ, Gi l m n (by omega) hc, Bool.true_or]
theorem oh(w v)(l:List yB)(t:fD w v l)(hn:l.length<=4200000000000)(R:∀p∈l,p.size<=maxLen)(T:az w):
 Calls yP 46 #[v] w fun e w'=>e=rV (bV (cQ l l.length))/\yW w w':=by
 obtain⟨a,cap,rfl,t⟩:=t;have F:Hid (∀k (_:k<l.length),∃p g o,l[k]? =some p/\a=some ⟨g,o,none⟩/\(∀W,yW w W->W.cell? ⟨g,o+k,none⟩=some (sV p))/\(∀W,yW w W->Calls yP 24 #[sV p] W fun e w'=>e=rV (sV (ai p))/\yW W w')/\((ai p).size:Int)=32):=fun k c=>by
  have Q:l[k]? =some l[k]:=QV c;rcases t with rfl|⟨g,o,e,h⟩
  ·cases c
  ·refine⟨_,g,o,Q,e,fun W A=>dC A (h k _ Q),fun W A=>iE _ (R _ (RV c)) W (T.below A),?_⟩;have:(ai l[k]).size=32:=eL _;omega
 have HN:Hid (∀k x,l[k]? =some x->cQ l (k+1)=(cQ l k || gu l x k)):=fun k x u=>by simp only[cQ,u]
 have HM:Hid (∀k,k<=l.length->cQ l k=true->cQ l l.length=true):=fun k c h=>Gi l k _ c h
 have A1:Hid (∀x y k,l[k]? =some y->gu l x (k+1)=(gu l x k || (((ai x).toList == (ai y).toList) && !(x.toList == y.toList)))):=fun x y k h=>Pu l x y k h
 have A0:Hid (∀x m n,m<=n->gu l x m=true->gu l x n=true):=fun x m n h=>Pv l x m n h
 clear t R T;generalize l.length=N at*;go_enter func46,ntmps46
 go_wp2_with fail
 go_loopg [3] N (fun g r wr=>∃i:Nat,g=N - i/\i<=N/\r=iV .i64 i/\Hid (cQ l i=false)/\Hid (yW w wr))
 case atStart=>exact⟨0,rfl,by omega,rfl,rfl,Q1 _ _⟩
 case round=>
  obtain⟨i,s,hi,rfl,G,d⟩:=hrel;have HG:=aa s;clear s;by_cases A9:i<N
  ·obtain⟨x,g,o,u,rfl,D,S,B2⟩:=F.out i A9;have c1:=D wr d.out;have L:=S wr d.out;have A4:=aa D;have K:=aa L;have J:Hid (cQ l (i+1)=gu l x i):=by rw[HN.out i x u,G.out];exact Bool.false_or _
   have A7:(i:Int)<(N:Int):=by omega
   have A2:Hid (∀y k,l[k]? =some y->gu l x (k+1)=(gu l x k || (((ai x).toList == (ai y).toList) && !(x.toList == y.toList)))):=fun y k h=>A1.out x y k h
   have A3:Hid (∀k,k<=i->gu l x k=true->cQ l N=true):=fun k c h=>HM.out (i+1) (by omega) (by rw[J.out];exact A0.out x k i c h)
   generalize ai x=hx' at*;clear S D L;go_wp2_with fail
   refine K.out.mono ?_;rintro e w1 ⟨rfl,O⟩;have Y:=aa (d.out.trans (O.mono d.out.size));clear O K c1 u;generalize wr=WR at*;generalize gk=GK at*;go_wp2_with fail
   go_loopg [5] i (fun g r wr=>∃j:Nat,g=i - j/\j<=i/\r=iV .i64 j/\Hid (gu l x j=false)/\Hid (yW w wr))
   case atStart=>exact⟨0,rfl,by omega,rfl,by show gu l x 0=false;unfold gu;simp,Y⟩
   case round=>
    obtain⟨j,s,hj,rfl,H,q⟩:=hrel;have I:=aa s;clear s;by_cases B1:j<i
    ·obtain⟨y,g',o',V,B,E,X,_⟩:=F.out j (by omega);injection B with B;injection B with e1 e2;subst e1 e2;have c2:=E wr q.out;have M:=aa (X wr q.out);have z:Hid (gu l x (j+1)=((hx'.toList == (ai y).toList) && !(x.toList == y.toList))):=by rw[A2.out y j V,H.out];exact Bool.false_or _
     have A5:=aa E;have A8:(j:Int)<(i:Int):=by omega
     generalize ai y=hy' at*;clear X E V;go_wp2_with fail
     refine M.out.mono ?_;rintro e w2 ⟨rfl,P⟩;have f:=aa (q.out.trans (P.mono q.out.size));have d1:=A4.out w2 f.out;have d2:=A5.out w2 f.out;clear P M c2;by_cases C:(hx'.toList == hy'.toList)=true
     ·by_cases U:(x.toList == y.toList)=true
      ·have b:Hid (gu l x (j+1)=false):=by rw[z.out,C,U];rfl
       go_upto_region 9 with fail
       go_quiet (fail)
       go_wp2_with fail
       go_roundg (i - (j+1))
       case measure=>have:=I.out;omega
       case rel=>exact⟨j+1,rfl,by omega,by go_num,b,gB f.out _⟩
      ·have B0:(x.toList == y.toList)=false:=by simpa using U
       have b:Hid (gu l x (j+1)=true):=by rw[z.out,C,B0];rfl
       have Z:Hid (cQ l N=true):=A3.out (j+1) (by omega) b.out;go_upto_region 9 with fail
       go_quiet (fail)
       go_wp2_with fail
       go_ret
       exact⟨by rw[Z.out];rfl,gB f.out _⟩
     ·have A6:(hx'.toList == hy'.toList)=false:=by simpa using C
      have b:Hid (gu l x (j+1)=false):=by rw[z.out,A6];rfl
      go_upto_region 9 with fail
      go_quiet (fail)
      go_wp2_with fail
      go_roundg (i - (j+1))
      case measure=>have:=I.out;omega
      case rel=>exact⟨j+1,rfl,by omega,by go_num,b,gB f.out _⟩
    ·obtain rfl:j=i:=by omega
     have A8:¬(j:Int)<(j:Int):=by omega
     have b:Hid (cQ l (j+1)=false):=by rw[J.out];exact H.out
     go_wp2_with fail
     go_roundg (N - (j+1))
     case measure=>have:=HG.out;omega
     case rel=>exact⟨j+1,rfl,by omega,by go_num,b,q⟩
  ·obtain rfl:i=N:=by omega
   have A7:¬(i:Int)<(i:Int):=by omega
   have HR:=aa G;go_wp2_with fail
   go_ret
   exact⟨by rw[HR.out];rfl,d.out⟩
def iB(G:yB->Option yB)(t:yB):Bool:=match G (ai t) with
 |none=>false
 |some u=>!(u.toList == t.toList) && ((ai u).toList == (ai t).toList)
theorem II(w)(d:Option Addr)(t h)(b:Hid (Calls yP 24 #[sV t] w fun e w'=>e=rV (sV h)/\yW w w'))
 (f:Hid (∀W,yW w W->Calls yP 119 #[pV d,sV h] W fun e w'=>e=rV (tV #[sV ⟨#[]⟩,iV .i64 9])/\∃n,w'=W.drewN n)):
 Calls yP 86 #[pV d,sV t] w fun e w'=>e=rV (bV false)/\yW w w':=by
 go_enter func86,ntmps86
 go_wp2_with fail
 refine b.out.mono ?_;rintro e w1 ⟨rfl,c⟩;have a:=aa c;clear c b;go_wp2_with fail
 refine(f.out w1 a.out).mono ?_;rintro e w2 ⟨rfl,n,rfl⟩;go_wp2_with fail
 go_ret
 exact⟨rfl,gB a.out _⟩
theorem IF(w)(d:Option Addr)(t h u:yB)(b:Hid (Calls yP 24 #[sV t] w fun e w'=>e=rV (sV h)/\yW w w'))
 (f:Hid (∀W,yW w W->Calls yP 119 #[pV d,sV h] W fun e w'=>e=rV (tV #[sV u,iV .i64 0])/\∃n,w'=W.drewN n)) (g:(u.toList == t.toList)=true):
 Calls yP 86 #[pV d,sV t] w fun e w'=>e=rV (bV false)/\yW w w':=by
 go_enter func86,ntmps86
 go_wp2_with fail
 refine b.out.mono ?_;rintro e w1 ⟨rfl,c⟩;have a:=aa c;clear c b;go_wp2_with fail
 refine(f.out w1 a.out).mono ?_;rintro e w2 ⟨rfl,n,rfl⟩;go_wp2_with fail
 go_ret
 exact⟨rfl,gB a.out _⟩
theorem IG(w)(l:Option Addr)(t h u k:yB)(d:Hid (Calls yP 24 #[sV t] w fun e w'=>e=rV (sV h)/\yW w w'))
 (i:Hid (∀W,yW w W->Calls yP 119 #[pV l,sV h] W fun e w'=>e=rV (tV #[sV u,iV .i64 0])/\∃n,w'=W.drewN n)) (o:(u.toList == t.toList)=false)
 (j:Hid (∀W,yW w W->Calls yP 24 #[sV u] W fun e w'=>e=rV (sV k)/\yW W w')) (h32:(h.size:Int)=32):
 Calls yP 86 #[pV l,sV t] w fun e w'=>e=rV (bV (k.toList == h.toList))/\yW w w':=by
 by_cases g:(k.toList == h.toList)=true
 ·rw[g];go_enter func86,ntmps86
  go_wp2_with fail
  refine d.out.mono ?_;rintro e w1 ⟨rfl,b⟩;have a:=aa b;clear b d;go_wp2_with fail
  refine(i.out w1 a.out).mono ?_;rintro e w2 ⟨rfl,n,rfl⟩;go_wp2_with fail
  refine(j.out _ (gB a.out n)).mono ?_;rintro e w3 ⟨rfl,c⟩;have f:=aa ((gB a.out n).trans (c.mono a.out.size));clear c;go_wp2_with fail
  go_ret
  exact⟨rfl,f.out⟩
 ·have m:(k.toList == h.toList)=false:=by simpa using g
  clear g;rw[m];go_enter func86,ntmps86
  go_wp2_with fail
  refine d.out.mono ?_;rintro e w1 ⟨rfl,b⟩;have a:=aa b;clear b d;go_wp2_with fail
  refine(i.out w1 a.out).mono ?_;rintro e w2 ⟨rfl,n,rfl⟩;go_wp2_with fail
  refine(j.out _ (gB a.out n)).mono ?_;rintro e w3 ⟨rfl,c⟩;have f:=aa ((gB a.out n).trans (c.mono a.out.size));clear c;go_wp2_with fail
  go_ret
  exact⟨rfl,f.out⟩
theorem Ec{M w a G}(f:jJ M w a G)(g:∀x,M x->x<w.heap.size)(h:∀k t,G k=some t->t.size<=maxLen)(t:yB)(i:t.size<=maxLen)(T:az w):
 Calls yP 86 #[pV a,sV t] w fun e w'=>e=rV (bV (iB G t))/\yW w w':=by
 have c:=aa (iE t i w T);have h32:(ai t).size=32:=eL _;have b:Hid (∀W,yW w W->Calls yP 119 #[pV a,sV (ai t)] W fun e w'=>e=rV (tV #[sV ((G (ai t)).getD ⟨#[]⟩),iV .i64 (if(G (ai t)).isSome=true then 0 else 9)])/\∃n,w'=W.drewN n):=fun W d=>f W (ai t) h32 fun x j=>d.block x (g x j)
 unfold iB;cases hg:G (ai t) with
 |none=>rw[hg] at b;exact II w a t _ c b
 |some u=>
  rw[hg] at b;simp only;cases hut:(u.toList == t.toList) with
  |true=>exact IF w a t _ u c b hut
  |false=>
   rw[Bool.not_false,Bool.true_and];exact IG w a t _ u (ai u) c b hut (fun W d=>iE u (h _ _ hg) W (T.below d)) (by rw[h32];rfl)
def ev:List b6->yB->Nat
 | [],_=>0
 |p::t,h=>if cC p.1 h then ev t h+1 else 0
theorem xY:∀(a:List b6) (h),ev a h<=a.length
 | [],_=>QU _
 |p::t,h=>by
  unfold ev
  have:=xY t h
  simp only[Ro]
  split<;>omega
theorem KO(a:List b6)(h)(i:Nat)(p:b6)(b:a[i]? =some p)(c:cC p.1 h=true):ev (a.drop i) h=ev (a.drop (i+1)) h+1:=by
 have d:=(Rb.1 b).1;rw[RF d,(Rb.1 b).2];conv=>lhs;unfold ev
 rw[QX c]
theorem KM(b:List b6)(h)(i:Nat)(p:b6)(a:b[i]? =some p)(c:cC p.1 h=false):ev (b.drop i) h=0:=by
 have d:=(Rb.1 a).1;rw[RF d,(Rb.1 a).2];unfold ev;rw[c];rfl
def jX(a:List b6)(h:yB):Bool:=match a[ev a h]? with
 |some p=>p.1.toList == h.toList
 |none=>false
theorem EC{a h}(b:jX a h=true):ev a h<a.length:=by
 unfold jX at b;rcases Nat.lt_or_ge (ev a h) a.length with c|c
 ·exact c
 ·rw[RP c] at b;cases b
theorem Bp(w)(b:Nat)(h:yB)(l:0<h.size)(a)(cap:Nat)(d:List b6)(S:wm w b (h[0]'l).toNat a cap d)(F:d.length<4200000000000):
 Calls yP 123 #[pV (qA b),sV h] w fun e w'=>e=rV (tV #[iV .i64 (ev d h),bV (jX d h)])/\∃n,w'=w.drewN n:=by
 have c0:=S.cell;have D:(h[0]'l).toNat<256:=(h[0]'l).toNat_lt;have v:Hid (∀k (_:k<d.length),∃p g,a=some ⟨g,0,none⟩/\w.cell? ⟨g,k*2,none⟩=some (sV p)/\(∃q,d[k]? =some (p,q))):=fun k A=>by
  have t:d[k]? =some d[k]:=QV A;obtain⟨g,e,c,_⟩:=S.at_ k _ t;exact⟨_,g,e,c,_,t⟩
 have G:(0:Int)<(h.size:Int):=by omega
 clear S;generalize hN:d.length=N at*;generalize hcc:(h[0]'l).toNat=C at*;have E:(C:Int)<256:=by omega
 go_enter func123,ntmps123
 go_wp2_with fail
 go_region
 go_wp2_with fail
 go_loopg [7] N (fun g u wr=>∃k:Nat,g=N - k/\k<=N/\u=iV .i64 k/\Hid (ev d h=k+ev (d.drop k) h)/\wr=w.drew)
 case atStart=>exact⟨0,by omega,by omega,rfl,by show _=_;simp,rfl⟩
 case round=>
  obtain⟨k,s,h1,rfl,o,rfl⟩:=hrel;have x:=aa s;clear s;by_cases B:k<N
  ·obtain⟨p,g,rfl,c1,q,j⟩:=v.out k B;have z:(k:Int)<(N:Int):=by omega
   cases hls:Op.bytesLess p.toList h.toList
   ·have f:ev d h=k:=by rw[o.out,KM d h k _ j hls];rfl
    have r:=aa f;have i:jX d h=(p.toList == h.toList):=by unfold jX;rw[f,j]
    have m:=aa i;clear f i j;go_wp2_with fail
    go_region
    go_wp2_with fail
    go_ret2
    exact⟨by rw[r.out,m.out];rfl,2,rfl⟩
   ·have y:Hid (ev d h=(k+1)+ev (d.drop (k+1)) h):=by
     show _=_;rw[o.out,KO d h k _ j hls];omega
    clear j;go_wp2_with fail
    go_roundg (N - (k+1))
    case measure=>have:=x.out;omega
    case rel=>exact⟨k+1,rfl,by omega,by go_num,y,rfl⟩
  ·obtain rfl:k=N:=by omega
   have z:¬(k:Int)<(k:Int):=by omega
   have f:ev d h=k:=by rw[o.out,<-hN,List.drop_length];rfl
   have r:=aa f;have i:jX d h=false:=by
    unfold jX;rw[f,RP (by omega)]
   have m:=aa i;clear f i;go_wp2_with fail
   go_region
   go_wp2_with fail
   go_ret2
   exact⟨by rw[r.out,m.out];rfl,2,rfl⟩
theorem N1:(yP.info? 151).map (fun i=>(i.zero,i.size,i.bytes))=some (some (gV #[sV ⟨#[]⟩,pV none]),2,24):=by kernel_rfl
def GM(P:Nat->World->Prop)(w:World)(b sb f:Nat)(d:Nat->Value)(a:Nat->List b6)(c:Nat)(h:yB)(e:Ending)(w':World):Prop:=
 (∃p q,(a c)[ev (a c) h]? =some (q,p)/\e=rV (pV p)/\w'.heap=w.heap/\w'.os=w.os/\w'.tape=w.tape/\w'.output=w.output)\/
 (∃tb v' w1,e=rV (pV (qA tb))/\P tb w1/\yW w w1/\aN (fun k=>k=b\/(d c).ownBlock=some k) w1 w'/\cJ 3 w' b sb f (aU d c v') (aL a c ((a c).take (ev (a c) h)++[(h,some ⟨tb,0,none⟩)]++(a c).drop (ev (a c) h)))/\jG w1 (d c) v')
theorem Js(P:Nat->World->Prop)(w)(b sb tw:Nat)(vs)(sh:Nat->List b6)(S:cJ 3 w b sb tw vs sh)(h A9:yB)(hs:0<h.size)(hn:(sh (h[0]'hs).toNat).length<4000000000000)(h3:3<=w.heap.size)
 (B0:Hid (∀W,W.heap=w.heap->W.os=w.os->W.tape=w.tape->W.output=w.output->Calls yP 12 #[pV (some ⟨sb,0,none⟩),sV A9] W fun e w'=>∃tb,e=rV (tV #[pV (some ⟨tb,0,none⟩),iV .i64 0])/\P tb w'/\Below w.heap.size w w')):
 Calls yP 96 #[pV (some ⟨b,0,none⟩),sV h,sV A9] w (GM P w b sb tw vs sh (h[0]'hs).toNat h):=by
 have hc:(h[0]'hs).toNat<256:=(h[0]'hs).toNat_lt;obtain⟨a,cap,F0,SH⟩:=S.kx _ hc;have C1:Hid (Calls yP 123 #[pV (some ⟨b,0,none⟩),sV h] w fun e w'=>e=rV (tV #[iV .i64 (ev (sh (h[0]'hs).toNat) h),bV (jX (sh (h[0]'hs).toNat) h)])/\∃n,w'=w.drewN n):=Bp w b h hs a cap _ SH (by omega);have D3:=xY (sh (h[0]'hs).toNat) h;have C2:Hid (jX (sh (h[0]'hs).toNat) h=true->ev (sh (h[0]'hs).toNat) h<(sh (h[0]'hs).toNat).length):=EC;have HS:Hid (cJ 3 w b sb tw vs sh):=S;have G4:(0:Int)<(h.size:Int):=by omega
 obtain⟨R,hR⟩:=yX (GM P w b sb tw vs sh (h[0]'hs).toNat h)
 have B2:Hid (∀p q W,(sh (h[0]'hs).toNat)[ev (sh (h[0]'hs).toNat) h]? =some (q,p)->W.heap=w.heap->W.os=w.os->W.tape=w.tape->W.output=w.output->R (rV (pV p)) W):=fun p q W h1 h2 h3 h4 h5=>by rw[hR];exact .inl ⟨p,q,h1,rfl,h2,h3,h4,h5⟩
 have B3:Hid (∀tb v' w1 W,P tb w1->Below w.heap.size w w1->aN (fun k=>k=b\/(vs (h[0]'hs).toNat).ownBlock=some k) w1 W->cJ 3 W b sb tw (aU vs (h[0]'hs).toNat v') (aL sh (h[0]'hs).toNat ((sh (h[0]'hs).toNat).take (ev (sh (h[0]'hs).toNat) h)++[(h,some ⟨tb,0,none⟩)]++(sh (h[0]'hs).toNat).drop (ev (sh (h[0]'hs).toNat) h)))->jG w1 (vs (h[0]'hs).toNat) v'->R (rV (pV (some ⟨tb,0,none⟩))) W):=fun tb v' w1 W h1 h2 h3 h4 h5=>by rw[hR];exact .inr ⟨tb,v',w1,rfl,h1,h2,h3,h4,h5⟩
 rw[<-hR];suffices hh:Calls yP 96 #[pV (some ⟨b,0,none⟩),sV h,sV A9] w (fun e w'=>R e w'/\True) from hh.mono fun _ _ h=>h.1
 clear S SH hR F0;generalize jX (sh (h[0]'hs).toNat) h=hit at*;generalize ev (sh (h[0]'hs).toNat) h=k at*;generalize hcc:(h[0]'hs).toNat=c at*;have F9:(c:Int)<256:=by omega
 obtain⟨i0,D1,D5,D6,D7⟩:=Sf N1;go_enter func96,ntmps96
 go_wp2_with fail
 refine C1.out.mono ?_;rintro e w1 ⟨rfl,n1,D4⟩;have A1:Hid (w1.heap=w.heap/\w1.os=w.os/\w1.tape=w.tape/\w1.output=w.output):=by rw[D4];exact⟨rfl,rfl,rfl,rfl⟩
 have S1:cJ 3 w1 b sb tw vs sh:=HS.out.same A1.out.1;clear D4 C1;cases hit
 ·have C3:=B0.out w1 A1.out.1 A1.out.2.1 A1.out.2.2.1 A1.out.2.2.2;have C4:Hid (Calls yP 12 #[pV (some ⟨sb,0,none⟩),sV A9] w1 fun e w'=>∃tb,e=rV (tV #[pV (some ⟨tb,0,none⟩),iV .i64 0])/\P tb w'/\Below w.heap.size w w'):=C3;have d00:w1.cell? ⟨b,0,none⟩=some (pV (some ⟨sb,0,none⟩)):=by rw[Q5 w1 b 0 _ _ _ S1.ah];exact Bm _ _ _
  clear C3 S1;go_wp2_with fail
  refine C4.out.mono ?_;rintro e w2 ⟨tb,rfl,C9,A5⟩;have F1:=A5.size;have S2:cJ 3 w2 b sb tw vs sh:=by
   refine⟨(A5.block b (Q0.1 HS.out.ah).1).trans HS.out.ah,fun d hd=>cK (HS.out.own d hd) fun g hg=>A5.block g ((HS.out.own d hd).lt g hg).2,HS.out.sep,HS.out.ff⟩
  have C6:Hid (P tb w2):=C9;have C0:Hid (Below w.heap.size w w2):=A5;have D0:b<w2.heap.size:=(Q0.1 S2.ah).1;have c0:w2.cell? ⟨b,2+c,none⟩=some (vs c):=by rw[Q5 w2 b (2+c) _ _ _ S2.ah];exact rT _ _ _ _ hc
  have E7:(w2.alloc (.cells #[sV ⟨#[]⟩,pV none] 151)).cell? ⟨b,2+c,none⟩=some (vs c):=by
   rw[Rd (w:=w2) (RL _ _ _ D0)];exact c0
  have C5:Hid (w2.ownsRow 3 151 2 (vs c) (sh c).length (gN (sh c))):=S2.own c hc;have B9:Hid (∀g5 A0 w5,w5.ownsRow 3 151 2 (lV (some ⟨g5,0,none⟩) ((sh c).length+1) A0) ((sh c).length+1) (gN (sh c)++[sV ⟨#[]⟩,pV none])->(w2.drew.alloc (.cells #[sV ⟨#[]⟩,pV none] 151)).grownBy w5 (vs c).ownBlock->
   ((vs c).ownBlock=some g5\/g5=w2.heap.size+1)->
   Hid (cJ 3 (w5.setCell ⟨b,2+c,none⟩ (lV (some ⟨g5,0,none⟩) ((sh c).length+1) A0)) b sb tw (aU vs c (lV (some ⟨g5,0,none⟩) ((sh c).length+1) A0)) (aL sh c (sh c++[(⟨#[]⟩,none)]))/\aN (fun k=>k=b\/(vs c).ownBlock=some k) w2 (w5.setCell ⟨b,2+c,none⟩ (lV (some ⟨g5,0,none⟩) ((sh c).length+1) A0))/\((vs c).ownBlock=some g5\/w2.heap.size<=g5))/\
    w5.cell? ⟨b,2+c,none⟩=some (vs c)/\w5.frozen? ⟨b,2+c,none⟩=false):=by
   intro g5 A0 w5 ho hg ha;have hl:(sh c++[((⟨#[]⟩:yB),(none:Option Addr))]).length=(sh c).length+1:=by simp
   have:=S2.grown c hc _ (sh c++[(⟨#[]⟩,none)]) g5 A0 w5 (by rw[hl,Ju];exact ho) hg ha;rw[hl] at this;obtain⟨h1,h2,h3,_⟩:=this;refine⟨⟨h2,h3,?_⟩,by rw[Q5 w5 b (2+c) _ _ _ h1];exact rT _ _ _ _ hc,Rx w5 b (2+c) _ _ h1⟩;rcases ha with ha|ha
   ·exact .inl ha
   ·exact .inr (by omega)
  clear S2 C9 A5 d00 C4;go_upto_region 5 with fail
  go_cut [] (fun wx=>∃g5 A0,Hid (cJ 3 wx b sb tw (aU vs c (lV (some ⟨g5,0,none⟩) ((sh c).length+1) A0)) (aL sh c (sh c++[(⟨#[]⟩,none)])))/\Hid (aN (fun k=>k=b\/(vs c).ownBlock=some k) w2 wx)/\Hid ((vs c).ownBlock=some g5\/w2.heap.size<=g5))
  case first=>
   go_region_law (refine step_append_lies _ rfl (.tmp 49) (.tmp 51) 95 rfl 3 151 i0 (gV #[sV ⟨#[]⟩,pV none]) 2 24 underlying95 D1 D5 D6 D7 rfl (by decide) (vs c) (sh c).length (gN (sh c)) (by simp[Act.eval]) (C5.out.drew.alloc _) ⟨w2.heap.size,0,none⟩ 1 1 [sV ⟨#[]⟩,pV none] (by simp[Act.eval]) rfl (ud _ _ _ _ rfl) (by intro u hu;simp at hu;rcases hu with rfl|rfl<;>rfl) (by omega) (by unfold maxLen;omega) (by omega) (by simp;omega) _ rfl ?_;intro g5 A0 w5 hown5 hgr5 hat5 hlt5;obtain⟨HF5,e3,g3⟩:=B9.out g5 A0 w5 hown5 hgr5 (by simpa using hat5);clear hown5 hgr5 hat5 hlt5)
   all_goals
    go_wp2_with fail
    go_meet
    exact⟨g5,A0,HF5.out.1,HF5.out.2.1,HF5.out.2.2⟩
  case rest=>
   obtain⟨g5,A0,HP,HW,A3⟩:=hcut;clear B9 C5 c0 E7;obtain⟨N,hN⟩:=yX ((sh c).length)
   obtain⟨L,hL⟩:=yX (sh c++[((⟨#[]⟩:yB),(none:Option Addr))])
   have C8:L.length=N+1:=by rw[hL,hN];simp
   obtain⟨V,hV⟩:=yX (aU vs c (lV (some ⟨g5,0,none⟩) (N+1) A0))
   have B6:V c=lV (some ⟨g5,0,none⟩) (N+1) A0:=by rw[hV];simp[aU]
   rw[<-hN,<-hL,<-hV] at HP;have d0:wc.cell? ⟨b,2+c,none⟩=some (lV (some ⟨g5,0,none⟩) (N+1) A0):=by
    rw[Q5 wc b (2+c) _ _ _ HP.out.ah,rT _ _ _ _ hc,B6]
   have A2:Hid (L.length=N+1):=C8;have B4:Hid (V c=lV (some ⟨g5,0,none⟩) (N+1) A0):=B6;have D8:Hid (∀W,cJ 3 W b sb tw V (aL sh c ((dX L N (N - k)).set k (h,some ⟨tb,0,none⟩)))->aN (fun k=>k=b\/(vs c).ownBlock=some k) w2 W->R (rV (pV (some ⟨tb,0,none⟩))) W):=fun W h1 h2=>by
    rw[hV,hL,hN,Iu _ _ _ _ D3] at h1;exact B3.out tb _ w2 W C6.out C0.out h2 h1 fun g hg=>by simp[Value.ownBlock] at hg;subst hg;exact A3.out
   have E1:Hid (∀W j,cJ 3 W b sb tw V (aL sh c (dX L N j))->∀i p,(dX L N j)[i]? =some p->W.cell? ⟨g5,i*2,none⟩=some (sV p.1)/\W.cell? ⟨g5,i*2+1,none⟩=some (pV p.2)/\W.frozen? ⟨g5,i*2,none⟩=false/\W.frozen? ⟨g5,i*2+1,none⟩=false):=fun W j h=>by
    have ho:=h.own c hc;simp only[aL,RJ] at ho;have A8:(V c).ownBlock=some g5:=by rw[B4.out];rfl
    refine fun i p hp=>?_
    obtain⟨p1,p2⟩:=uw _ i p hp;exact⟨dK ho A8 _ _ p1,dK ho A8 _ _ p2,ju ho A8 _,ju ho A8 _⟩
   have E4:Hid (∀W j p,j<N->L[N - j - 1]? =some p->cJ 3 W b sb tw V (aL sh c (dX L N j))->cJ 3 ((W.setCell ⟨g5,(N - j)*2,none⟩ (sV p.1)).setCell ⟨g5,(N - j)*2+1,none⟩ (pV p.2)) b sb tw V (aL sh c (dX L N (j+1)))):=fun W j p hj hp h=>by
    have:=h.put c hc g5 (by rw[B4.out];rfl) (N - j) p;have e:aL (aL sh c (dX L N j)) c ((aL sh c (dX L N j) c).set (N - j) p)=aL sh c (dX L N (j+1)):=by
     funext d
     by_cases hd:d=c
     ·simp only[aL,hd,RJ];show(dX L N j).set (N - j) p=(dX L N j).set (N - j) (L.getD (N - j - 1) _);rw[Q3,hp];rfl
     ·simp only[aL,hd,Ry]
    rw[e] at this;exact this
   have D9:Hid (∀W,cJ 3 W b sb tw V (aL sh c (dX L N (N - k)))->cJ 3 ((W.setCell ⟨g5,k*2,none⟩ (sV h)).setCell ⟨g5,k*2+1,none⟩ (pV (some ⟨tb,0,none⟩))) b sb tw V (aL sh c ((dX L N (N - k)).set k (h,some ⟨tb,0,none⟩)))):=fun W hW=>by
    have:=hW.put c hc g5 (by rw[B4.out];rfl) k (h,some ⟨tb,0,none⟩);have e:aL (aL sh c (dX L N (N - k))) c ((aL sh c (dX L N (N - k)) c).set k (h,some ⟨tb,0,none⟩))=aL sh c ((dX L N (N - k)).set k (h,some ⟨tb,0,none⟩)):=by
     funext d
     by_cases hd:d=c
     ·simp only[aL,hd,RJ]
     ·simp only[aL,hd,Ry]
    rw[e] at this;exact this
   have E2:Hid (cJ 3 wc.drew b sb tw V (aL sh c (dX L N 0))):=HP.out.same rfl;have E5:Hid (aN (fun k=>k=b\/(vs c).ownBlock=some k) w2 wc.drew):=⟨HW.out.os,HW.out.tape,HW.out.output,HW.out.size,HW.out.block⟩
   have G1:k<=N:=by omega
   have F7:N<4000000000000:=by omega
   clear hV hL hN B6 C8 D3 hn HP HW D1 D5 D6 D7 B3 B2 C2 HS A1 B0 C6 C0 D0 F1;go_wp2_with fail
   go_region
   go_wp2_with fail
   clear d0;go_loopg [12] (N - k) (fun g r wr=>∃j:Nat,g=N - k - j/\j<=N - k/\r=iV .i64 ((N:Int) - (j:Int))/\Hid (cJ 3 wr b sb tw V (aL sh c (dX L N j)))/\Hid (aN (fun q=>q=b\/(vs c).ownBlock=some q) w2 wr))
   case atStart=>exact⟨0,rfl,by omega,by go_num,E2,E5⟩
   case round=>
    obtain⟨j,hg,hj,rfl,B1,C7⟩:=hrel;have HG:Hid (gk=N - k - j):=hg;clear hg;have A4:=E1.out wr j B1.out;by_cases G3:j<N - k
    ·obtain⟨M,hM⟩:=yX (N - j)
     have E9:(N:Int) - (j:Int)=(M:Int):=by omega
     obtain⟨Q,hQ⟩:=yX (N - j - 1)
     have F4:(M:Int) - 1=(Q:Int):=by omega
     have B7:L[N - j - 1]? =some (L[N - j - 1]'(by rw[A2.out];omega)):=QV _;have D2:(dX L N j)[N - j - 1]? =L[N - j - 1]? :=wR L N j _ (by omega);have A6:(dX L N j)[N - j]? =some ((dX L N j)[N - j]'(by rw[oR,A2.out];omega)):=QV _;obtain⟨s1,s2,_,_⟩:=A4 _ _ (D2.trans B7);obtain⟨t1,t2,t3,t4⟩:=A4 _ _ A6;have B8:=E4.out wr j _ (by omega) B7 B1.out;generalize L[N - j - 1]'(by rw[A2.out];omega)=p at*;generalize (dX L N j)[N - j]'(by rw[oR,A2.out];omega)=pu at*;rw[<-hM] at t1 t2 t3 t4 B8;rw[<-hQ] at s1 s2;rw[E9];have E3:Hid (cJ 3 ((wr.setCell ⟨g5,M*2,none⟩ (sV p.1)).setCell ⟨g5,M*2+1,none⟩ (pV p.2)) b sb tw V (aL sh c (dX L N (j+1)))):=B8;have F8:(k:Int)<(M:Int):=by omega
     have F5:(M:Int)<(N:Int)+1:=by omega
     have F6:(Q:Int)<(N:Int)+1:=by omega
     have G5:IntKind.i64.wrap (Q:Int)=(Q:Int):=by rw[RE];omega
     have G6:IntKind.i64.wrap (M:Int)=(M:Int):=by rw[RE];omega
     have E0:Hid (M=N - j):=hM;have E6:Hid (aN (fun q=>q=b\/(vs c).ownBlock=some q) w2 ((wr.setCell ⟨g5,M*2,none⟩ (sV p.1)).setCell ⟨g5,M*2+1,none⟩ (pV p.2))):=
      aN.set (w':=wr.setCell ⟨g5,M*2,none⟩ (sV p.1)) (aN.set (w':=wr) C7.out ⟨g5,M*2,none⟩ _ (A3.out.elim (fun h=>.inl (.inr h)) .inr)) ⟨g5,M*2+1,none⟩ _ (A3.out.elim (fun h=>.inl (.inr h)) .inr)
     clear B7 D2 A6 B8 A4 hQ hM;go_wp2_with fail
     go_roundg (N - k - (j+1))
     case measure=>have:=HG.out;omega
     case rel=>exact⟨j+1,rfl,by omega,by have:=E0.out;go_num,E3,E6⟩
    ·obtain rfl:j=N - k:=by omega
     have E8:(N:Int) - ((N - k:Nat):Int)=(k:Int):=by omega
     rw[E8];have F3:¬(k:Int)<(k:Int):=by omega
     have A6:(dX L N (N - k))[k]? =some ((dX L N (N - k))[k]'(by rw[oR,A2.out];omega)):=QV _;obtain⟨t1,t2,t3,t4⟩:=A4 _ _ A6;have G2:(k:Int)<(N:Int)+1:=by omega
     have HF:Hid (R (rV (pV (some ⟨tb,0,none⟩))) ((wr.setCell ⟨g5,k*2,none⟩ (sV h)).setCell ⟨g5,k*2+1,none⟩ (pV (some ⟨tb,0,none⟩)))):=D8.out _ (D9.out wr B1.out) (aN.set (w':=wr.setCell ⟨g5,k*2,none⟩ (sV h)) (aN.set (w':=wr) C7.out ⟨g5,k*2,none⟩ _ (A3.out.elim (fun h=>.inl (.inr h)) .inr)) ⟨g5,k*2+1,none⟩ _ (A3.out.elim (fun h=>.inl (.inr h)) .inr));clear A4 A6;generalize (dX L N (N - k))[k]'(by rw[oR,A2.out];omega)=pu at*;go_wp2_with fail
     exact HF.out
 ·have A7:=C2.out rfl;have hp:(sh c)[k]? =some ((sh c)[k]'A7):=QV A7;obtain⟨a1,F2,_,B5⟩:=S1.kx c hc;obtain⟨g,rfl,x1,x2⟩:=B5.at_ k _ hp;have x0:=B5.cell;have HF:Hid (R (rV (pV ((sh c)[k]'A7).2)) w1.drew):=B2.out _ _ _ hp A1.out.1 A1.out.2.1 A1.out.2.2.1 A1.out.2.2.2;have G0:(k:Int)<((sh c).length:Int):=by omega
  clear S1 B5 hp B2 B3 B0;generalize (sh c)[k]'A7=pp at*;generalize (sh c).length=M at*;go_wp2_with fail
  go_region
  go_wp2_with fail
  go_ret
  exact⟨HF.out,trivial⟩
def qY(a:List b6)(h:yB):List b6:=if jX a h=true then a.eraseIdx (ev a h) else a
theorem Pr(w)(b sb o:Nat)(l)(f:Nat->List b6)(S:cJ 3 w b sb o l f)(h:yB)(m:0<h.size)(hn:(f (h[0]'m).toNat).length<4000000000000):
 Calls yP 131 #[pV (qA b),sV h] w fun e w'=>e=rV (tV #[])/\
  (∃v',cJ 3 w' b sb o (aU l (h[0]'m).toNat v') (aL f (h[0]'m).toNat (qY (f (h[0]'m).toNat) h))/\v'.ownBlock=(l (h[0]'m).toNat).ownBlock)/\aN (fun k=>k=b\/(l (h[0]'m).toNat).ownBlock=some k) w w':=by
 have x:(h[0]'m).toNat<256:=(h[0]'m).toNat_lt;obtain⟨a,cap,v,B⟩:=S.kx _ x;have X:=aa (Bp w b h m a cap _ B (by omega));have Y:Hid (jX (f (h[0]'m).toNat) h=true->ev (f (h[0]'m).toNat) h<(f (h[0]'m).toNat).length):=EC;have HS:=aa S;have D7:(0:Int)<(h.size:Int):=by omega
 have K:Hid (qY (f (h[0]'m).toNat) h=if jX (f (h[0]'m).toNat) h=true then(f (h[0]'m).toNat).eraseIdx (ev (f (h[0]'m).toNat) h) else f (h[0]'m).toNat):=rfl;clear S B v;generalize qY (f (h[0]'m).toNat) h=CE at*;generalize jX (f (h[0]'m).toNat) h=hit at*;generalize ev (f (h[0]'m).toNat) h=i at*;generalize hcc:(h[0]'m).toNat=c at*;have D3:(c:Int)<256:=by omega
 go_enter func131,ntmps131
 go_wp2_with fail
 refine X.out.mono ?_;rintro e w1 ⟨rfl,n1,A6⟩;have s:Hid (w1.heap=w.heap/\w1.os=w.os/\w1.tape=w.tape/\w1.output=w.output):=by rw[A6];exact⟨rfl,rfl,rfl,rfl⟩
 have B4:Hid (aN (fun q=>q=b\/(l c).ownBlock=some q) w w1.drew):=⟨s.out.2.1,s.out.2.2.1,s.out.2.2.2,by show _<=w1.heap.size;rw[s.out.1];exact QU _,fun q _ _=>by show w1.heap[q]? =_;rw[s.out.1]⟩
 have z:=HS.out.same s.out.1;clear A6 X;cases hit
 ·have H:Hid (cJ 3 w1 b sb o (aU l c (l c)) (aL f c CE)/\aN (fun q=>q=b\/(l c).ownBlock=some q) w w1):=by
   have eV:aU l c (l c)=l:=by funext d;by_cases u:d=c<;>simp[aU,u]
   have eS:aL f c CE=f:=by rw[K.out,QW Bool.false_ne_true];funext d;by_cases u:d=c<;>simp[aL,u]
   refine⟨by rw[eV,eS];exact z,⟨s.out.2.1,s.out.2.2.1,s.out.2.2.2,by rw[s.out.1];exact QU _,fun q _ _=>by rw[s.out.1]⟩⟩
  clear z;go_wp2_with fail
  (try simp only[Exit.inBlock,Exit.then])
  refine Rf (results_none rfl _ _ _) rfl ?_;exact⟨rfl,⟨_,H.out.1,rfl⟩,H.out.2⟩
 ·have hi:=Y.out rfl;obtain⟨a1,t,v,B⟩:=z.kx c x;have A4:(f c)[i]? =some ((f c)[i]'hi):=QV hi;obtain⟨g,rfl,C0,C1⟩:=B.at_ i _ A4;obtain⟨L,D⟩:=yX (f c)
  obtain⟨N,E⟩:∃N,L.length=N+1:=⟨L.length - 1,by rw[D];omega⟩
  have y:(l c).ownBlock=some g:=by rw[v];rfl
  have J:(f c).length=N+1:=by rw[<-D];exact E
  rw[J] at v;have A:=aa E;have I:=aa y;have C3:=aa v;have A0:Hid (cJ 3 w1.drew b sb o l (aL f c (dM L i 0))):=by
   show cJ _ _ _ _ _ _ _;have e:aL f c (dM L i 0)=f:=by funext d;by_cases u:d=c<;>simp[aL,u,dM,D]
   rw[e];exact z.same rfl
  have V:Hid (((dM L i (N - i)).set N (⟨#[]⟩,none)).take N=CE):=by
   have:=OX L i N (⟨#[]⟩,none) E (by omega);rw[K.out,QX rfl];rw[D] at this⊢;exact this
  have Z:Hid (∀W k,cJ 3 W b sb o l (aL f c (dM L i k))->W.cell? ⟨b,2+c,none⟩=some (lV (qA g) (N+1) t)/\W.frozen? ⟨b,2+c,none⟩=false/\∀j p,(dM L i k)[j]? =some p->W.cell? ⟨g,j*2,none⟩=some (sV p.1)/\W.cell? ⟨g,j*2+1,none⟩=some (pV p.2)/\W.frozen? ⟨g,j*2,none⟩=false/\W.frozen? ⟨g,j*2+1,none⟩=false):=fun W k h=>by
   have F:=h.own c x;simp only[aL,RJ] at F;refine⟨by rw[Q5 W b (2+c) _ _ _ h.ah,rT _ _ _ _ x,v],Rx W b (2+c) _ _ h.ah,fun j p R=>?_⟩;obtain⟨p1,p2⟩:=uw _ j p R;exact⟨dK F y _ _ p1,dK F y _ _ p2,ju F y _,ju F y _⟩
  have B1:Hid (∀W k p,L[i+k+1]? =some p->cJ 3 W b sb o l (aL f c (dM L i k))->cJ 3 ((W.setCell ⟨g,(i+k)*2,none⟩ (sV p.1)).setCell ⟨g,(i+k)*2+1,none⟩ (pV p.2)) b sb o l (aL f c (dM L i (k+1)))):=fun W k p R h=>by
   have:=h.put c x g y (i+k) p;have e:aL (aL f c (dM L i k)) c ((aL f c (dM L i k) c).set (i+k) p)=aL f c (dM L i (k+1)):=by
    funext d
    by_cases u:d=c
    ·simp only[aL,u,RJ];show(dM L i k).set (i+k) p=(dM L i k).set (i+k) (L.getD (i+k+1) _);rw[Q3,R];rfl
    ·simp only[aL,u,Ry]
   rw[e] at this;exact this
  have A8:Hid (∀W,cJ 3 W b sb o l (aL f c (dM L i (N - i)))->cJ 3 (((W.setCell ⟨g,N*2,none⟩ (sV ⟨#[]⟩)).setCell ⟨g,N*2+1,none⟩ (pV none)).drew.setCell ⟨b,2+c,none⟩ (lV (qA g) N t)) b sb o (aU l c (lV (qA g) N t)) (aL f c CE)):=fun W h=>by
   have h1:=h.put c x g y N (⟨#[]⟩,none);have A3:(aL (aL f c (dM L i (N - i))) c ((aL f c (dM L i (N - i)) c).set N (⟨#[]⟩,none)) c).length=N+1:=by
    simp only[aL,RJ];rw[R3,pC];exact E
   have h2:=(h1.same (w':=((W.setCell ⟨g,N*2,none⟩ (sV ⟨#[]⟩)).setCell ⟨g,N*2+1,none⟩ (pV none)).drew) rfl).cut c x g t N (by rw[A3];exact v) (by rw[A3];omega);have e:aL (aL (aL f c (dM L i (N - i))) c ((aL f c (dM L i (N - i)) c).set N (⟨#[]⟩,none))) c ((aL (aL f c (dM L i (N - i))) c ((aL f c (dM L i (N - i)) c).set N (⟨#[]⟩,none)) c).take N)=aL f c CE:=by
    funext d
    by_cases u:d=c
    ·simp only[aL,u,RJ];exact V.out
    ·simp only[aL,u,Ry]
   rw[e] at h2;exact h2
  have B9:=z.ff c g x y;have C2:=aa B9;have D4:N+1<=t:=by
   obtain⟨a',C4,e1,e2,_⟩:=dr (z.own c x);rw[v,J] at e1;cases e1
   rw[J] at e2;exact e2
  have D5:i<=N:=by omega
  have D1:N<4000000000000:=by omega
  obtain⟨d0,_,_⟩:=Z.out w1.drew 0 A0.out;have B6:=d0;have A7:Hid (∀W,cJ 3 W b sb o (aU l c (lV (qA g) N t)) (aL f c CE)->∃v',cJ 3 W b sb o (aU l c v') (aL f c CE)/\v'.ownBlock=(l c).ownBlock):=fun W h=>⟨_,h,by rw[v];rfl⟩
  clear C0 C1 d0;clear z B A4 D E y v J hi hn V HS s K Y;go_wp2_with fail
  go_region
  go_wp2_with fail
  clear B6;go_loopg [8] (N - i) (fun q r wr=>∃k:Nat,q=N - i - k/\k<=N - i/\r=iV .i64 ((i:Int)+(k:Int))/\Hid (cJ 3 wr b sb o l (aL f c (dM L i k)))/\Hid (aN (fun q=>q=b\/(l c).ownBlock=some q) w wr))
  case atStart=>exact⟨0,rfl,by omega,by go_num,A0,B4⟩
  case round=>
   obtain⟨k,hg,hk,rfl,O,A1⟩:=hrel;have HG:=aa hg;clear hg;obtain⟨e0,C5,C⟩:=Z.out wr k O.out;by_cases D6:k<N - i
   ·obtain⟨M,P⟩:=yX (i+k)
    obtain⟨Q,hQ⟩:=yX (i+k+1)
    have B8:(i:Int)+(k:Int)=(M:Int):=by omega
    have C9:(M:Int)+1=(Q:Int):=by omega
    have T:L[i+k+1]? =some (L[i+k+1]'(by rw[A.out];omega)):=QV _;have A5:(dM L i k)[i+k+1]? =L[i+k+1]? :=zD L i k _ (.inr (by omega));have G:(dM L i k)[i+k]? =some ((dM L i k)[i+k]'(by rw[pC,A.out];omega)):=QV _;obtain⟨s1,s2,_,_⟩:=C _ _ (A5.trans T);obtain⟨t1,t2,t3,t4⟩:=C _ _ G;have U:=B1.out wr k _ T O.out;generalize L[i+k+1]'(by rw[A.out];omega)=p at*;generalize (dM L i k)[i+k]'(by rw[pC,A.out];omega)=pu at*;rw[<-P] at t1 t2 t3 t4 U;rw[<-hQ] at s1 s2;rw[B8];have B0:=aa U;have C7:(M:Int)<(N:Int):=by omega
    have C8:(M:Int)<(N:Int)+1:=by omega
    have D2:(Q:Int)<(N:Int)+1:=by omega
    have D8:IntKind.i64.wrap (Q:Int)=(Q:Int):=by rw[RE];omega
    have D9:IntKind.i64.wrap (M:Int)=(M:Int):=by rw[RE];omega
    have A9:=aa P;have B5:Hid (aN (fun q=>q=b\/(l c).ownBlock=some q) w ((wr.setCell ⟨g,M*2,none⟩ (sV p.1)).setCell ⟨g,M*2+1,none⟩ (pV p.2))):=
     aN.set (w':=wr.setCell ⟨g,M*2,none⟩ (sV p.1)) (aN.set (w':=wr) A1.out ⟨g,M*2,none⟩ _ (.inl (.inr I.out))) ⟨g,M*2+1,none⟩ _ (.inl (.inr I.out))
    have B2:Hid (Q=i+(k+1)):=by show _=_;omega
    clear T A5 G U C hQ P;go_wp2_with fail
    go_roundg (N - i - (k+1))
    case measure=>have:=HG.out;omega
    case rel=>exact⟨k+1,rfl,by omega,by have:=A9.out;have:=B2.out;go_num,B0,B5⟩
   ·obtain rfl:k=N - i:=by omega
    have B7:(i:Int)+((N - i:Nat):Int)=(N:Int):=by omega
    rw[B7];have C6:¬(N:Int)<(N:Int):=by omega
    have G:(dM L i (N - i))[N]? =some ((dM L i (N - i))[N]'(by rw[pC,A.out];omega)):=QV _;obtain⟨t1,t2,t3,t4⟩:=C _ _ G;have A2:=A8.out wr O.out;have H:=aa A2;have D0:(N:Int)<(N:Int)+1:=by omega
    have B3:Hid (aN (fun q=>q=b\/(l c).ownBlock=some q) w (((wr.setCell ⟨g,N*2,none⟩ (sV ⟨#[]⟩)).setCell ⟨g,N*2+1,none⟩ (pV none)).drew.setCell ⟨b,2+c,none⟩ (lV (qA g) N t))):=by
     have h2:=aN.set (w':=wr.setCell ⟨g,N*2,none⟩ (sV ⟨#[]⟩)) (aN.set (w':=wr) A1.out ⟨g,N*2,none⟩ (sV ⟨#[]⟩) (.inl (.inr I.out))) ⟨g,N*2+1,none⟩ (pV none) (.inl (.inr I.out));exact aN.set (w':=((wr.setCell ⟨g,N*2,none⟩ (sV ⟨#[]⟩)).setCell ⟨g,N*2+1,none⟩ (pV none)).drew) ⟨h2.os,h2.tape,h2.output,h2.size,h2.block⟩ ⟨b,2+c,none⟩ _ (.inl (.inl rfl))
    clear A2 G C;generalize (dM L i (N - i))[N]'(by rw[pC,A.out];omega)=pu at*;go_wp2_with fail
    go_region
    all_goals
     go_end0
     exact⟨rfl,A7.out _ H.out,B3.out⟩
def eY(t:yB):Bool:=if h:0<t.size then decide (t.size<=32) && decide ((t[0]'h).toNat≠0) else true
theorem sy(t:yB)(g:t.size<=maxLen)(w):Calls yP 105 #[sV t] w fun e w'=>e=rV (bV (eY t))/\w'=w:=by
 unfold maxLen at g;by_cases h0:0<t.size
 ·have f:t.toList.isEmpty=false:=by rw[gT];omega
  have c:eY t=(decide (t.size<=32) && decide ((t[0]'h0).toNat≠0)):=by unfold eY;rw[dif_pos h0]
  have a:=aa c;have i:(0:Int)<(t.size:Int):=by omega
  clear c;generalize eY t=R at*;by_cases h32:t.size<=32
  ·have d:(t.size:Int)<=32:=by omega
   by_cases b:(t[0]'h0).toNat=0
   ·have h:(((t[0]'h0).toNat:Int) != 0)=false:=by rw[b];rfl
    go_enter func105,ntmps105
    go_wp2_with fail
    go_ret
    exact⟨by rw[a.out,Ra h32,Q9 (by simp[b])];rfl,rfl⟩
   ·have h:(((t[0]'h0).toNat:Int) != 0)=true:=by simp;omega
    go_enter func105,ntmps105
    go_wp2_with fail
    go_ret
    exact⟨by rw[a.out,Ra h32,Ra b];rfl,rfl⟩
  ·have d:¬(t.size:Int)<=32:=by omega
   go_enter func105,ntmps105
   go_wp2_with fail
   go_ret
   exact⟨by rw[a.out,Q9 h32];rfl,rfl⟩
 ·have f:t.toList.isEmpty=true:=by rw[gH];omega
  have a:Hid (eY t=true):=by show _=_;unfold eY;rw[dif_neg h0]
  generalize eY t=R at*;go_enter func105,ntmps105
  go_wp2_with fail
  go_ret
  exact⟨by rw[a.out];rfl,rfl⟩
structure jL where
 n:Nat
 aj:yB
 root:yB
 code:yB
def cy(a:jL):Value:=gV #[iV .i64 a.n,sV a.aj,sV a.root,sV a.code]
def jw:jL:=⟨0,⟨#[]⟩,str cw,fO⟩
def pS:jL:=⟨0,⟨#[]⟩,⟨#[]⟩,⟨#[]⟩⟩
def fH(W:World)(n:Nat)(t:TypeId)(x0 x1 x2 x3:Value):Prop:=W.heap[n]? =some (.cells #[x0,x1,x2,x3] t (0,0))
theorem fH.new(w:World)(t x0 x1 x2 x3):fH (w.alloc (.cells #[x0,x1,x2,x3] t)) w.heap.size t x0 x1 x2 x3:=Rl w _
theorem fH.below{w W n m t x0 x1 x2 x3}(h:fH w n t x0 x1 x2 x3)(a:Below m w W)(b:n<m):fH W n t x0 x1 x2 x3:=(a.block n b).trans h
theorem fH.cells{W n t x0 x1 x2 x3}(h:fH W n t x0 x1 x2 x3):(W.cell? ⟨n,0,none⟩=some x0/\W.cell? ⟨n,1,none⟩=some x1/\W.cell? ⟨n,2,none⟩=some x2/\W.cell? ⟨n,3,none⟩=some x3)/\W.frozen? ⟨n,0,none⟩=false/\W.frozen? ⟨n,1,none⟩=false/\W.frozen? ⟨n,2,none⟩=false/\W.frozen? ⟨n,3,none⟩=false:=by
 refine⟨⟨?_,?_,?_,?_⟩,Rx W n 0 _ _ h,Rx W n 1 _ _ h,Rx W n 2 _ _ h,Rx W n 3 _ _ h⟩
 ·rw[Q5 W n 0 _ _ _ h];rfl
 ·rw[Q5 W n 1 _ _ _ h];rfl
 ·rw[Q5 W n 2 _ _ _ h];rfl
 ·rw[Q5 W n 3 _ _ _ h];rfl
theorem fH.lt{W n t x0 x1 x2 x3}(h:fH W n t x0 x1 x2 x3):n<W.heap.size:=(Q0.1 h).1
theorem jC{b n w w1}(h:Below b w w1)(a:b<=n)(x0 x1 x2 x3):Below b w ((((w1.setCell ⟨n,0,none⟩ x0).setCell ⟨n,1,none⟩ x1).setCell ⟨n,2,none⟩ x2).setCell ⟨n,3,none⟩ x3):=
 (((h.setCell a _).setCell a _).setCell a _).setCell a _
theorem uv(w)(T:az w):Calls yP 124 #[] w fun e w'=>e=rV (cy jw)/\yW w w':=by
 have i:Hid (∀W,yW w W->Calls yP 74 #[] W fun e w'=>e=rV (sV (str cw))/\yW W w'):=fun W b=>zA W (T.below b)
 have k:Hid (∀W,yW w W->Calls yP 24 #[sV ⟨#[]⟩] W fun e w'=>e=rV (sV fO)/\yW W w'):=fun W b=>iE ⟨#[]⟩ (by decide) W (T.below b)
 have j:Hid (cy jw=gV #[iV .i64 0,sV ⟨#[]⟩,sV (str cw),sV fO]):=rfl;clear T;generalize cy jw=R at*;generalize str cw=ER at*;generalize fO=NC at*;have f:Hid (yW w (w.alloc (.cells #[iV .i64 0,sV ⟨#[]⟩,sV ⟨#[]⟩,sV ⟨#[]⟩] 103))):=(Q1 _ _).alloc (QU _) _;have l:Hid (fH (w.alloc (.cells #[iV .i64 0,sV ⟨#[]⟩,sV ⟨#[]⟩,sV ⟨#[]⟩] 103)) w.heap.size 103 (iV .i64 0) (sV ⟨#[]⟩) (sV ⟨#[]⟩) (sV ⟨#[]⟩)):=fH.new _ _ _ _ _ _;go_enter func124,ntmps124
 go_wp2_with fail
 refine(i.out _ f.out).mono ?_;rintro e w1 ⟨rfl,c⟩;have g:=aa (l.out.below c (by simp));have a:=aa (f.out.trans (c.mono (by simp)));clear c;go_wp2_with fail
 refine(k.out _ a.out).mono ?_;rintro e w2 ⟨rfl,d⟩;have h:=aa (a.out.trans (d.mono a.out.size));obtain⟨⟨k0,k1,k2,k3⟩,f0,f1,f2,f3⟩:=(g.out.below d g.out.lt).cells;clear d;go_wp2_with fail
 exact Rf (v:=gV #[iV .i64 0,sV ⟨#[]⟩,sV ER,sV NC]) (by simp[results,results124,go_sem,k0,k1,k2,k3]) rfl ⟨by rw[j.out],jC h.out (QU _) _ _ _ _⟩
theorem Mh(w a)(n cap:Nat)(c:n<=maxLen):Calls yP 99 #[lV a n cap] w fun e w'=>e=rV (tV #[sV ⟨#[]⟩,iV .i64 (if 0<n then 12 else 0)])/\w'=w:=by
 unfold maxLen at c;by_cases h:0<n
 ·rw[QX h];have b:(0:Int)<(n:Int):=by omega
  go_enter func99,ntmps99
  go_wp2_with fail
  go_ret2
  exact⟨rfl,rfl⟩
 ·rw[QW h];have b:¬(0:Int)<(n:Int):=by omega
  go_enter func99,ntmps99
  go_wp2_with fail
  go_ret2
  exact⟨rfl,rfl⟩
def mu(v:yB):yB:=fy (ay v.data.toList)
theorem Jt(w)(v:yB)(d:v.size<140737488355329):Calls yP 108 #[sV v] w fun e w'=>e=rV (sV (mu v))/\yW w w':=by
 have a:Hid (Calls yP 129 #[gV #[bV false,sV v,lV none 0 0]] w fun e w'=>e=rV (tV #[sV (mu v),iV .i64 (eg (ay v.data.toList))])/\yW w w'):=tf w (fun _=>False) _ _ _ _ (mi 6 w _ v _ d);generalize mu v=R at*;generalize eg (ay v.data.toList)=E at*;go_enter func108,ntmps108
 go_wp2_with fail
 refine a.out.mono ?_;rintro e w1 ⟨rfl,b⟩;have c:=aa b;clear b a;go_wp2_with fail
 go_ret
 exact⟨rfl,c.out⟩
theorem Gb(w)(v:yB)(d:v.size<140737488355329):Calls yP 101 #[sV v] w fun e w'=>e=rV (sV (mu v))/\yW w w':=by
 have a:Hid (Calls yP 129 #[gV #[bV false,sV v,lV none 0 0]] w fun e w'=>e=rV (tV #[sV (mu v),iV .i64 (eg (ay v.data.toList))])/\yW w w'):=tf w (fun _=>False) _ _ _ _ (mi 6 w _ v _ d);generalize mu v=R at*;generalize eg (ay v.data.toList)=E at*;go_enter func101,ntmps101
 go_wp2_with fail
 refine a.out.mono ?_;rintro e w1 ⟨rfl,b⟩;have c:=aa b;clear b a;go_wp2_with fail
 go_ret
 exact⟨rfl,c.out⟩
theorem Bt(w:World)(s:yB)(hs:s.size<=maxLen):Calls yP 97 #[sV s] w fun e w'=>(∃(v:yB) (c:Nat),e=rV (tV #[sV v,iV .i64 c])/\v.size<=maxLen/\(c=0->eY v=true))/\yW w w':=by
 by_cases h0:s.size=0
 ·have hE:s.toList.isEmpty=true:=by rw[gH];exact h0
  go_enter func97,ntmps97
  go_wp2_with fail
  go_ret2
  exact⟨⟨⟨#[]⟩,0,rfl,by decide,fun _=>rfl⟩,Below.refl _ _⟩
 ·have hE:s.toList.isEmpty=false:=by rw[gT];exact h0
  have HD:Hid (Calls yP 100 #[sV s] w fun e w'=>Aq w (fL s.data.toList) e w'/\yW w w'):=vT w s hs
  have HN:Hid (∀t W,t.size<=maxLen->Calls yP 105 #[sV t] W fun e w'=>e=rV (bV (eY t))/\w'=W):=fun t W ht=>sy t ht W
  clear h0
  go_enter func97,ntmps97
  go_wp2_with fail
  refine HD.out.mono ?_
  rintro e w1 ⟨hd,hb⟩
  have HB:Hid (yW w w1):=hb
  have A0:Hid (∀o,yW w (w1.alloc o)):=fun o=>hb.alloc hb.size o
  clear hb HD
  cases hr:fL s.data.toList with
  |error c=>
   rw[hr] at hd
   obtain⟨rfl,hc⟩:=hd
   have B0:((c:Int) != 0)=true:=by simp;omega
   clear hc hr
   go_wp2_with fail
   go_ret2
   exact⟨⟨⟨#[]⟩,13,rfl,by decide,fun h=>by cases h⟩,A0.out _⟩
  |ok x=>
   rw[hr] at hd
   obtain⟨l,t,a,m,cp,rfl,hi⟩:=hd
   clear hr
   rcases kG hi with⟨t',h1,h2,_,ht⟩|⟨e',t',ks,xs,_,h1,h2,_⟩
   ·cases h1
    cases h2
    have A6:=HN.out t
    by_cases A2:t.size=0
    ·have A9:t.toList.isEmpty=true:=by rw[gH];exact A2
     clear hi A2
     go_wp2_with fail
     go_ret2
     exact⟨⟨⟨#[]⟩,13,rfl,by decide,fun h=>by cases h⟩,A0.out _⟩
    ·have A9:t.toList.isEmpty=false:=by rw[gT];exact A2
     have A3:t.size<=maxLen:=by unfold maxLen;omega
     have A1:Hid (∀W,Calls yP 105 #[sV t] W fun e w'=>e=rV (bV (eY t))/\w'=W):=fun W=>A6 W A3
     have A8:Hid (t.size<=maxLen):=A3
     have A5:Hid (eY t=eY t):=rfl
     clear hi A2 ht A6 A3
     cases hnb:eY t with
     |false=>
      rw[hnb] at A1
      clear A5 hnb
      go_wp2_with fail
      refine(A1.out _).mono ?_
      rintro e wx ⟨rfl,A4⟩
      subst A4
      go_wp2_with fail
      go_ret2
      exact⟨⟨⟨#[]⟩,13,rfl,by decide,fun h=>by cases h⟩,A0.out _⟩
     |true=>
      rw[hnb] at A1
      have A7:Hid (eY t=true):=hnb
      clear A5 hnb
      go_wp2_with fail
      refine(A1.out _).mono ?_
      rintro e wx ⟨rfl,A4⟩
      subst A4
      go_wp2_with fail
      go_ret2
      exact⟨⟨t,0,rfl,A8.out,fun _=>A7.out⟩,A0.out _⟩
   ·cases h1
    clear hi
    go_wp2_with fail
    go_ret2
    exact⟨⟨⟨#[]⟩,13,rfl,by decide,fun h=>by cases h⟩,A0.out _⟩
def ct(l:yL):Nat:=l.foldl (fun n b=>n*256+b.toNat) 0
theorem uT:∀(l:yL) (a:Nat),l.foldl (fun n b=>n*256+b.toNat) a=a*256 ^ l.length+ct l
 | [],a=>by simp[ct]
 |b::r,a=>by
  unfold ct
  simp only[List.foldl_cons,Ro]
  rw[uT r,uT r (0*256+b.toNat),Nat.pow_succ,Nat.add_mul,Nat.add_mul]
  simp only[Nat.zero_mul,R5]
  rw[Nat.mul_assoc,Nat.mul_comm 256]
  omega
theorem Db(b:UInt8)(r):ct (b::r)=b.toNat*256 ^ r.length+ct r:=by
 have:=uT r b.toNat;unfold ct at*;simp only[List.foldl_cons,Nat.zero_mul,R5];exact this
theorem yc:∀(l),ct l<256 ^ l.length
 | []=>by decide
 |b::r=>by
  rw[Db,Ro,Nat.pow_succ]
  have h1:=yc r
  have h2:=b.toNat_lt
  have h3:b.toNat*256 ^ r.length<=255*256 ^ r.length:=Nat.mul_le_mul_right _ (by omega)
  omega
theorem Da(l)(b:UInt8):ct (l++[b])=ct l*256+b.toNat:=by unfold ct;simp
theorem CZ(l:yL):∀k,ct (l.take k)<=ct l:=by
 intro k;have e:ct l=ct (l.take k)*256 ^ (l.drop k).length+ct (l.drop k):=by
  conv=>lhs;rw[<-Su k l]
  unfold ct;rw[List.foldl_append,uT];rfl
 have:0<256 ^ (l.drop k).length:=Nat.pow_pos (by decide);have h2:=Nat.mul_le_mul_left (ct (l.take k)) this;omega
def ew(t:yB):Bool:=eY t && decide (t.size<=8) && !(decide (t.size=8) && decide (128<=(t.data.toList.headD 0).toNat))
theorem Ev{t}(h:ew t=true):ct t.data.toList<9223372036854775808:=by
 unfold ew at h;simp only[Sh,Bool.not_eq_true',SD] at h;obtain⟨⟨_,h8⟩,h9⟩:=h;have a:t.data.toList.length=t.size:=by simp
 have h1:=yc t.data.toList;by_cases h:t.size=8
 ·rw[Ra h,Bool.true_and] at h9;have c:=of_decide_eq_false h9;cases hc:t.data.toList with
  |nil=>rw[hc] at a;simp at a;omega
  |cons b r=>
   rw[hc] at c a;simp only[List.headD_cons] at c;simp only[Ro] at a;rw[Db];have h2:=yc r;rw[show r.length=7 by omega] at h2⊢;have h3:b.toNat*256 ^ 7<=127*256 ^ 7:=Nat.mul_le_mul_right _ (by omega);omega
 ·have:(256:Nat) ^ t.data.toList.length<=256 ^ 7:=Nat.pow_le_pow_right (by decide) (by omega);omega
theorem tQ{n:Nat}(h:n<9223372036854775808):IntKind.i64.wrap (n:Int)=(n:Int):=by rw[IntKind.wrap_i64];omega
theorem Ay{n:Nat}(h:n<256):wrap64 (n:Int)=(n:Int):=by unfold wrap64;omega
theorem EH {t : ByteArray} (hs : 0 < t.size) : (t.data.toList.headD 0).toNat = (t[0]'hs).toNat := by
  have : t.data.toList.headD 0 = t[0]'hs := by
    show _ = t.data[0]
    cases hc : t.data.toList with
    | nil => have : t.data.toList.length = t.size := by simp
             rw [hc] at this; simp at this; omega
    | cons b r => simp [← Array.getElem_toList, hc]
  rw [this]
theorem LW(t:ByteArray)(ht:t.size<=maxLen)(w:World):Calls Tryz.prog 126 #[.string t] w fun e w'=>e=.returned (.tuple #[.int .i64 (if ew t=true then ct t.data.toList else 0:Nat),.bool (ew t)])/\w'=w:=by
 have HN:Hid (∀W,Calls Tryz.prog 105 #[.string t] W fun e w'=>e=.returned (.bool (eY t))/\w'=W):=fun W=>sy t ht W
 have HI:Hid (ew t=(eY t && decide (t.size<=8) && !(decide (t.size=8) && decide (128<=(t.data.toList.headD 0).toNat)))):=rfl
 have A1:Hid (ew t=true->ct t.data.toList<9223372036854775808):=Ev
 unfold maxLen at ht
 cases hn:eY t with
 |false=>
  rw[hn] at HN HI
  have HF:Hid (ew t=false):=by rw[HI.out];rfl
  have HR:Hid ((if ew t=true then ct t.data.toList else 0)=0):=by show _=_;rw[HF.out];rfl
  generalize (if ew t=true then ct t.data.toList else 0)=R at*
  generalize ew t=B at*
  clear hn HI A1
  go_enter Tryz.func126,Tryz.ntmps126
  go_wp2_with fail
  refine(HN.out _).mono ?_
  rintro e wx ⟨rfl,A0⟩
  subst A0
  go_wp2_with fail
  go_ret2
  exact⟨by rw[HR.out,HF.out];rfl,rfl⟩
 |true=>
  rw[hn] at HN HI
  by_cases h8:t.size<=8
  ·have B3:¬(8:Int)<(t.size:Int):=by omega
   rw[decide_eq_true h8] at HI
   by_cases h7:t.size=8/\128<=(t.data.toList.headD 0).toNat
   ·obtain⟨he,hh⟩:=h7
    have hs:0<t.size:=by omega
    have A6:(t.data.toList.headD 0).toNat=(t[0]'hs).toNat:=by
     exact EH hs
    have hI:(128:Int)<=((t[0]'hs).toNat:Int):=by omega
    have HF:Hid (ew t=false):=by rw[HI.out,decide_eq_true he,decide_eq_true hh];rfl
    have HR:Hid ((if ew t=true then ct t.data.toList else 0)=0):=by show _=_;rw[HF.out];rfl
    generalize (if ew t=true then ct t.data.toList else 0)=R at*
    generalize ew t=B at*
    have B2:(0:Int)<(t.size:Int):=by omega
    have B0:(t.size:Int)=8:=by omega
    clear hn HI A1 hh A6
    go_enter Tryz.func126,Tryz.ntmps126
    go_wp2_with fail
    refine(HN.out _).mono ?_
    rintro e wx ⟨rfl,A0⟩
    subst A0
    go_wp2_with fail
    go_ret2
    exact⟨by rw[HR.out,HF.out];rfl,rfl⟩
   ·have hF:ew t=true:=by
     rw[HI.out]
     cases hd:decide (t.size=8) with
     |false=>rfl
     |true=>
      have:¬128<=(t.data.toList.headD 0).toNat:=fun hh=>h7 ⟨of_decide_eq_true hd,hh⟩
      rw[decide_eq_false this];rfl
    by_cases he:t.size=8
    ·have hs:0<t.size:=by omega
     have A6:(t.data.toList.headD 0).toNat=(t[0]'hs).toNat:=EH hs
     have hI:¬(128:Int)<=((t[0]'hs).toNat:Int):=fun hh=>h7 ⟨he,by omega⟩
     have B2:(0:Int)<(t.size:Int):=by omega
     have B0:(t.size:Int)=8:=by omega
     clear h7 A6
     have HF:Hid (ew t=true):=hF
     have B4:=A1.out hF
     have HR:Hid ((if ew t=true then ct t.data.toList else 0)=ct t.data.toList):=by show _=_;rw[hF];rfl
     have A5:Hid (ct (t.data.toList.take t.size)=ct t.data.toList):=by
      show _=_
      have:t.data.toList.take t.size=t.data.toList:=List.take_of_length_le (by simp)
      rw[this]
     have A4:Hid (∀k (h:k<t.size),ct (t.data.toList.take (k+1))=ct (t.data.toList.take k)*256+(t[k]'h).toNat):=fun k h=>by
      have e:t.data.toList.take (k+1)=t.data.toList.take k++[t[k]'h]:=by
       rw[List.take_succ_eq_append_getElem (by simpa using h)];rfl
      rw[e,Da]
     have A3:Hid (∀k,ct (t.data.toList.take k)<=ct t.data.toList):=CZ _
     have B1:Hid (ct (t.data.toList.take 0)=0):=rfl
     generalize hR:(if ew t=true then ct t.data.toList else 0)=R at*
     generalize hB:ew t=B at*
     generalize hNN:ct t.data.toList=NN at*
     clear hF HI A1 hn hR hB hNN
     go_enter Tryz.func126,Tryz.ntmps126
     go_wp2_with fail
     refine(HN.out _).mono ?_
     rintro e wx ⟨rfl,A0⟩
     subst A0
     go_wp2_with fail
     go_loopg [4,5] t.size (fun g z r wr=>wr=wx/\∃k:Nat,g=t.size - k/\k<=t.size/\r=.int .i64 k/\z=.int .i64 (ct (t.data.toList.take k)))
     case atStart=>exact⟨rfl,0,rfl,by omega,rfl,rfl⟩
     case round=>
      obtain⟨hw,k,hg,hk,rfl,rfl⟩:=hrel
      subst hw
      have HG:Hid (gk=t.size - k):=hg
      clear hg
      by_cases A8:k<t.size
      ·have hS:=A4.out k A8
       have A9:=A3.out (k+1)
       have A7:(k:Int)<(t.size:Int):=by omega
       have A2:(t[k]).toNat<256:=(t[k]).toNat_lt
       rw[hS] at A9
       have HS:Hid (ct (t.data.toList.take (k+1))=ct (t.data.toList.take k)*256+(t[k]).toNat):=hS
       generalize ct (t.data.toList.take k)=m at*
       obtain⟨M,hM⟩:∃M:Nat,M=m*256+(t[k]).toNat:=⟨_,rfl⟩
       have HM:Hid (M=m*256+(t[k]).toNat):=hM
       have w1:IntKind.i64.wrap ((m:Int)*256)=(m:Int)*256:=by rw[IntKind.wrap_i64];omega
       have w2:(m:Int)*256+((t[k]).toNat:Int)=(M:Int):=by omega
       have w3:IntKind.i64.wrap (M:Int)=(M:Int):=tQ (by omega)
       have w4:wrap64 ((t[k]).toNat:Int)=((t[k]).toNat:Int):=Ay A2
       have w5:IntKind.i64.wrap ((t[k]).toNat:Int)=((t[k]).toNat:Int):=tQ (Nat.lt_trans A2 (by decide))
       clear hS hM
       go_wp2_with fail
       go_roundg (t.size - (k+1))
       case measure=>have:=HG.out;omega
       case rel=>exact⟨rfl,k+1,rfl,by omega,by go_num,by rw[HS.out,<-HM.out]⟩
      ·obtain rfl:k=t.size:=by omega
       have A7:¬(t.size:Int)<(t.size:Int):=by omega
       rw[A5.out]
       go_wp2_with fail
       go_ret2
       exact⟨by rw[HR.out,HF.out];rfl,rfl⟩
    ·have B0:¬(t.size:Int)=8:=by omega
     clear h7
     have HF:Hid (ew t=true):=hF
     have B4:=A1.out hF
     have HR:Hid ((if ew t=true then ct t.data.toList else 0)=ct t.data.toList):=by show _=_;rw[hF];rfl
     have A5:Hid (ct (t.data.toList.take t.size)=ct t.data.toList):=by
      show _=_
      have:t.data.toList.take t.size=t.data.toList:=List.take_of_length_le (by simp)
      rw[this]
     have A4:Hid (∀k (h:k<t.size),ct (t.data.toList.take (k+1))=ct (t.data.toList.take k)*256+(t[k]'h).toNat):=fun k h=>by
      have e:t.data.toList.take (k+1)=t.data.toList.take k++[t[k]'h]:=by
       rw[List.take_succ_eq_append_getElem (by simpa using h)];rfl
      rw[e,Da]
     have A3:Hid (∀k,ct (t.data.toList.take k)<=ct t.data.toList):=CZ _
     have B1:Hid (ct (t.data.toList.take 0)=0):=rfl
     generalize hR:(if ew t=true then ct t.data.toList else 0)=R at*
     generalize hB:ew t=B at*
     generalize hNN:ct t.data.toList=NN at*
     clear hF HI A1 hn hR hB hNN
     go_enter Tryz.func126,Tryz.ntmps126
     go_wp2_with fail
     refine(HN.out _).mono ?_
     rintro e wx ⟨rfl,A0⟩
     subst A0
     go_wp2_with fail
     go_loopg [4,5] t.size (fun g z r wr=>wr=wx/\∃k:Nat,g=t.size - k/\k<=t.size/\r=.int .i64 k/\z=.int .i64 (ct (t.data.toList.take k)))
     case atStart=>exact⟨rfl,0,rfl,by omega,rfl,rfl⟩
     case round=>
      obtain⟨hw,k,hg,hk,rfl,rfl⟩:=hrel
      subst hw
      have HG:Hid (gk=t.size - k):=hg
      clear hg
      by_cases A8:k<t.size
      ·have hS:=A4.out k A8
       have A9:=A3.out (k+1)
       have A7:(k:Int)<(t.size:Int):=by omega
       have A2:(t[k]).toNat<256:=(t[k]).toNat_lt
       rw[hS] at A9
       have HS:Hid (ct (t.data.toList.take (k+1))=ct (t.data.toList.take k)*256+(t[k]).toNat):=hS
       generalize ct (t.data.toList.take k)=m at*
       obtain⟨M,hM⟩:∃M:Nat,M=m*256+(t[k]).toNat:=⟨_,rfl⟩
       have HM:Hid (M=m*256+(t[k]).toNat):=hM
       have w1:IntKind.i64.wrap ((m:Int)*256)=(m:Int)*256:=by rw[IntKind.wrap_i64];omega
       have w2:(m:Int)*256+((t[k]).toNat:Int)=(M:Int):=by omega
       have w3:IntKind.i64.wrap (M:Int)=(M:Int):=tQ (by omega)
       have w4:wrap64 ((t[k]).toNat:Int)=((t[k]).toNat:Int):=Ay A2
       have w5:IntKind.i64.wrap ((t[k]).toNat:Int)=((t[k]).toNat:Int):=tQ (Nat.lt_trans A2 (by decide))
       clear hS hM
       go_wp2_with fail
       go_roundg (t.size - (k+1))
       case measure=>have:=HG.out;omega
       case rel=>exact⟨rfl,k+1,rfl,by omega,by go_num,by rw[HS.out,<-HM.out]⟩
      ·obtain rfl:k=t.size:=by omega
       have A7:¬(t.size:Int)<(t.size:Int):=by omega
       rw[A5.out]
       go_wp2_with fail
       go_ret2
       exact⟨by rw[HR.out,HF.out];rfl,rfl⟩
  ·have B3:(8:Int)<(t.size:Int):=by omega
   have HF:Hid (ew t=false):=by rw[HI.out,decide_eq_false h8];rfl
   have HR:Hid ((if ew t=true then ct t.data.toList else 0)=0):=by show _=_;rw[HF.out];rfl
   generalize (if ew t=true then ct t.data.toList else 0)=R at*
   generalize ew t=B at*
   clear hn HI A1
   go_enter Tryz.func126,Tryz.ntmps126
   go_wp2_with fail
   refine(HN.out _).mono ?_
   rintro e wx ⟨rfl,A0⟩
   subst A0
   go_wp2_with fail
   go_ret2
   exact⟨by rw[HR.out,HF.out];rfl,rfl⟩
def qm(n e:Int)(b a r f c d:yB):Bool:=(n == e) && ((b.toList == a.toList) && ((r.toList == f.toList) && (c.toList == d.toList)))
theorem BO(w)(n e:Int)(b a r f c d):(binOp .neq 103 (gV #[iV .i64 n,sV b,sV r,sV c]) (gV #[iV .i64 e,sV a,sV f,sV d])).run yP w=.ok (bV (!qm n e b a r f c d)) w:=by
 unfold qm;cases h1:(n == e)<;>cases h2:(b.toList == a.toList)<;>cases h3:(r.toList == f.toList)<;>cases h4:(c.toList == d.toList)<;>
 go_simp
theorem Oy(w)(a:jL)(p:a.aj.size<=maxLen)(v:a.root.size<=maxLen)(u:a.code.size<=maxLen)(T:az w):
 Calls yP 127 #[cy a] w fun e w'=>(∃b:Bool,e=rV (bV b)/\(b=true->a.root.size=32/\a.code.size=32/\eY a.aj=true))/\Below w.heap.size w w':=by
 obtain⟨n,f,i,g⟩:=a;simp only at p v u;have o:Hid (∀W,Calls yP 105 #[sV f] W fun e w'=>e=rV (bV (eY f))/\w'=W):=fun W=>sy f p W
 have x:Hid (∀W,Below w.heap.size w W->Calls yP 124 #[] W fun e w'=>e=rV (gV #[iV .i64 0,sV ⟨#[]⟩,sV (str cw),sV fO])/\Below W.heap.size W w'):=fun W z=>uv W (T.below z)
 unfold maxLen at p v u;have h3:=T.size;clear T;generalize str cw=ER at*;generalize fO=NC at*;unfold cy;obtain⟨c,d⟩:=yX (w.alloc (.cells #[iV .i64 n,sV f,sV i,sV g] 103))
 have r:Hid (fH c w.heap.size 103 (iV .i64 n) (sV f) (sV i) (sV g)):=by rw[d];exact fH.new _ _ _ _ _ _
 have j:Hid (Below w.heap.size w c):=by rw[d];exact(Q1 _ _).alloc (QU _) _
 have G:Hid (c.heap.size=w.heap.size+1):=by rw[d];show _=_;simp
 obtain⟨⟨k0,k1,k2,k3⟩,f0,f1,f2,f3⟩:=r.out.cells;cases hnb:eY f with
 |false=>
  rw[hnb] at o;clear hnb;go_enter func127,ntmps127
  go_wp2_with fail
  rw[<-d];clear d;refine(o.out _).mono ?_;rintro e q ⟨rfl,l⟩;subst l;go_wp2_with fail
  go_ret
  exact⟨⟨false,rfl,fun h=>by cases h⟩,j.out⟩
 |true=>
  rw[hnb] at o;clear hnb;by_cases D:i.size=32
  ·have E:(i.size:Int)=32:=by omega
   by_cases A:g.size=32
   ·have B:(g.size:Int)=32:=by omega
    have y:Hid (∀W,W.heap=c.heap->W.os=c.os->W.tape=c.tape->W.output=c.output->Calls yP 124 #[] W fun e w'=>e=rV (gV #[iV .i64 0,sV ⟨#[]⟩,sV ER,sV NC])/\Below c.heap.size c w'):=fun W e1 e2 e3 e4=>by
     have p:Below c.heap.size c W:=⟨e2,e3,e4,by rw[e1];exact QU _,fun k _=>by rw[e1]⟩
     have F:=j.out.size;refine(x.out W (j.out.trans (p.mono F))).mono ?_;rintro e w' ⟨C,t⟩;exact⟨C,p.trans (by rw[e1] at t;exact t)⟩
    go_enter func127,ntmps127
    go_wp2_with fail
    rw[<-d];clear d;refine(o.out _).mono ?_;rintro e q ⟨rfl,l⟩;subst l;have H:∀w,(binOp .neq 103 (gV #[iV .i64 n,sV f,sV i,sV g]) (gV #[iV .i64 0,sV ⟨#[]⟩,sV ER,sV NC])).run yP w=.ok (bV (!qm n 0 f ⟨#[]⟩ i ER g NC)) w:=fun w=>BO w _ _ _ _ _ _ _ _
    generalize qm n 0 f ⟨#[]⟩ i ER g NC=SA at*;go_upto_region 3 with fail
    go_region_with (go_at_call 124;refine(y.out q.drew rfl rfl rfl rfl).mono ?_;rintro e w2 ⟨rfl,s⟩;obtain⟨⟨m0,m1,m2,m3⟩,_⟩:=(r.out.below s r.out.lt).cells;have m:Hid (Below w.heap.size w w2):=j.out.trans (s.mono j.out.size);clear s)
    all_goals
     go_wp2_with fail
     go_ret
     exact⟨⟨_,rfl,fun _=>⟨D,A,by first|rfl|trivial⟩⟩,by first|exact m.out|exact⟨m.out.os,m.out.tape,m.out.output,m.out.size,m.out.block⟩⟩
   ·have B:¬(g.size:Int)=32:=by omega
    go_enter func127,ntmps127
    go_wp2_with fail
    rw[<-d];clear d;refine(o.out _).mono ?_;rintro e q ⟨rfl,l⟩;subst l;go_wp2_with fail
    go_ret
    exact⟨⟨false,rfl,fun h=>by cases h⟩,j.out⟩
  ·have E:¬(i.size:Int)=32:=by omega
   go_enter func127,ntmps127
   go_wp2_with fail
   rw[<-d];clear d;refine(o.out _).mono ?_;rintro e q ⟨rfl,l⟩;subst l;go_wp2_with fail
   go_ret
   exact⟨⟨false,rfl,fun h=>by cases h⟩,j.out⟩
def iU(W:World)(n:Nat):Prop:=∃x0 x1 x2 x3:yB,(x0.size<=140737488355328/\x1.size<=140737488355328/\x2.size<=140737488355328/\x3.size<=140737488355328)/\fH W n 176 (sV x0) (sV x1) (sV x2) (sV x3)
theorem iU.kept{w W:World}{n}(h:iU w n)(a:W.heap[n]? =w.heap[n]?):iU W n:=by
 obtain⟨x0,x1,x2,x3,b,h⟩:=h;exact⟨x0,x1,x2,x3,b,a.trans h⟩
theorem iU.set{W n k}(h:iU W n)(b:k<4)(t:yB)(a:t.size<=140737488355328):iU (W.setCell ⟨n,k,none⟩ (sV t)) n:=by
 obtain⟨x0,x1,x2,x3,⟨h0,h1,h2,h3⟩,h⟩:=h;have e:(W.setCell ⟨n,k,none⟩ (sV t)).heap[n]? =some (.cells ((#[sV x0,sV x1,sV x2,sV x3]:Array Value).setIfInBounds k (sV t)) 176 (0,0)):=by
  rw[RM W n k _ _ (0,0) _ h,R7 W n _ _ _ _ h]
 match k,b with
 | 0,_=>exact⟨t,x1,x2,x3,⟨a,h1,h2,h3⟩,e⟩
 | 1,_=>exact⟨x0,t,x2,x3,⟨h0,a,h2,h3⟩,e⟩
 | 2,_=>exact⟨x0,x1,t,x3,⟨h0,h1,a,h3⟩,e⟩
 | 3,_=>exact⟨x0,x1,x2,t,⟨h0,h1,h2,a⟩,e⟩
theorem iU.at_{W n k}(h:iU W n)(a:k<4):(∃v,W.cell? ⟨n,k,none⟩=some v)/\W.frozen? ⟨n,k,none⟩=false:=by
 obtain⟨x0,x1,x2,x3,_,h⟩:=h;obtain⟨⟨k0,k1,k2,k3⟩,f0,f1,f2,f3⟩:=h.cells;match k,a with
 | 0,_=>exact⟨⟨_,k0⟩,f0⟩
 | 1,_=>exact⟨⟨_,k1⟩,f1⟩
 | 2,_=>exact⟨⟨_,k2⟩,f2⟩
 | 3,_=>exact⟨⟨_,k3⟩,f3⟩
def Am(w:World)(e:Ending)(w':World):Prop:=(∃(x0 x1 x2 x3:yB) (a:Bool),e=rV (tV #[gV #[sV x0,sV x1,sV x2,sV x3],bV a])/\x0.size<=140737488355328/\x1.size<=140737488355328/\x2.size<=140737488355328/\x3.size<=140737488355328)/\yW w w'
theorem Eg{w S k}{ks:List Tree}{a d}(f:gC w S k ks.length a)(q:ks.length=4)(j:∀i,i<ks.length->aY d w S ((a.drop (3*i)).take 3) (ks.getD i (ay []))):
 ∃b o c,k=lV (some ⟨b,o,none⟩) 4 c/\S b/\∀i,i<4->∃(l:Bool) (t:yB),w.cell? ⟨b,o+i*3,none⟩=some (bV l)/\w.cell? ⟨b,o+i*3+1,none⟩=some (sV t)/\(l=false->t.size<=140737488355328):=by
 rw[q] at f j;rcases f.oa with⟨h0,_⟩|⟨b,o,c,p,n,g⟩
 ·omega
 ·refine⟨b,o,c,p,n,fun i hi=>?_⟩;have s:=f.len;have m:=j i hi;have c0:=g (3*i) (by omega);have c1:=g (3*i+1) (by omega);have e3:∃v0 v1 v2,(a.drop (3*i)).take 3=[v0,v1,v2]/\a[3*i]? =some v0/\a[3*i+1]? =some v1:=by
   refine⟨a[3*i]'(by omega),a[3*i+1]'(by omega),a[3*i+2]'(by omega),?_,QV _,QV _⟩;rw[RF (by omega),RF (by omega),RF (by omega)];rfl
  obtain⟨v0,v1,v2,e,g0,g1⟩:=e3;rw[e] at m;rw[g0] at c0;rw[g1] at c1;rw[Nat.mul_comm i 3];rcases kG m with⟨t,rfl,rfl,_,u⟩|⟨r,t,v,x,_,rfl,rfl,_,_,_,_⟩
  ·exact⟨false,t,c0,c1,fun _=>by omega⟩
  ·exact⟨true,t,c0,c1,fun h=>by cases h⟩
theorem iU.ret{W n}(h:iU W n):∃x0 x1 x2 x3:yB,(x0.size<=140737488355328/\x1.size<=140737488355328/\x2.size<=140737488355328/\x3.size<=140737488355328)/\(W.cell? ⟨n,0,none⟩=some (sV x0)/\W.cell? ⟨n,1,none⟩=some (sV x1)/\W.cell? ⟨n,2,none⟩=some (sV x2)/\W.cell? ⟨n,3,none⟩=some (sV x3)):=by
 obtain⟨x0,x1,x2,x3,a,h⟩:=h;exact⟨x0,x1,x2,x3,a,h.cells.1⟩
theorem On(w)(s:yB)(hs:s.size<=maxLen):Calls yP 125 #[sV s] w (Am w):=by
 have HD:Hid (∀W,Calls yP 100 #[sV s] W fun e w'=>Aq W (fL s.data.toList) e w'/\yW W w'):=fun W=>vT W s hs
 obtain⟨W0,A0⟩:=yX ((w.alloc (.cells #[sV ⟨#[]⟩,sV ⟨#[]⟩,sV ⟨#[]⟩,sV ⟨#[]⟩] 176)).alloc (.cells #[sV ⟨#[]⟩,sV ⟨#[]⟩,sV ⟨#[]⟩,sV ⟨#[]⟩] 176))
 have B7:Hid (yW w W0):=by rw[A0];exact((Q1 _ _).alloc (QU _) _).alloc (by simp) _
 have A9:Hid (W0.heap.size=w.heap.size+2):=by rw[A0];show _=_;simp
 have C3:Hid (iU W0 w.heap.size):=by
  rw[A0];exact⟨_,_,_,_,⟨by decide,by decide,by decide,by decide⟩,(RL _ _ _ (by simp)).trans (Rl w _)⟩
 have C5:Hid (iU W0 (w.heap.size+1)):=by
  rw[A0];refine⟨⟨#[]⟩,⟨#[]⟩,⟨#[]⟩,⟨#[]⟩,⟨by decide,by decide,by decide,by decide⟩,?_⟩;have:=Rl (w.alloc (.cells #[sV ⟨#[]⟩,sV ⟨#[]⟩,sV ⟨#[]⟩,sV ⟨#[]⟩] 176)) (.cells #[sV ⟨#[]⟩,sV ⟨#[]⟩,sV ⟨#[]⟩,sV ⟨#[]⟩] 176);rw[show(w.alloc (.cells #[sV ⟨#[]⟩,sV ⟨#[]⟩,sV ⟨#[]⟩,sV ⟨#[]⟩] 176)).heap.size=w.heap.size+1 by simp] at this;exact this
 obtain⟨R,hR⟩:=yX (Am w)
 have A4:Hid (∀x0 x1 x2 x3 ok W,x0.size<=140737488355328/\x1.size<=140737488355328/\x2.size<=140737488355328/\x3.size<=140737488355328->yW w W->R (rV (tV #[gV #[sV x0,sV x1,sV x2,sV x3],bV ok])) W):=fun x0 x1 x2 x3 ok W h hb=>by rw[hR];exact⟨⟨x0,x1,x2,x3,ok,rfl,h⟩,hb⟩
 rw[<-hR];clear hR;suffices hh:Calls yP 125 #[sV s] w (fun e w'=>R e w'/\True) from hh.mono fun _ _ h=>h.1
 go_enter func125,ntmps125
 go_wp2_with fail
 rw[<-A0];clear A0;refine(HD.out _).mono ?_;rintro e w1 ⟨hd,A5⟩;have B6:=A9.out;have E0:=A5.size;have A3:=aa (B7.out.trans (A5.mono (by omega)));have A2:iU w1 w.heap.size:=C3.out.kept (A5.block _ (by omega));have B1:iU w1 (w.heap.size+1):=C5.out.kept (A5.block _ (by omega));have E9:w.heap.size+2<=w1.heap.size:=by omega
 have B5:w.heap.size<w1.heap.size:=by omega
 have E6:w.heap.size+1<w1.heap.size:=by omega
 have E7:w.heap.size≠w1.heap.size:=by omega
 have E8:w.heap.size+1≠w1.heap.size:=by omega
 obtain⟨y0,y1,y2,y3,C9,⟨c0,c1,c2,c3⟩⟩:=B1.ret;obtain⟨⟨v0,k0⟩,f0⟩:=A2.at_ (k:=0) (by decide);obtain⟨⟨v1,k1⟩,f1⟩:=A2.at_ (k:=1) (by decide);obtain⟨⟨v2,k2⟩,f2⟩:=A2.at_ (k:=2) (by decide);obtain⟨⟨v3,k3⟩,f3⟩:=A2.at_ (k:=3) (by decide);have A7:=aa C9;have C4:=aa A2;have C6:=aa B1;clear B6 E0 A5 HD C9 A2 B1;cases hr:fL s.data.toList with
 |error c=>
  rw[hr] at hd;obtain⟨rfl,hc⟩:=hd;have E3:((c:Int) != 0)=true:=by simp;omega
  clear hc hr;go_wp2_with fail
  refine Rf (v:=tV #[gV #[sV y0,sV y1,sV y2,sV y3],bV false]) (by simp[results,results125,go_sem,k0,k1,k2,k3,B5]) rfl ⟨A4.out _ _ _ _ _ _ A7.out ?_,trivial⟩;exact(jC A3.out (QU _) _ _ _ _).alloc (by simp[World.setCell];omega) _
 |ok x=>
  rw[hr] at hd;obtain⟨l,t,a,m,cp,rfl,hi⟩:=hd;clear hr;rcases kG hi with⟨t',h1,h2,_,ht⟩|⟨e',t',ks,xs,_,h1,h2,_,A8,_,B4⟩
  ·cases h1
   clear hi;go_wp2_with fail
   refine Rf (v:=tV #[gV #[sV y0,sV y1,sV y2,sV y3],bV false]) (by simp[results,results125,go_sem,k0,k1,k2,k3,B5]) rfl ⟨A4.out _ _ _ _ _ _ A7.out ?_,trivial⟩;exact(jC A3.out (QU _) _ _ _ _).alloc (by simp[World.setCell];omega) _
  ·cases h1
   obtain⟨a',c',D9⟩:=A8.slice;cases D9
   by_cases h4:ks.length=4
   ·obtain⟨b,o,c,C8,E1,B3⟩:=Eg A8 h4 B4;rw[h4] at C8;cases C8
    have D7:b<w1.heap.size:=by
     obtain⟨l0,t0,q0,_⟩:=B3 0 (by decide);exact Rj w1 _ q0
    have B6:=A9.out;have E2:w.heap.size+2<=b:=by omega
    obtain⟨W2,A1⟩:=yX (w1.alloc (.cells #[bV true,sV t,lV (some ⟨b,o,none⟩) 4 cp] 155))
    have C2:Hid (W2.heap[w1.heap.size]? =some (.cells #[bV true,sV t,lV (some ⟨b,o,none⟩) 4 cp] 155 (0,0))):=by rw[A1];exact Rl w1 _
    have A6:Hid (∀k,k<w1.heap.size->W2.heap[k]? =w1.heap[k]?):=fun k hk=>by rw[A1];exact RL _ _ _ hk
    have D6:Hid (W2.heap.size=w1.heap.size+1):=by rw[A1];show _=_;simp
    have B8:Hid (yW w W2):=by rw[A1];exact A3.out.alloc (by omega) _
    have C0:=aa B3;have C1:Hid (∀wr,aN (fun k=>k=w.heap.size+1) W2 wr->(∀k,k<w1.heap.size+1->k≠w.heap.size+1->wr.heap[k]? =W2.heap[k]?)):=fun wr h k hk hn=>h.block k (by rw[D6.out];exact hk) hn
    have D1:Hid (∀wr,aN (fun k=>k=w.heap.size+1) W2 wr->wr.cell? ⟨w1.heap.size,2,none⟩=some (lV (some ⟨b,o,none⟩) 4 cp)/\(∀i,i<4->∃(l:Bool) (t:yB),wr.cell? ⟨b,o+i*3,none⟩=some (bV l)/\wr.cell? ⟨b,o+i*3+1,none⟩=some (sV t)/\(l=false->t.size<=140737488355328))/\iU wr w.heap.size/\yW w wr):=fun wr h=>by
     have hk:=C1.out wr h;refine⟨?_,fun i hi=>?_,?_,?_⟩
     ·rw[Q5 wr w1.heap.size 2 _ _ _ ((hk _ (by omega) (by omega)).trans C2.out)];rfl
     ·obtain⟨l,t,q1,q2,q3⟩:=C0.out i hi;have C7:wr.heap[b]? =w1.heap[b]? :=(hk b (by omega) (by omega)).trans (A6.out b D7);exact⟨l,t,(Rd (w:=w1) C7).trans q1,(Rd (w:=w1) C7).trans q2,q3⟩
     ·exact C4.out.kept ((hk _ (by omega) (by omega)).trans (A6.out _ (by omega)))
     ·exact B8.out.trans ⟨h.os,h.tape,h.output,h.size,fun k E4=>hk k (by omega) (by omega)⟩
    have D2:=aa (C6.out.kept (A6.out _ (by omega)));have D4:Hid (aN (fun k=>k=w.heap.size+1) W2 W2):=⟨rfl,rfl,rfl,QU _,fun _ _ _=>rfl⟩
    have D8:(ks.length:Int)=4:=by omega
    clear hi A8 B4 B3 B6 C2 A6 B8 C0 C1 A3 C4 C6 k0 k1 k2 k3 f0 f1 f2 f3 c0 c1 c2 c3 C3 C5 B7 A9 A7;rw[h4];go_wp2_with fail
    rw[<-A1];clear A1;go_loopg [7] 4 (fun g r wr=>∃k:Nat,g=4 - k/\k<=4/\r=iV .i64 k/\Hid (iU wr (w.heap.size+1))/\Hid (aN (fun k=>k=w.heap.size+1) W2 wr))
    case atStart=>exact⟨0,rfl,by omega,rfl,D2,D4⟩
    case round=>
     obtain⟨k,hg,hk,rfl,HT,HW⟩:=hrel;have HG:=aa hg;clear hg;obtain⟨d2,dk,dR,dB⟩:=D1.out wr HW.out;have B9:=aa dB;obtain⟨⟨u0,k0⟩,f0⟩:=dR.at_ (k:=0) (by decide);obtain⟨⟨u1,k1⟩,f1⟩:=dR.at_ (k:=1) (by decide);obtain⟨⟨u2,k2⟩,f2⟩:=dR.at_ (k:=2) (by decide);obtain⟨⟨u3,k3⟩,f3⟩:=dR.at_ (k:=3) (by decide);obtain⟨z0,z1,z2,z3,D0,⟨c0,c1,c2,c3⟩⟩:=HT.out.ret;have B0:=aa D0;clear D0 dR dB;by_cases B2:k<4
     ·have E5:(k:Int)<4:=by omega
      obtain⟨l,t2,q1,q2,q3⟩:=dk k B2;obtain⟨⟨uk,g0⟩,g1⟩:=HT.out.at_ B2;cases l with
      |true=>
       clear dk q3 g0 g1;go_wp2_with fail
       refine Rf (v:=tV #[gV #[sV z0,sV z1,sV z2,sV z3],bV false]) (by simp[results,results125,go_sem,k0,k1,k2,k3]) rfl ⟨A4.out _ _ _ _ _ _ B0.out ?_,trivial⟩;exact jC B9.out (QU _) _ _ _ _
      |false=>
       have D3:Hid (iU (wr.setCell ⟨w.heap.size+1,k,none⟩ (sV t2)) (w.heap.size+1)):=HT.out.set B2 t2 (q3 rfl);have D5:Hid (aN (fun k=>k=w.heap.size+1) W2 (wr.setCell ⟨w.heap.size+1,k,none⟩ (sV t2))):=aN.set HW.out _ _ (.inl rfl);clear dk q3 c0 c1 c2 c3 k0 k1 k2 k3 f0 f1 f2 f3 B0;go_wp2_with fail
       go_roundg (4 - (k+1))
       case measure=>have:=HG.out;omega
       case rel=>exact⟨k+1,rfl,by omega,by go_num,D3,D5⟩
     ·obtain rfl:k=4:=by omega
      clear dk;go_wp2_with fail
      refine Rf (v:=tV #[gV #[sV z0,sV z1,sV z2,sV z3],bV true]) (by simp[results,results125,go_sem,k0,k1,k2,k3]) rfl ⟨A4.out _ _ _ _ _ _ B0.out ?_,trivial⟩;exact jC B9.out (QU _) _ _ _ _
   ·have D8:¬(ks.length:Int)=4:=by omega
    clear hi A8 B4;go_wp2_with fail
    refine Rf (v:=tV #[gV #[sV y0,sV y1,sV y2,sV y3],bV false]) (by simp[results,results125,go_sem,k0,k1,k2,k3,B5]) rfl ⟨A4.out _ _ _ _ _ _ A7.out ?_,trivial⟩;exact(jC A3.out (QU _) _ _ _ _).alloc (by simp[World.setCell];omega) _
theorem yV{t}(h:eY t=true):t.size<=32:=by
 unfold eY at h;by_cases h0:0<t.size
 ·rw[dif_pos h0,Sh] at h;exact of_decide_eq_true h.1
 ·omega
structure iX(a:jL):Prop where
 n:a.n<9223372036854775808
 aj:a.aj.size<=140737488355328
 root:a.root.size<=140737488355328
 code:a.code.size<=140737488355328
def wE(w:World)(e:Ending)(w':World):Prop:=(∃(a:jL) (b:Bool) (c:Nat),e=rV (tV #[cy a,bV b,iV .i64 c])/\iX a/\(c=0->a.root.size=32/\a.code.size=32/\a.aj.size<=32))/\yW w w'
theorem rH:iX pS:=⟨by decide,by decide,by decide,by decide⟩
theorem ye:iX jw/\jw.root.size=32/\jw.code.size=32/\jw.aj.size<=32:=by
 have h1:jw.root.size=32:=by show(str cw).size=32;unfold cw;rw[lW];exact eL _
 have h2:jw.code.size=32:=eL _;exact⟨⟨by decide,by decide,by rw[h1];decide,by rw[h2];decide⟩,h1,h2,by decide⟩
theorem GJ(w)(s:yB)(Z:s.size<=maxLen)(T:az w):Calls yP 98 #[sV s] w (wE w):=by
 have y:Hid (∀W,yW w W->Calls yP 124 #[] W fun e w'=>e=rV (cy jw)/\yW W w'):=fun W d=>uv W (T.below d)
 have H:Hid (∀W,Calls yP 125 #[sV s] W (Am W)):=fun W=>On W s Z
 have x:Hid (∀t W,t.size<=maxLen->Calls yP 126 #[sV t] W fun e w'=>e=rV (tV #[iV .i64 (if ew t=true then ct t.data.toList else 0:Nat),bV (ew t)])/\w'=W):=fun t W ht=>LW t ht W
 have p:Hid (∀a W,iX a->yW w W->Calls yP 127 #[cy a] W fun e w'=>(∃b:Bool,e=rV (bV b)/\(b=true->a.root.size=32/\a.code.size=32/\eY a.aj=true))/\yW W w'):=fun a W D d=>Oy W a (Q7 D.aj (by decide)) (Q7 D.root (by decide)) (Q7 D.code (by decide)) (T.below d)
 have L:Hid (cy jw=gV #[iV .i64 0,sV ⟨#[]⟩,sV (str cw),sV fO]):=rfl;obtain⟨R,C⟩:=yX (wE w)
 have z:Hid (∀(a:jL) there (c:Nat) W,iX a->(c=0->a.root.size=32/\a.code.size=32/\a.aj.size<=32)->yW w W->R (rV (tV #[cy a,bV there,iV .i64 c])) W):=fun a th c W h1 h2 h3=>by rw[C];exact⟨⟨a,th,c,rfl,h1,h2⟩,h3⟩
 have K:Hid (∀W,yW w W->R (rV (tV #[gV #[iV .i64 0,sV ⟨#[]⟩,sV (str cw),sV fO],bV false,iV .i64 0])) W):=fun W d=>z.out jw false 0 W ye.1 (fun _=>ye.2) d
 have A:Hid (∀W,yW w W->R (rV (tV #[gV #[iV .i64 0,sV ⟨#[]⟩,sV ⟨#[]⟩,sV ⟨#[]⟩],bV false,iV .i64 13])) W):=fun W d=>z.out pS false 13 W rH (fun h=>by cases h) d
 rw[<-C];clear C T;suffices hh:Calls yP 98 #[sV s] w (fun e w'=>R e w'/\True) from hh.mono fun _ _ h=>h.1
 obtain⟨l,g⟩:=yX (w.alloc (.cells #[iV .i64 0,sV ⟨#[]⟩,sV ⟨#[]⟩,sV ⟨#[]⟩] 103))
 have i:Hid (yW w l):=by rw[g];exact(Q1 _ _).alloc (QU _) _
 have k:Hid (fH l w.heap.size 103 (iV .i64 0) (sV ⟨#[]⟩) (sV ⟨#[]⟩) (sV ⟨#[]⟩)):=by rw[g];exact fH.new _ _ _ _ _ _
 have O:Hid (l.heap.size=w.heap.size+1):=by rw[g];show _=_;simp
 by_cases h0:s.size=0
 ·have Y:s.toList.isEmpty=true:=by rw[gH];exact h0
  rw[L.out] at y;generalize str cw=ER at*;generalize fO=NC at*;go_enter func98,ntmps98
  go_wp2_with fail
  rw[<-g];clear g;refine(y.out _ i.out).mono ?_;rintro e w1 ⟨rfl,f⟩;have j:=aa (i.out.trans (f.mono i.out.size));obtain⟨⟨k0,k1,k2,k3⟩,f0,f1,f2,f3⟩:=(k.out.below f k.out.lt).cells;clear f;go_wp2_with fail
  refine Rf (v:=tV #[gV #[iV .i64 0,sV ⟨#[]⟩,sV ER,sV NC],bV false,iV .i64 0]) (by simp[results,results98,go_sem,k0,k1,k2,k3]) rfl ⟨K.out _ (jC j.out (QU _) _ _ _ _),trivial⟩
 ·have Y:s.toList.isEmpty=false:=by rw[gT];exact h0
  clear L y h0 K;go_enter func98,ntmps98
  go_wp2_with fail
  rw[<-g];clear g;refine(H.out _).mono ?_;rintro e w1 ⟨⟨x0,x1,x2,x3,ok,rfl,Q,S,U,V⟩,f⟩;have A0:=f.size;have F:w.heap.size<w1.heap.size:=by have:=O.out;omega
  have j:=aa (i.out.trans (f.mono i.out.size));have B:=aa (k.out.below f k.out.lt);obtain⟨⟨k0,k1,k2,k3⟩,f0,f1,f2,f3⟩:=B.out.cells;clear f A0 k O i H;cases ok with
  |false=>
   clear x p;go_wp2_with fail
   refine Rf (v:=tV #[gV #[iV .i64 0,sV ⟨#[]⟩,sV ⟨#[]⟩,sV ⟨#[]⟩],bV false,iV .i64 13]) (by simp[results,results98,go_sem,k0,k1,k2,k3,F]) rfl ⟨A.out _ ?_,trivial⟩;exact(jC j.out (QU _) _ _ _ _).alloc (by simp[World.setCell];omega) _
  |true=>
   have I:Hid (∀W,Calls yP 126 #[sV x0] W fun e w'=>e=rV (tV #[iV .i64 (if ew x0=true then ct x0.data.toList else 0:Nat),bV (ew x0)])/\w'=W):=fun W=>x.out x0 W (Q7 Q (by decide))
   have P:(if ew x0=true then ct x0.data.toList else 0)<9223372036854775808:=by
    split
    ·next h=>exact Ev h
    ·decide
   have J:Hid (iX ⟨if ew x0=true then ct x0.data.toList else 0,x1,x2,x3⟩):=⟨P,S,U,V⟩
   generalize (if ew x0=true then ct x0.data.toList else 0)=n at*;generalize ew x0=ib at*;clear x P Q S U V;cases ib with
   |false=>
    clear p;go_wp2_with fail
    refine(I.out _).mono ?_;rintro e wx ⟨rfl,rfl⟩;go_wp2_with fail
    refine Rf (v:=tV #[gV #[iV .i64 0,sV ⟨#[]⟩,sV ⟨#[]⟩,sV ⟨#[]⟩],bV false,iV .i64 13]) (by simp[results,results98,go_sem,k0,k1,k2,k3,F]) rfl ⟨A.out _ ?_,trivial⟩;exact((jC j.out (QU _) _ _ _ _).alloc (by simp[World.setCell];omega) _).alloc (by simp[World.setCell];omega) _
   |true=>
    have X:Hid (∀W,yW w W->Calls yP 127 #[gV #[iV .i64 n,sV x1,sV x2,sV x3]] W fun e w'=>(∃b:Bool,e=rV (bV b)/\(b=true->x2.size=32/\x3.size=32/\eY x1=true))/\yW W w'):=fun W d=>p.out ⟨n,x1,x2,x3⟩ W J.out d
    obtain⟨m,o⟩:=yX ((w1.alloc (.cells #[sV x0,sV x1,sV x2,sV x3] 176)).alloc (.cells #[iV .i64 n,sV x1,sV x2,sV x3] 103))
    have r:Hid (yW w m):=by rw[o];exact(j.out.alloc (by omega) _).alloc (by simp;omega) _
    have M:Hid (fH m w.heap.size 103 (iV .i64 0) (sV ⟨#[]⟩) (sV ⟨#[]⟩) (sV ⟨#[]⟩)):=by
     rw[o];exact(RL _ _ _ (by simp;omega)).trans ((RL _ _ _ F).trans B.out)
    have N:Hid (fH m (w1.heap.size+1) 103 (iV .i64 n) (sV x1) (sV x2) (sV x3)):=by
     rw[o];have:=fH.new (w1.alloc (.cells #[sV x0,sV x1,sV x2,sV x3] 176)) 103 (iV .i64 n) (sV x1) (sV x2) (sV x3);rw[show(w1.alloc (.cells #[sV x0,sV x1,sV x2,sV x3] 176)).heap.size=w1.heap.size+1 by simp] at this;exact this
    clear p B;go_wp2_with fail
    refine(I.out _).mono ?_;rintro e wx ⟨rfl,rfl⟩;go_wp2_with fail
    rw[<-o];clear o k0 k1 k2 k3 f0 f1 f2 f3;refine(X.out _ r.out).mono ?_;rintro e w4 ⟨⟨b,rfl,E⟩,q⟩;obtain⟨⟨k0,k1,k2,k3⟩,f0,f1,f2,f3⟩:=(M.out.below q M.out.lt).cells;obtain⟨⟨m0,m1,m2,m3⟩,_⟩:=(N.out.below q N.out.lt).cells;have G:=aa (r.out.trans (q.mono r.out.size));clear q;cases b with
    |false=>
     clear E;go_wp2_with fail
     exact Rf (v:=tV #[gV #[iV .i64 0,sV ⟨#[]⟩,sV ⟨#[]⟩,sV ⟨#[]⟩],bV false,iV .i64 13]) (by simp[results,results98,go_sem,k0,k1,k2,k3]) rfl ⟨A.out _ (jC G.out (QU _) _ _ _ _),trivial⟩
    |true=>
     have u:Hid (x2.size=32/\x3.size=32/\eY x1=true):=E rfl;clear E;go_wp2_with fail
     exact Rf (v:=tV #[gV #[iV .i64 n,sV x1,sV x2,sV x3],bV true,iV .i64 0]) (by simp[results,results98,go_sem,k0,k1,k2,k3]) rfl ⟨z.out ⟨n,x1,x2,x3⟩ true 0 _ J.out (fun _=>⟨u.out.1,u.out.2.1,yV u.out.2.2⟩) (jC G.out (QU _) _ _ _ _),trivial⟩
theorem zz(x:Tree):(fy x).size<=4096:=by
 unfold fy;split
 ·unfold gQ;split
  ·next h=>rw[aH];unfold fg at h;simpa using h
  ·exact Ri _
 ·exact Ri _
def nO(a:jL):yB:=fy (bH [ay (cT 8 a.n),ay a.aj.data.toList,ay a.root.data.toList,ay a.code.data.toList])
theorem Kj{w:World}{b n0 b0 r0 c0}(a:w.heap[b]? =some (.cells #[bV false,sV n0,lV none 0 0,bV false,sV b0,lV none 0 0,bV false,sV r0,lV none 0 0,bV false,sV c0,lV none 0 0] 155 (0,0)))(h1:n0.size<=140737488355328)(h2:b0.size<=140737488355328)(h3:r0.size<=140737488355328)(h4:c0.size<=140737488355328):
 aY 6 w (fun _=>True) [bV true,sV ⟨#[]⟩,lV (qA b) 4 4] (bH [ay n0.data.toList,ay b0.data.toList,ay r0.data.toList,ay c0.data.toList]):=by
 refine vG 5 w _ _ _ _ [bV false,sV n0,lV none 0 0,bV false,sV b0,lV none 0 0,bV false,sV r0,lV none 0 0,bV false,sV c0,lV none 0 0] ⟨rfl,.inr ⟨b,0,4,rfl,trivial,fun j c=>?_⟩⟩ (by simp) fun i hi=>?_
 ·rw[R5,Q5 w b j _ _ _ a];simp
 ·match i,hi with
  | 0,_=>exact mi 5 w _ n0 _ (by omega)
  | 1,_=>exact mi 5 w _ b0 _ (by omega)
  | 2,_=>exact mi 5 w _ r0 _ (by omega)
  | 3,_=>exact mi 5 w _ c0 _ (by omega)
theorem LV(n:Nat)(v:n<9223372036854775808)(w:World):
 Calls yP 148 #[iV .i64 n] w fun e w'=>e=rV (sV (str (cT 8 n)))/\yW w w':=by
 have t:=fun W x=>vU W x
 go_enter func148,ntmps148
 go_wp2_with fail
 go_loopg [0,3] n (fun g a o wr=>∃(m f:Nat) (b:yB),g=m/\m<=n/\a=iV .i64 m/\o=sV b/\Hid (cT 8 n=cT f m++b.data.toList/\m<256 ^ f/\f<=8/\b.size+f=8)/\yW w wr)
 case atStart=>exact⟨n,8,ByteArray.empty,rfl,QU _,rfl,rfl,⟨by simp,by omega,QU _,rfl⟩,Q1 _ _⟩
 case round=>
  obtain⟨m,f,b,j,u,rfl,rfl,d,h⟩:=hrel;have p:=aa j;have c:=aa h;have z:b.size<=8:=by have:=d.out.2.2.2;omega
  clear j h;by_cases h0:0<m
  ·have A:IntKind.u8.wrap ((m:Int) % 256)=((m % 256:Nat):Int):=by rw[SB];omega
   have s:(0:Int)<(m:Int):=by omega
   have k:=sx (m % 256) (by omega);have y:(strOfNums [(m:Int) % 256]).size=1:=by rw[strOfNums_size];rfl
   have q:=aa k;clear k;go_wp2_with fail
   go_roundg (m / 256)
   case measure=>have:=p.out;omega
   case rel=>
    obtain⟨d1,d2,d3,d4⟩:=d.out;have e:strOfNums [(m:Int) % 256]++b=str (UInt8.ofNat (m % 256)::b.data.toList):=by
     have e1:((m:Int) % 256)=((m % 256:Nat):Int):=by omega
     rw[e1,q.out];conv=>lhs;rw[<-jc b]
     rw[qb];rfl
    cases f with
    |zero=>simp at d2;omega
    |succ f=>
     refine⟨m / 256,f,strOfNums [(m:Int) % 256]++b,rfl,by omega,by go_num,rfl,⟨?_,by rw[Nat.pow_succ] at d2;omega,by omega,?_⟩,c.out.alloc c.out.size _⟩
     ·rw[d1,e,dV];conv=>lhs;unfold cT
      rw[QW (by omega),Rn];rfl
     ·rw[e,aH];simp;omega
  ·have r:m=0:=by omega
   subst r;have i:str (cT 8 n)=b:=by rw[d.out.1,vQ,SF,jc]
   have l:=aa i;clear i;go_wp2_with fail
   go_ret
   exact⟨by rw[l.out];rfl,c.out⟩
theorem Kh(w)(a:jL)(E:iX a):Calls yP 130 #[cy a] w fun e w'=>e=rV (sV (nO a))/\yW w w':=by
 obtain⟨n,f,h,g⟩:=a;obtain⟨p,l,q,o⟩:=E;simp only at p l q o;have t:Hid (∀W,Calls yP 148 #[iV .i64 n] W fun e w'=>e=rV (sV (str (cT 8 n)))/\yW W w'):=fun W=>LV n p W
 have x:Hid (∀W b,W.heap[b]? =some (.cells #[bV false,sV (str (cT 8 n)),lV none 0 0,bV false,sV f,lV none 0 0,bV false,sV h,lV none 0 0,bV false,sV g,lV none 0 0] 155 (0,0))->Calls yP 129 #[gV #[bV true,sV ⟨#[]⟩,lV (qA b) 4 4]] W fun e w'=>(∃c,e=rV (tV #[sV (nO ⟨n,f,h,g⟩),iV .i64 c]))/\yW W w'):=fun W b D=>by
  have hi:=Kj D (by rw[aH];have:=vR 8 n;omega) l q o;rw[dV] at hi;exact(tf W _ _ _ _ _ hi).mono fun e w' ⟨h1,h2⟩=>⟨⟨_,h1⟩,h2⟩
 generalize nO ⟨n,f,h,g⟩=R at*;generalize str (cT 8 n)=ND at*;unfold cy;clear p l q o;obtain⟨d,j⟩:=yX (w.alloc (.cells #[iV .i64 n,sV f,sV h,sV g] 103))
 have i:Hid (fH d w.heap.size 103 (iV .i64 n) (sV f) (sV h) (sV g)):=by rw[j];exact fH.new _ _ _ _ _ _
 have k:Hid (yW w d):=by rw[j];exact(Q1 _ _).alloc (QU _) _
 obtain⟨⟨k0,k1,k2,k3⟩,_⟩:=i.out.cells;have u:Hid (Calls yP 148 #[iV .i64 n] d.drew fun e w'=>e=rV (sV ND)/\yW d w'):=(t.out d.drew).mono fun e w' ⟨h1,h2⟩=>⟨h1,⟨h2.os,h2.tape,h2.output,h2.size,h2.block⟩⟩
 go_enter func130,ntmps130
 go_upto_region 1 with fail
 rw[<-j];clear j;go_cut [3] (fun v z=>∃b,v=lV (qA b) 4 4/\Hid (z.heap[b]? =some (.cells #[bV false,sV ND,lV none 0 0,bV false,sV f,lV none 0 0,bV false,sV h,lV none 0 0,bV false,sV g,lV none 0 0] 155 (0,0)))/\Hid (yW w z))
 case first=>
  go_region_held3 (fun w'=>w'.cell? ⟨w.heap.size,0,none⟩=some (iV .i64 n)/\w'.cell? ⟨w.heap.size,1,none⟩=some (sV f)/\w'.cell? ⟨w.heap.size,2,none⟩=some (sV h)/\w'.cell? ⟨w.heap.size,3,none⟩=some (sV g)) (go_keep) ((go_at_call 148;refine u.out.mono ?_;rintro e w2 ⟨rfl,m⟩;obtain⟨⟨m0,m1,m2,m3⟩,_⟩:=(i.out.below m i.out.lt).cells;have r:Hid (yW w w2):=k.out.trans (m.mono k.out.size);clear m))
  all_goals
   go_wp2_with fail
   go_meet
   exact⟨w2.heap.size,rfl,Rl w2 _,r.out.alloc r.out.size _⟩
 case rest=>
  obtain⟨b,rfl,B,s⟩:=hcut;have C:=aa (x.out wc b B.out);clear x t u i k k0 k1 k2 k3;go_wp2_with fail
  refine C.out.mono ?_;rintro e w3 ⟨⟨c,rfl⟩,y⟩;have A:=aa (s.out.trans (y.mono s.out.size));clear y;go_wp2_with fail
  go_ret
  exact⟨rfl,A.out⟩
end Go.Proofs.YtiimkkahmpmhdaaGreatDoor
