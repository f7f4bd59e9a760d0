import Derived.Test.YteaodagofkcgbaaGreatDoorT
open Go.Proofs.Tryz
open Go.Proofs.Tryz renaming prog→yP
open Go.Value renaming string→sV,pointer→pV,int→iV,slice→lV,bool→bV,tuple→tV,agg→gV
open Go.Ending renaming returned→rV
namespace Go.Proofs.YteaodagofkcgbaaGreatDoor
open Go.RowKit
set_option maxRecDepth 100000
set_option maxHeartbeats 0
set_option linter.all false
abbrev bH:=yB×Option Addr
def lI(sb a:Nat)(b:Nat->Value):Array Value:=#[pV (qA sb),pV (qA a)]++jj b
def tB(sb b:Nat)(a)(c:Nat)(h:c<256):(lI sb b a)[2+c]? =some (a c):=by
 unfold lI;rw[Array.getElem?_append_right (by simp)];rw[show 2+c - (#[Value.pointer (qA sb),Value.pointer (qA b)]:Array Value).size=c by simp];exact mY a c h
def Dx(sb a:Nat)(b):(lI sb a b)[0]? =some (pV (qA sb)):=by
 unfold lI;rw[Array.getElem?_append_left (by simp)];rfl
def Dw(sb a:Nat)(b):(lI sb a b)[1]? =some (pV (qA a)):=by
 unfold lI;rw[Array.getElem?_append_left (by simp)];rfl
def Dv(sb d:Nat)(a)(c:Nat)(v)(h:c<256):(lI sb d a).setIfInBounds (2+c) v=lI sb d (bd a c v):=by
 unfold lI;rw[<-yU a c v h];apply Vw;intro j;by_cases b:j<2
 .rw[Array.getElem?_setIfInBounds_ne (by omega),Array.getElem?_append_left (by simpa using b),Array.getElem?_append_left (by simpa using b)]
 rw[Array.getElem?_append_right (by simp;omega),Vi,Vi];simp only[List.size_toArray,UJ,List.length_nil,Array.size_append,vQ];by_cases e:2+c=j
 .subst e;rw[Uj rfl,Uj (by omega),Uj (by omega),Uj (by omega)]
 rw[Ui e,Ui (by omega),Array.getElem?_append_right (by simp;omega)];rfl
def iA(a:List bH):List Value:=a.flatMap λp=>[Value.string p.1,Value.pointer p.2]
def Mh(a b:List bH):iA (a++b)=iA a++iA b:=by simp[iA]
def vL:∀(a:List bH) (k:Nat) (p:bH),a[k]? =some p->(iA a)[k*2]? =some (sV p.1)/\(iA a)[k*2+1]? =some (pV p.2)
 | [],k,p,h=>by simp at h
 |q::t,0,p,h=>by simp at h;subst h;exact⟨rfl,rfl⟩
 |q::t,k+1,p,h=>by
  have:=vL t k p (by simpa using h)
  exact⟨by rw[show(k+1)*2=k*2+2 by omega];exact this.1,by rw[show(k+1)*2+1=k*2+1+2 by omega];exact this.2⟩
def DJ:∀(a:List bH) (m:Nat),iA (a.take m)=(iA a).take (m*2)
 | [],m=>by simp[iA]
 |q::t,0=>by simp[iA]
 |q::t,m+1=>by
  have:=DJ t m
  rw[show(m+1)*2=m*2+2 by omega]
  show [Value.string q.1,Value.pointer q.2]++iA (t.take m)=_
  rw[this];rfl
structure xT(w:World)(b c:Nat)(a:Option Addr)(cap:Nat)(ps:List bH):Prop where
 cell:w.cell? ⟨b,2+c,none⟩=some (lV a ps.length cap)
 at_:∀(k:Nat) (p:bH),ps[k]? =some p->∃g,a=some ⟨g,0,none⟩/\w.cell? ⟨g,k*2,none⟩=some (sV p.1)/\w.cell? ⟨g,k*2+1,none⟩=some (pV p.2)
structure cX(base:Nat)(w:World)(b sb tw:Nat)(vs:Nat->Value)(sh:Nat->List bH):Prop where
 ai:w.heap[b]? =some (.cells (lI sb tw vs) 98 (0,0))
 own:∀c,c<256->w.ownsRow base 151 2 (vs c) (sh c).length (iA (sh c))
 sep:∀c d g,c<256->d<256->(vs c).ownBlock=some g->(vs d).ownBlock=some g->c=d
 fL:∀c g,c<256->(vs c).ownBlock=some g->g≠b
def cX.lK{base w b sb m l i}(h:cX base w b sb m l i)(c:Nat)(d:c<256):∃a cap,l c=lV a (i c).length cap/\xT w b c a cap (i c):=by
 let⟨a,cap,e,_,_,f⟩:=dM (h.own c d);refine⟨a,cap,e,⟨by rw[Ur w b (2+c) _ _ _ h.ai,tB _ _ _ _ d,e],λk p j=>?_⟩⟩;have n:=(Ux.1 j).1;rcases f with⟨_,h0,_⟩|⟨g,rfl⟩
 .omega
 let⟨p1,p2⟩:=vL _ k p j;exact⟨g,rfl,fc (h.own c d) (by rw[e];rfl) _ _ p1,fc (h.own c d) (by rw[e];rfl) _ _ p2⟩
def DK:∀(a:List bH) (k:Nat) (p:bH),iA (a.set k p)=((iA a).set (k*2) (sV p.1)).set (k*2+1) (pV p.2)
 | [],k,p=>by simp[iA]
 |q::t,0,p=>by simp[iA]
 |q::t,k+1,p=>by
  have:=DK t k p
  rw[show(k+1)*2=k*2+2 by omega,show k*2+2+1=k*2+1+2 by omega]
  show [Value.string q.1,Value.pointer q.2]++iA (t.set k p)=_
  rw[this];rfl
def fb(L:List bH)(n:Nat):Nat->List bH
 | 0=>L
 |k+1=>(fb L n k).set (n - k) (L.getD (n - k - 1) (⟨#[]⟩,none))
def pT(L:List bH)(n:Nat):∀k,(fb L n k).length=L.length
 | 0=>rfl
 |k+1=>by show((fb L n k).set _ _).length=_;rw[Vh,pT L n k]
def yr(L:List bH)(n:Nat):∀k j,j+k<=n->(fb L n k)[j]? =L[j]?
 | 0,j,_=>rfl
 |k+1,j,h=>by
  show((fb L n k).set (n - k) _)[j]? =_
  rw[Ve (by omega)]
  exact yr L n k j (by omega)
def CD(L:List bH)(n:Nat)(a:L.length=n+1):∀k j,k<=n->n<j+k->j<=n->(fb L n k)[j]? =L[j - 1]?
 | 0,j,_,h,hj=>by omega
 |k+1,j,hk,h,hj=>by
  show((fb L n k).set (n - k) _)[j]? =_
  by_cases e:n - k=j
  .subst e
   rw[List.getElem?_set_self (by rw[pT,a];omega),Up,Uh (by omega)];rfl
  rw[Ve e]
  exact CD L n a k j (by omega) (by omega) hj
def aS(a:Nat->List bH)(c:Nat)(l:List bH):Nat->List bH:=λd=>if d=c then l else a d
def cX.grown{base w b sb p j y}(S:cX base w b sb p j y)(c:Nat)(n:c<256)(o:Obj)(l:List bH)(g cap:Nat) (w1:World) (x:w1.ownsRow base 151 2 (lV (qA g) l.length cap) l.length (iA l)) (m:(w.drew.alloc o).grownBy w1 (j c).ownBlock) (u:(j c).ownBlock=some g\/g=w.heap.size+1):w1.heap[b]? =some (.cells (lI sb p j) 98 (0,0))/\cX base (w1.setCell ⟨b,2+c,none⟩ (lV (qA g) l.length cap)) b sb p (bd j c (lV (qA g) l.length cap)) (aS y c l)/\
  aU (λk=>k=b\/(j c).ownBlock=some k) w (w1.setCell ⟨b,2+c,none⟩ (lV (qA g) l.length cap))/\g<w1.heap.size:=by
 have z:b<w.heap.size:=(Um.1 S.ai).1;have F:=m.size;have E:(w.drew.alloc o).heap.size=w.heap.size+1:=by simp
 have t:∀k,k<w.heap.size->(w.drew.alloc o).heap[k]? =w.heap[k]? :=λk s=>U6 w.drew o k s
 have r:w1.heap[b]? =some (.cells (lI sb p j) 98 (0,0)):=by
  rw[m.block b (by omega) (λe=>S.fL c b n e.symm rfl),t b z];exact S.ai
 have v:g≠b:=by
  rcases u with h|h
  .exact S.fL c g n h
  omega
 have A:g<w1.heap.size:=(x.lt g rfl).2;refine⟨r,⟨?_,?_,?_,?_⟩,?_,A⟩
 .rw[U7 w1 b (2+c) _ _ (0,0) _ r,Vk w1 b _ _ _ _ r,Dv _ _ _ _ _ n]
 .intro d f;by_cases e:d=c
  .subst e;simp only[bd,aS,U5];exact cM x λa i=>UL _ _ _ a (by show a≠b;simp[Value.ownBlock] at i;subst i;exact v)
  simp only[bd,aS,e,UT];refine cM (S.own d f) λa i=>?_
  have B:=((S.own d f).lt a i).2;rw[UL _ _ _ a (by show a≠b;exact S.fL d a f i),m.block a (by omega) (λh=>e (S.sep d c a f n i h.symm)),t a B]
 .intro d1 d2 a h1 h2 e1 e2;have key:∀d,d<256->d≠c->(j d).ownBlock=some g->False:=λd f D i=>by
   rcases u with h|h
   .exact D (S.sep d c g f n i h)
   have:=((S.own d f).lt g i).2;omega
  by_cases q1:d1=c<;>by_cases q2:d2=c
  .rw[q1,q2]
  .simp only[bd,q1,U5] at e1;simp only[bd,q2,UT] at e2;simp[Value.ownBlock] at e1;subst e1;exact(key d2 h2 q2 e2).elim
  .simp only[bd,q2,U5] at e2;simp only[bd,q1,UT] at e1;simp[Value.ownBlock] at e2;subst e2;exact(key d1 h1 q1 e1).elim
  simp only[bd,q1,UT] at e1;simp only[bd,q2,UT] at e2;exact S.sep d1 d2 a h1 h2 e1 e2
 .intro d a f e;by_cases q:d=c
  .simp only[bd,q,U5] at e;simp[Value.ownBlock] at e;subst e;exact v
  simp only[bd,q,UT] at e;exact S.fL d a f e
 exact aU.set (T:=λk=>k=b\/(j c).ownBlock=some k) (w:=w) (w':=w1) ⟨m.os,m.tape,m.output,by omega,λk s C=>by
  rw[m.block k (by omega) (λh=>C (.inr h.symm)),t k s]⟩ ⟨b,2+c,none⟩ _ (.inl (.inl rfl))
def cX.put{base w b sb q l j}(S:cX base w b sb q l j)(c:Nat)(m:c<256)(g:Nat)(f:(l c).ownBlock=some g)(k:Nat)(p:bH):cX base ((w.setCell ⟨g,k*2,none⟩ (sV p.1)).setCell ⟨g,k*2+1,none⟩ (pV p.2)) b sb q l (aS j c ((j c).set k p)):=by
 have n:=S.fL c g m f;refine⟨?_,?_,S.sep,S.fL⟩
 .rw[UL _ _ _ b (by show b≠g;exact n.symm),UL _ _ _ b (by show b≠g;exact n.symm)];exact S.ai
 intro d i;by_cases e:d=c
 .subst e;simp only[aS,U5];rw[DK,Vh];exact tS (tS (S.own d i) f _ _) f _ _
 simp only[aS,e,UT];refine cM (S.own d i) λa r=>?_
 have o:a≠g:=λh=>e (S.sep d c g i m (by rwa[<-h]) f)
 rw[UL _ _ _ a (by show a≠g;exact o),UL _ _ _ a (by show a≠g;exact o)]
def Lj(a:List bH)(e q:bH)(k:Nat)(f:k<=a.length):(fb (a++[e]) a.length (a.length - k)).set k q=a.take k++[q]++a.drop k:=by
 apply VQ;intro j;have g:(fb (a++[e]) a.length (a.length - k)).length=a.length+1:=by rw[pT];simp
 have c:(a.take k++[q]).length=k+1:=by rw[Uq,UN];simp;omega
 rcases Nat.lt_trichotomy j k with b|b|b
 .rw[Ve (by omega),yr _ _ _ j (by omega),UW (by omega),UI,UW (by rw[UN];omega),Vv,Uj b]
 .subst b;rw[List.getElem?_set_self (by omega),UW (by omega),Vf (by rw[UN];omega)];simp[UN,Nat.min_eq_left f]
 rw[Ve (by omega)];by_cases d:j<=a.length
 .rw[CD _ _ (by simp) _ j (by omega) (by omega) d,UW (by omega),Vf (by omega),c,VE];congr 1;omega
 rw[U9 (by omega),U9 (by rw[Uq,c,Uu];omega)]
def cX.same{base}{w w':World}{b sb e f d}(S:cX base w b sb e f d)(a:w'.heap=w.heap):cX base w' b sb e f d:=
 ⟨by rw[a];exact S.ai,λc h=>cM (S.own c h) λg _=>by rw[a],S.sep,S.fL⟩
def eD(L:List bH)(i:Nat):Nat->List bH
 | 0=>L
 |k+1=>(eD L i k).set (i+k) (L.getD (i+k+1) (⟨#[]⟩,none))
def qD(L:List bH)(i:Nat):∀k,(eD L i k).length=L.length
 | 0=>rfl
 |k+1=>by show((eD L i k).set _ _).length=_;rw[Vh,qD L i k]
def Bl(L:List bH)(i:Nat):∀k j,(j<i\/i+k<=j)->(eD L i k)[j]? =L[j]?
 | 0,j,_=>rfl
 |k+1,j,h=>by
  show((eD L i k).set (i+k) _)[j]? =_
  rw[Ve (by omega)]
  exact Bl L i k j (by omega)
def IU(L:List bH)(i:Nat):∀k j,i+k<L.length->i<=j->j<i+k->(eD L i k)[j]? =L[j+1]?
 | 0,j,_,_,h=>by omega
 |k+1,j,hL,h1,h2=>by
  show((eD L i k).set (i+k) _)[j]? =_
  by_cases e:i+k=j
  .subst e
   rw[List.getElem?_set_self (by rw[qD];omega),Up,Uh (by omega)];rfl
  rw[Ve e]
  exact IU L i k j (by omega) h1 (by omega)
def Sf(L:List bH)(i n:Nat)(e:bH)(c:L.length=n+1)(hi:i<=n):((eD L i (n - i)).set n e).take n=L.eraseIdx i:=by
 apply VQ;intro j;rw[Vv];by_cases b:j<n
 .rw[Uj b,Ve (by omega),List.getElem?_eraseIdx];by_cases a:j<i
  .rw[Uj a,Bl _ _ _ _ (.inl a)]
  rw[Ui a,IU _ _ _ _ (by omega) (by omega) (by omega)]
 rw[Ui b,U9 (by rw[List.length_eraseIdx];split<;>omega)]
def cX.cut{base w b sb p i h}(S:cX base w b sb p i h)(c:Nat)(m:c<256)(g cap n:Nat)(k:i c=lV (qA g) (h c).length cap)(s:n<=(h c).length):cX base (w.setCell ⟨b,2+c,none⟩ (lV (qA g) n cap)) b sb p (bd i c (lV (qA g) n cap)) (aS h c ((h c).take n)):=by
 have q:=S.fL c g m (by rw[k];rfl);have l:∀d,d<256->(bd i c (lV (qA g) n cap) d).ownBlock=(i d).ownBlock:=λd _=>by
  by_cases e:d=c
  .subst e;simp only[bd,U5];rw[k];rfl
  simp only[bd,e,UT]
 refine⟨?_,?_,?_,?_⟩
 .rw[U7 w b (2+c) _ _ (0,0) _ S.ai,Vk w b _ _ _ _ S.ai,Dv _ _ _ _ _ m]
 .intro d f;by_cases e:d=c
  .subst e;simp only[bd,aS,U5];have o:=S.own d f;rw[k] at o;have t:=Fg o s;have r:((h d).take n).length=n:=by rw[UN];omega
   rw[r,DJ];exact cM t λa j=>UL _ _ _ a (by show a≠b;simp[Value.ownBlock] at j;subst j;exact q)
  simp only[bd,aS,e,UT];exact cM (S.own d f) λa j=>UL _ _ _ a (by show a≠b;exact S.fL d a f j)
 .intro d1 d2 a h1 h2 e1 e2;rw[l d1 h1] at e1;rw[l d2 h2] at e2;exact S.sep d1 d2 a h1 h2 e1 e2
 intro d a f e;rw[l d f] at e;exact S.fL d a f e
def jO(b key:yB)(a:List yB):Value:=
 if b.size≠32 then tV #[sV ⟨#[]⟩,iV .i64 2]
 else if 40<key.size\/kC a=true then tV #[sV ⟨#[]⟩,iV .i64 1]
 else rF (jo 81 (bP b.data.toList) (aD key) 0 false a [])
def qZ{r:yL}(h:r.length=32):aA (bP r) 0:=by
 unfold bP;split
 .exact mE 0
 exact⟨trivial,trivial,by show 0<=80;omega,h⟩
def OQ(x:Option yL):∃s c,rF x=tV #[sV s,i6 c]:=by
 cases x with
 |none=>exact⟨_,_,rfl⟩
 |some v=>exact⟨_,_,rfl⟩
def BK(w)(d key:yB)(a)(cap:Nat)(b:List yB)(k:gQ w (lV a b.length cap) b)(q:b.length<=maxLen)(hs:∀p∈b,p.size<=maxLen)(R:key.size<=maxLen)(T:aB w):yC 46 #[sV d,sV key,lV a b.length cap] w λe w'=>e=rV (jO d key b)/\yW w w':=by
 unfold maxLen at R;by_cases h32:d.size=32
 .by_cases h40:40<key.size
  .have j:yH (jO d key b=tV #[sV ⟨#[]⟩,i6 1]):=by show _=_;unfold jO;rw[Ui (by omega),Uj (.inl h40)]
   have F:((d.size:Int) != 32)=false:=by rw[h32];rfl
   have S:(40:Int)<(key.size:Int):=by omega
   clear k q hs T h32 h40;generalize jO d key b=X at*;generalize b.length=N at*;go_enter func46,ntmps46
   go_wp2;go_ret2;rw[j.o];exact⟨rfl,Un _ _⟩
  have r:=aa (Lx w _ b k q hs);have F:((d.size:Int) != 32)=false:=by rw[h32];rfl
  have S:decide ((40:Int)<(key.size:Int))=false:=by simp;omega
  cases hlb:kC b with
  |true=>
   rw[hlb] at r;have j:yH (jO d key b=tV #[sV ⟨#[]⟩,i6 1]):=by show _=_;unfold jO;rw[Ui (by omega),Uj (.inr hlb)]
   clear k q hs T h32 h40 hlb;generalize jO d key b=X at*;generalize b.length=N at*;go_enter func46,ntmps46
   go_wp2_with fail
   apply r.m;rintro e w1⟨rfl,z⟩;subst z;go_wp2;go_ret2;rw[j.o];exact⟨rfl,Un _ _⟩
  |false=>
   rw[hlb] at r;have h96:b.length<=96:=by
    unfold kC at hlb;have:decide (96<b.length)=false:=by
     cases hd:decide (96<b.length) with
     |true=>rw[hd] at hlb;cases hlb
     |false=>rfl
    simpa using this
   have E:d.data.toList.length=32:=by simpa using h32
   have L:yH (yC 29 #[sV d] w (Made w (λ_=>False) (bP d.data.toList))):=by
    have:=CQ w d.data.toList T;rw[gA] at this;exact this
   have K:yH (∀(u:Option Addr) (W:World),yC 79 #[pV u,sV key] W λe w'=>e=rV (gV #[pV u,sV (ae (aD key)),i6 0,bV false])/\yW W w'):=λu W=>vJ u key (by omega) W
   have J:yH (∀n u,At n (bP d.data.toList) (λx=>False\/w.heap.size<=x) (pV u)->yW w n->yC 88 #[gV #[pV u,sV (ae (aD key)),i6 0,bV false],lV a b.length cap] n λe w'=>∃s c,e=rV (tV #[sV s,i6 c])/\yH (tV #[sV s,i6 c]=rF (jo 81 (bP d.data.toList) (aD key) 0 false b [])/\yW w w')):=λn u O f=>by
    refine(Rx n u (bP d.data.toList) _ (aD key) a cap b O (qZ E) (b8 key) (by rw[g6];omega) (T.below f) (λx m=>?_) (λW P=>?_) hs h96).mono λe w' l=>?_
    .have:=T.size;rcases m with h|h
     .exact h.elim
     omega
    .obtain⟨a',M,h1,h2⟩:=k;refine⟨a',M,h1,h2.imp id λ⟨g,o,h3,h4⟩=>⟨g,o,h3,λi p U=>?_⟩⟩;have D:=h4 i p U;have y:=UE w _ D;have Q:W.heap[g]? =w.heap[g]? :=(P.block g (Us y f.size) λm=>by
      rcases m with h|h
      .exact h.elim
      exact absurd y (VK.2 h)).trans (f.block g y)
     exact(Uz (a:=⟨g,o+i,none⟩) Q).trans D
    obtain⟨s,c,G⟩:=OQ (jo 81 (bP d.data.toList) (aD key) 0 false b []);refine⟨s,c,by rw[l.1,G],G.symm,⟨l.2.os.trans f.os,l.2.tape.trans f.tape,l.2.output.trans f.output,Ut f.size l.2.size,λx m=>?_⟩⟩;rw[l.2.block x (Us m f.size) λh=>?_]
    .exact f.block x m
    rcases h with h|h
    .exact h.elim
    omega
   have j:yH (jO d key b=rF (jo 81 (bP d.data.toList) (aD key) 0 false b [])):=by
    show _=_;unfold jO;rw[Ui (by omega),Ui];rintro (h|h)
    .exact h40 h
    rw[hlb] at h;cases h
   clear k q hs T h32 h40 hlb h96 E;generalize jO d key b=X at*;generalize jo 81 (bP d.data.toList) (aD key) 0 false b []=FO at*;generalize bP d.data.toList=TP at*;generalize ae (aD key)=KP at*;generalize b.length=N at*;go_enter func46,ntmps46
   go_wp2_with fail
   apply r.m;rintro e w1⟨rfl,z⟩;subst z;go_wp2_with fail
   apply L.m;rintro e w2⟨u2,rfl,B,C⟩;have v:yH (At w2 TP (λx=>False\/w1.heap.size<=x) (pV u2)/\yW w1 w2):=⟨B,C⟩
   clear B C;go_wp2_with fail
   refine(K.o u2 _).mono ?_;rintro e w3⟨rfl,t⟩;have H:=v.o.2.size;have I:yH (∀o,yC 88 #[gV #[pV u2,sV KP,i6 0,bV false],lV a N cap] (w3.alloc o) λe w'=>∃s c,e=rV (tV #[sV s,i6 c])/\yH (tV #[sV s,i6 c]=rF FO/\yW w1 w')):=λo=>J.o _ u2 ((v.o.1.below t).below ((Un _ _).alloc (Ug _) _)) ((v.o.2.trans (t.mono H)).alloc (by have:=t.size;omega) _)
   clear t H;go_wp2_with fail
   refine(I.o _).mono ?_;rintro e w4⟨s4,c4,rfl,A⟩;go_wp2;go_ret2;rw[j.o,<-A.o.1];exact⟨rfl,A.o.2⟩
 have j:yH (jO d key b=tV #[sV ⟨#[]⟩,i6 2]):=by show _=_;unfold jO;rw[Uj h32]
 have F:((d.size:Int) != 32)=true:=by simp;omega
 clear k q hs T h32;generalize jO d key b=X at*;generalize b.length=N at*;go_enter func46,ntmps46
 go_wp2;go_ret2;rw[j.o];exact⟨rfl,Un _ _⟩
def dt:List bH->yB->Nat
 | [],_=>0
 |p::t,h=>if cD p.1 h then dt t h+1 else 0
def zx:∀(a:List bH) (h),dt a h<=a.length
 | [],_=>Ug _
 |p::t,h=>by
  unfold dt
  have:=zx t h
  simp only[UJ]
  split<;>omega
def NY(a:List bH)(h)(i:Nat)(p:bH)(b:a[i]? =some p)(c:cD p.1 h=true):dt (a.drop i) h=dt (a.drop (i+1)) h+1:=by
 have d:=(Ux.1 b).1;rw[UZ d,(Ux.1 b).2];conv=>lhs;unfold dt
 rw[Uj c]
def NX(b:List bH)(h)(i:Nat)(p:bH)(a:b[i]? =some p)(c:cD p.1 h=false):dt (b.drop i) h=0:=by
 have d:=(Ux.1 a).1;rw[UZ d,(Ux.1 a).2];unfold dt;rw[c];rfl
def fV(a:List bH)(h:yB):Bool:=match a[dt a h]? with
 |some p=>p.1.toList == h.toList
 |none=>false
def Hf{a h}(b:fV a h=true):dt a h<a.length:=by
 unfold fV at b;rcases Nat.lt_or_ge (dt a h) a.length with c|c
 .exact c
 rw[U9 c] at b;cases b
def DC(w)(b:Nat)(h:yB)(hs:0<h.size)(a)(cap:Nat)(d:List bH)(S:xT w b (h[0]'hs).toNat a cap d)(E:d.length<4200000000000):yC 122 #[pV (qA b),sV h] w λe w'=>e=rV (tV #[i6 (dt d h),bV (fV d h)])/\∃n,w'=w.drewN n:=by
 have c0:=S.cell;have B:(h[0]'hs).toNat<256:=(h[0]'hs).toNat_lt;have t:yH (∀k (_:k<d.length),∃p g,a=some ⟨g,0,none⟩/\yc w g (k*2) (sV p)/\(∃q,d[k]? =some (p,q))):=λk z=>by
  have s:d[k]? =some d[k]:=Uh z;obtain⟨g,e,c,_⟩:=S.at_ k _ s;exact⟨_,g,e,c,_,s⟩
 have F:(0:Int)<(h.size:Int):=by omega
 clear S;generalize hN:d.length=N at*;generalize hcc:(h[0]'hs).toNat=C at*;have D:(C:Int)<256:=by omega
 go_enter func122,ntmps122
 go_wp2;go_region
 go_wp2;go_loopg [7] N (λg u wr=>∃k:Nat,g=N - k/\k<=N/\u=i6 k/\yH (dt d h=k+dt (d.drop k) h)/\wr=w.drew)
 .exact⟨0,by omega,by omega,rfl,by show _=_;simp,rfl⟩
 obtain⟨k,r,h1,rfl,m,rfl⟩:=hrel;have v:=aa r;clear r;by_cases A:k<N
 .obtain⟨p,g,rfl,c1,q,j⟩:=t.o k A;have y:(k:Int)<(N:Int):=by omega
  cases hls:Op.bytesLess p.toList h.toList
  .have f:dt d h=k:=by rw[m.o,NX d h k _ j hls];rfl
   have o:=aa f;have i:fV d h=(p.toList == h.toList):=by unfold fV;rw[f,j]
   have l:=aa i;clear f i j;go_wp2;go_region
   go_wp2;go_ret2;exact⟨by rw[o.o,l.o];rfl,2,rfl⟩
  have x:yH (dt d h=(k+1)+dt (d.drop (k+1)) h):=by
   show _=_;rw[m.o,NY d h k _ j hls];omega
  clear j;go_wp2;go_roundg (N - (k+1))
  .exact⟨k+1,rfl,by omega,by go_num,x,rfl⟩
  have:=v.o;omega
 obtain rfl:k=N:=by omega
 have y:¬(k:Int)<(k:Int):=by omega
 have f:dt d h=k:=by rw[m.o,<-hN,List.drop_length];rfl
 have o:=aa f;have i:fV d h=false:=by
  unfold fV;rw[f,U9 (by omega)]
 have l:=aa i;clear f i;go_wp2;go_region
 go_wp2;go_ret2;exact⟨by rw[o.o,l.o];rfl,2,rfl⟩
def Q7:(yP.info? 151).map (λi=>(i.zero,i.size,i.bytes))=some (some (gV #[sV ⟨#[]⟩,pV none]),2,24):=by kernel_rfl
def JN(P:Nat->World->Prop)(w:World)(b sb f:Nat)(d:Nat->Value)(a:Nat->List bH)(c:Nat)(h:yB)(e:Ending)(w':World):Prop:=
 (fV (a c) h=true/\∃p q,(a c)[dt (a c) h]? =some (q,p)/\e=rV (pV p)/\w'.heap=w.heap/\w'.os=w.os/\w'.tape=w.tape/\w'.output=w.output)\/
 (fV (a c) h=false/\∃tb v' w1,e=rV (pV (qA tb))/\P tb w1/\yW w w1/\aU (λk=>k=b\/(d c).ownBlock=some k) w1 w'/\cX 3 w' b sb f (bd d c v') (aS a c ((a c).take (dt (a c) h)++[(h,some ⟨tb,0,none⟩)]++(a c).drop (dt (a c) h)))/\jY w1 (d c) v')
def Mf(P:Nat->World->Prop)(w)(b sb tw:Nat)(vs)(sh:Nat->List bH)(S:cX 3 w b sb tw vs sh)(h A9:yB)(hs:0<h.size)(hn:(sh (h[0]'hs).toNat).length<4000000000000)(h3:3<=w.heap.size)(D7:yH (∀W,W.heap=w.heap->W.os=w.os->W.tape=w.tape->W.output=w.output->yC 11 #[.pointer (some ⟨sb,0,none⟩),.string A9] W λe w'=>∃tb,e=.returned (.tuple #[.pointer (some ⟨tb,0,none⟩),.int .i64 0])/\P tb w'/\Below w.heap.size w w')):yC 95 #[.pointer (some ⟨b,0,none⟩),.string h,.string A9] w (JN P w b sb tw vs sh (h[0]'hs).toNat h):=by
 have hc:(h[0]'hs).toNat<256:=(h[0]'hs).toNat_lt;obtain⟨a,cap,F0,SH⟩:=S.lK _ hc;have D1:yH (yC 122 #[.pointer (some ⟨b,0,none⟩),.string h] w λe w'=>e=.returned (.tuple #[.int .i64 (dt (sh (h[0]'hs).toNat) h),.bool (fV (sh (h[0]'hs).toNat) h)])/\∃n,w'=w.drewN n):=DC w b h hs a cap _ SH (by omega);have C3:=zx (sh (h[0]'hs).toNat) h;have D2:yH (fV (sh (h[0]'hs).toNat) h=true->dt (sh (h[0]'hs).toNat) h<(sh (h[0]'hs).toNat).length):=Hf;have HS:yH (cX 3 w b sb tw vs sh):=S;have G4:(0:Int)<(h.size:Int):=by omega
 obtain⟨R,hR⟩:=yX (JN P w b sb tw vs sh (h[0]'hs).toNat h);have E3:yH (fV (sh (h[0]'hs).toNat) h=true->∀p q W,(sh (h[0]'hs).toNat)[dt (sh (h[0]'hs).toNat) h]? =some (q,p)->W.heap=w.heap->W.os=w.os->W.tape=w.tape->W.output=w.output->R (.returned (.pointer p)) W):=λh0 p q W h1 h2 h3 h4 h5=>by rw[hR];exact .inl ⟨h0,p,q,h1,rfl,h2,h3,h4,h5⟩
 have E4:yH (fV (sh (h[0]'hs).toNat) h=false->∀tb v' w1 W,P tb w1->Below w.heap.size w w1->aU (λk=>k=b\/(vs (h[0]'hs).toNat).ownBlock=some k) w1 W->cX 3 W b sb tw (bd vs (h[0]'hs).toNat v') (aS sh (h[0]'hs).toNat ((sh (h[0]'hs).toNat).take (dt (sh (h[0]'hs).toNat) h)++[(h,some ⟨tb,0,none⟩)]++(sh (h[0]'hs).toNat).drop (dt (sh (h[0]'hs).toNat) h)))->jY w1 (vs (h[0]'hs).toNat) v'->R (.returned (.pointer (some ⟨tb,0,none⟩))) W):=λh0 tb v' w1 W h1 h2 h3 h4 h5=>by rw[hR];exact .inr ⟨h0,tb,v',w1,rfl,h1,h2,h3,h4,h5⟩
 rw[<-hR];suffices hh:yC 95 #[.pointer (some ⟨b,0,none⟩),.string h,.string A9] w (λe w'=>R e w'/\True) from hh.mono λ_ _ h=>h.1
 clear S SH hR F0;generalize fV (sh (h[0]'hs).toNat) h=hit at*;generalize dt (sh (h[0]'hs).toNat) h=k at*;generalize hcc:(h[0]'hs).toNat=c at*;have F9:(c:Int)<256:=by omega
 obtain⟨i0,C1,C5,C6,C7⟩:=Vp Q7;go_enter func95,ntmps95
 go_wp2_with fail
 apply D1.m;rintro e w1⟨rfl,n1,C4⟩;have A1:yH (w1.heap=w.heap/\w1.os=w.os/\w1.tape=w.tape/\w1.output=w.output):=by rw[C4];exact⟨rfl,rfl,rfl,rfl⟩
 have S1:cX 3 w1 b sb tw vs sh:=HS.o.same A1.o.1;clear C4;cases hit
 .have B6:=D7.o w1 A1.o.1 A1.o.2.1 A1.o.2.2.1 A1.o.2.2.2;have D6:yH (yC 11 #[.pointer (some ⟨sb,0,none⟩),.string A9] w1 λe w'=>∃tb,e=.returned (.tuple #[.pointer (some ⟨tb,0,none⟩),.int .i64 0])/\P tb w'/\Below w.heap.size w w'):=B6;have d00:w1.cell? ⟨b,0,none⟩=some (.pointer (some ⟨sb,0,none⟩)):=by rw[Ur w1 b 0 _ _ _ S1.ai];exact Dx _ _ _
  clear B6 S1;go_wp2_with fail
  apply D6.m;rintro e w2⟨tb,rfl,B9,A5⟩;have F1:=A5.size;have S2:cX 3 w2 b sb tw vs sh:=by
   refine⟨(A5.block b (Um.1 HS.o.ai).1).trans HS.o.ai,λd hd=>cM (HS.o.own d hd) λg hg=>A5.block g ((HS.o.own d hd).lt g hg).2,HS.o.sep,HS.o.fL⟩
  have E0:yH (P tb w2):=B9;have C9:yH (Below w.heap.size w w2):=A5;have C0:b<w2.heap.size:=(Um.1 S2.ai).1;have c0:w2.cell? ⟨b,2+c,none⟩=some (vs c):=by rw[Ur w2 b (2+c) _ _ _ S2.ai];exact tB _ _ _ _ hc
  have E7:(w2.alloc (.cells #[.string ⟨#[]⟩,.pointer none] 151)).cell? ⟨b,2+c,none⟩=some (vs c):=by
   rw[Uz (w:=w2) (U6 _ _ _ C0)];exact c0
  have D8:yH (w2.ownsRow 3 151 2 (vs c) (sh c).length (iA (sh c))):=S2.own c hc;have C8:yH (∀g5 A0 w5,w5.ownsRow 3 151 2 (.slice (some ⟨g5,0,none⟩) ((sh c).length+1) A0) ((sh c).length+1) (iA (sh c)++[.string ⟨#[]⟩,.pointer none])->(w2.drew.alloc (.cells #[.string ⟨#[]⟩,.pointer none] 151)).grownBy w5 (vs c).ownBlock->
   ((vs c).ownBlock=some g5\/g5=w2.heap.size+1)->
   yH (cX 3 (w5.setCell ⟨b,2+c,none⟩ (.slice (some ⟨g5,0,none⟩) ((sh c).length+1) A0)) b sb tw (bd vs c (.slice (some ⟨g5,0,none⟩) ((sh c).length+1) A0)) (aS sh c (sh c++[(⟨#[]⟩,none)]))/\aU (λk=>k=b\/(vs c).ownBlock=some k) w2 (w5.setCell ⟨b,2+c,none⟩ (.slice (some ⟨g5,0,none⟩) ((sh c).length+1) A0))/\((vs c).ownBlock=some g5\/w2.heap.size<=g5))/\
    w5.cell? ⟨b,2+c,none⟩=some (vs c)/\w5.frozen? ⟨b,2+c,none⟩=false):=by
   intro g5 A0 w5 ho hg ha;have hl:(sh c++[((⟨#[]⟩:yB),(none:Option Addr))]).length=(sh c).length+1:=by simp
   have:=S2.grown c hc _ (sh c++[(⟨#[]⟩,none)]) g5 A0 w5 (by rw[hl,Mh];exact ho) hg ha;rw[hl] at this;obtain⟨h1,h2,h3,_⟩:=this;refine⟨⟨h2,h3,?_⟩,by rw[Ur w5 b (2+c) _ _ _ h1];exact tB _ _ _ _ hc,US w5 b (2+c) _ _ h1⟩;rcases ha with ha|ha
   .exact .inl ha
   exact .inr (by omega)
  clear S2 B9 A5 d00;go_upto_region 5 with fail
  go_cut [] (λwx=>∃g5 A0,yH (cX 3 wx b sb tw (bd vs c (.slice (some ⟨g5,0,none⟩) ((sh c).length+1) A0)) (aS sh c (sh c++[(⟨#[]⟩,none)])))/\yH (aU (λk=>k=b\/(vs c).ownBlock=some k) w2 wx)/\yH ((vs c).ownBlock=some g5\/w2.heap.size<=g5))
  .go_region_law (refine step_append_lies _ rfl (.tmp 49) (.tmp 51) 95 rfl 3 151 i0 (.agg #[.string ⟨#[]⟩,.pointer none]) 2 24 underlying95 C1 C5 C6 C7 rfl (by decide) (vs c) (sh c).length (iA (sh c)) (by simp[Act.eval]) (D8.o.drew.alloc _) ⟨w2.heap.size,0,none⟩ 1 1 [.string ⟨#[]⟩,.pointer none] (by simp[Act.eval]) rfl (vC _ _ _ _ rfl) (by intro u hu;simp at hu;rcases hu with rfl|rfl<;>rfl) (by omega) (by unfold maxLen;omega) (by omega) (by simp;omega) _ rfl ?_;intro g5 A0 w5 hown5 hgr5 hat5 hlt5;obtain⟨HF5,e3,g3⟩:=C8.o g5 A0 w5 hown5 hgr5 (by simpa using hat5);clear hown5 hgr5 hat5 hlt5)
   all_goals
    go_wp2;go_meet;exact⟨g5,A0,HF5.o.1,HF5.o.2.1,HF5.o.2.2⟩
  obtain⟨g5,A0,HP,HW,A3⟩:=hcut;clear c0 E7;obtain⟨N,hN⟩:=yX ((sh c).length);obtain⟨L,hL⟩:=yX (sh c++[((⟨#[]⟩:yB),(none:Option Addr))]);have B8:L.length=N+1:=by rw[hL,hN];simp
  obtain⟨V,hV⟩:=yX (bd vs c (.slice (some ⟨g5,0,none⟩) (N+1) A0));have B3:V c=.slice (some ⟨g5,0,none⟩) (N+1) A0:=by rw[hV];simp[bd]
  rw[<-hN,<-hL,<-hV] at HP;have d0:wc.cell? ⟨b,2+c,none⟩=some (.slice (some ⟨g5,0,none⟩) (N+1) A0):=by
   rw[Ur wc b (2+c) _ _ _ HP.o.ai,tB _ _ _ _ hc,B3]
  have A2:yH (L.length=N+1):=B8;have B1:yH (V c=.slice (some ⟨g5,0,none⟩) (N+1) A0):=B3;have D0:yH (∀W,cX 3 W b sb tw V (aS sh c ((fb L N (N - k)).set k (h,some ⟨tb,0,none⟩)))->aU (λk=>k=b\/(vs c).ownBlock=some k) w2 W->R (.returned (.pointer (some ⟨tb,0,none⟩))) W):=λW h1 h2=>by
   rw[hV,hL,hN,Lj _ _ _ _ C3] at h1;exact E4.o (by trivial) tb _ w2 W E0.o C9.o h2 h1 λg hg=>by simp[Value.ownBlock] at hg;subst hg;exact A3.o
  have D5:yH (∀W j,cX 3 W b sb tw V (aS sh c (fb L N j))->∀i p,(fb L N j)[i]? =some p->W.cell? ⟨g5,i*2,none⟩=some (.string p.1)/\W.cell? ⟨g5,i*2+1,none⟩=some (.pointer p.2)/\W.frozen? ⟨g5,i*2,none⟩=false/\W.frozen? ⟨g5,i*2+1,none⟩=false):=λW j h=>by
   have ho:=h.own c hc;simp only[aS,U5] at ho;have A8:(V c).ownBlock=some g5:=by rw[B1.o];rfl
   refine λi p hp=>?_
   obtain⟨p1,p2⟩:=vL _ i p hp;exact⟨fc ho A8 _ _ p1,fc ho A8 _ _ p2,kZ ho A8 _,kZ ho A8 _⟩
  have E2:yH (∀W j p,j<N->L[N - j - 1]? =some p->cX 3 W b sb tw V (aS sh c (fb L N j))->cX 3 ((W.setCell ⟨g5,(N - j)*2,none⟩ (.string p.1)).setCell ⟨g5,(N - j)*2+1,none⟩ (.pointer p.2)) b sb tw V (aS sh c (fb L N (j+1)))):=λW j p hj hp h=>by
   have:=h.put c hc g5 (by rw[B1.o];rfl) (N - j) p;have e:aS (aS sh c (fb L N j)) c ((aS sh c (fb L N j) c).set (N - j) p)=aS sh c (fb L N (j+1)):=by
    funext d
    by_cases hd:d=c
    .simp only[aS,hd,U5];show(fb L N j).set (N - j) p=(fb L N j).set (N - j) (L.getD (N - j - 1) _);rw[Up,hp];rfl
    simp only[aS,hd,UT]
   rw[e] at this;exact this
  have D3:yH (∀W,cX 3 W b sb tw V (aS sh c (fb L N (N - k)))->cX 3 ((W.setCell ⟨g5,k*2,none⟩ (.string h)).setCell ⟨g5,k*2+1,none⟩ (.pointer (some ⟨tb,0,none⟩))) b sb tw V (aS sh c ((fb L N (N - k)).set k (h,some ⟨tb,0,none⟩)))):=λW hW=>by
   have:=hW.put c hc g5 (by rw[B1.o];rfl) k (h,some ⟨tb,0,none⟩);have e:aS (aS sh c (fb L N (N - k))) c ((aS sh c (fb L N (N - k)) c).set k (h,some ⟨tb,0,none⟩))=aS sh c ((fb L N (N - k)).set k (h,some ⟨tb,0,none⟩)):=by
    funext d
    by_cases hd:d=c
    .simp only[aS,hd,U5]
    simp only[aS,hd,UT]
   rw[e] at this;exact this
  have D9:yH (cX 3 wc.drew b sb tw V (aS sh c (fb L N 0))):=HP.o.same rfl;have E5:yH (aU (λk=>k=b\/(vs c).ownBlock=some k) w2 wc.drew):=⟨HW.o.os,HW.o.tape,HW.o.output,HW.o.size,HW.o.block⟩
  have G1:k<=N:=by omega
  have F7:N<4000000000000:=by omega
  clear hV hL hN B3 B8 C3 hn HP HW C1 C5 C6 C7 C0 F1;go_wp2;go_region
  go_wp2;clear d0;go_loopg [12] (N - k) (λg r wr=>∃j:Nat,g=N - k - j/\j<=N - k/\r=.int .i64 ((N:Int) - (j:Int))/\yH (cX 3 wr b sb tw V (aS sh c (fb L N j)))/\yH (aU (λq=>q=b\/(vs c).ownBlock=some q) w2 wr))
  .exact⟨0,rfl,by omega,by go_num,D9,E5⟩
  obtain⟨j,hg,hj,rfl,B0,B7⟩:=hrel;have HG:yH (gk=N - k - j):=hg;clear hg;have A4:=D5.o wr j B0.o;by_cases G3:j<N - k
  .obtain⟨M,hM⟩:=yX (N - j);have E9:(N:Int) - (j:Int)=(M:Int):=by omega
   obtain⟨Q,hQ⟩:=yX (N - j - 1);have F4:(M:Int) - 1=(Q:Int):=by omega
   have B4:L[N - j - 1]? =some (L[N - j - 1]'(by rw[A2.o];omega)):=Uh _;have C2:(fb L N j)[N - j - 1]? =L[N - j - 1]? :=yr L N j _ (by omega);have A6:(fb L N j)[N - j]? =some ((fb L N j)[N - j]'(by rw[pT,A2.o];omega)):=Uh _;obtain⟨s1,s2,_,_⟩:=A4 _ _ (C2.trans B4);obtain⟨t1,t2,t3,t4⟩:=A4 _ _ A6;have B5:=E2.o wr j _ (by omega) B4 B0.o;generalize L[N - j - 1]'(by rw[A2.o];omega)=p at*;generalize (fb L N j)[N - j]'(by rw[pT,A2.o];omega)=pu at*;rw[<-hM] at t1 t2 t3 t4 B5;rw[<-hQ] at s1 s2;rw[E9];have E1:yH (cX 3 ((wr.setCell ⟨g5,M*2,none⟩ (.string p.1)).setCell ⟨g5,M*2+1,none⟩ (.pointer p.2)) b sb tw V (aS sh c (fb L N (j+1)))):=B5;have F8:(k:Int)<(M:Int):=by omega
   have F5:(M:Int)<(N:Int)+1:=by omega
   have F6:(Q:Int)<(N:Int)+1:=by omega
   have G5:IntKind.i64.wrap (Q:Int)=(Q:Int):=by rw[UY];omega
   have G6:IntKind.i64.wrap (M:Int)=(M:Int):=by rw[UY];omega
   have D4:yH (M=N - j):=hM;have E6:yH (aU (λq=>q=b\/(vs c).ownBlock=some q) w2 ((wr.setCell ⟨g5,M*2,none⟩ (.string p.1)).setCell ⟨g5,M*2+1,none⟩ (.pointer p.2))):=
    aU.set (w':=wr.setCell ⟨g5,M*2,none⟩ (.string p.1)) (aU.set (w':=wr) B7.o ⟨g5,M*2,none⟩ _ (A3.o.elim (λh=>.inl (.inr h)) .inr)) ⟨g5,M*2+1,none⟩ _ (A3.o.elim (λh=>.inl (.inr h)) .inr)
   clear B4 C2 A6 B5 A4 hQ hM;go_wp2;go_roundg (N - k - (j+1))
   .exact⟨j+1,rfl,by omega,by have:=D4.o;go_num,E1,E6⟩
   have:=HG.o;omega
  obtain rfl:j=N - k:=by omega
  have E8:(N:Int) - ((N - k:Nat):Int)=(k:Int):=by omega
  rw[E8];have F3:¬(k:Int)<(k:Int):=by omega
  have A6:(fb L N (N - k))[k]? =some ((fb L N (N - k))[k]'(by rw[pT,A2.o];omega)):=Uh _;obtain⟨t1,t2,t3,t4⟩:=A4 _ _ A6;have G2:(k:Int)<(N:Int)+1:=by omega
  have HF:yH (R (.returned (.pointer (some ⟨tb,0,none⟩))) ((wr.setCell ⟨g5,k*2,none⟩ (.string h)).setCell ⟨g5,k*2+1,none⟩ (.pointer (some ⟨tb,0,none⟩)))):=D0.o _ (D3.o wr B0.o) (aU.set (w':=wr.setCell ⟨g5,k*2,none⟩ (.string h)) (aU.set (w':=wr) B7.o ⟨g5,k*2,none⟩ _ (A3.o.elim (λh=>.inl (.inr h)) .inr)) ⟨g5,k*2+1,none⟩ _ (A3.o.elim (λh=>.inl (.inr h)) .inr));clear A4 A6;generalize (fb L N (N - k))[k]'(by rw[pT,A2.o];omega)=pu at*;go_wp2;exact HF.o
 have A7:=D2.o rfl;have hp:(sh c)[k]? =some ((sh c)[k]'A7):=Uh A7;obtain⟨a1,F2,_,B2⟩:=S1.lK c hc;obtain⟨g,rfl,x1,x2⟩:=B2.at_ k _ hp;have x0:=B2.cell;have HF:yH (R (.returned (.pointer ((sh c)[k]'A7).2)) w1.drew):=E3.o (by trivial) _ _ _ hp A1.o.1 A1.o.2.1 A1.o.2.2.1 A1.o.2.2.2;have G0:(k:Int)<((sh c).length:Int):=by omega
 clear S1 B2 hp;generalize (sh c)[k]'A7=pp at*;generalize (sh c).length=M at*;go_wp2;go_region
 go_wp2;go_ret;exact⟨HF.o,trivial⟩
end Go.Proofs.YteaodagofkcgbaaGreatDoor
