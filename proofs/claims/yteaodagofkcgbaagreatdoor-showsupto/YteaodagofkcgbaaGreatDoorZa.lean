import Derived.Test.YteaodagofkcgbaaGreatDoorZ
open Go.Proofs.Tryz
open Go.Proofs.Tryz renaming prog→yP
open Go.Value renaming string→sV,pointer→pV,int→iV,slice→lV,bool→bV,tuple→tV,agg→gV
open Go.Ending renaming returned→rV
namespace Go.Proofs.YteaodagofkcgbaaGreatDoor
open Go.RowKit
set_option maxRecDepth 100000
set_option maxHeartbeats 0
set_option linter.all false
def Gg{a b}(h:∀k,ah a k=ah b k)(x):gn a x=gn b x:=by
 by_cases e:∃k,x=aD k
 .obtain⟨k,rfl⟩:=e;rw[ql,ql];unfold bD;rw[h]
 rw[wV (λp _ q=>e ⟨_,q.symm⟩),wV (λp _ q=>e ⟨_,q.symm⟩)]
def Nb{a b}(c:cT a)(d:cT b)(h:∀k,ah a k=ah b k):cY a=cY b:=by
 have h1:=(jV c 1).congr λx _=>Gg h x
 have h2:=jV d 1;unfold cY;rw[(h1.one h2 (λ_=>True)).root h1.ok.aK h2.ok.aK]
def wm{a b}(d:cT a)(e:cT b)(h:∀k,ah a k=ah b k){key:yB}(c:key.size<=40):aQ bj (aR a 1) key=aQ bj (aR b 1) key:=by
 have h1:=(jV d 1).congr λx _=>Gg h x
 have h2:=jV e 1;rw[p8 h1.all c,p8 h2.all c];exact yn 81 _ _ _ 0 h1.ok.aK (h1.one h2 (λ_=>True)) (nT h1.all (b8 key)) (b8 key) (.inl rfl)
def uV(m:Mp)(L:List (yB×yB)):Prop:=cT L/\∀h,ah L h=(m h).map λa=>ir (eo a)
def oE(m:List (yB×yB))(c:yL):Prop:=∃p∈m,c∈aQ bj (aR m 1) p.1
def KS(W:yL->Prop):∀(t) (d f:Nat),aA t d->bL t->(∀x,aw x->aM t x≠[]->x.length+1<=f/\∀c∈dS f t x d,W c)->gX W t:=by
 intro t;induction t with
 |nil=>intro d f _ _ _;trivial
 |unread h=>intro d f _ h;exact h.elim
 |leaf h p v=>
  intro d f a j g o;let⟨h1,h2⟩:=g p a.aK.2.1 (by rw[lr,Uj rfl];exact a.bB);cases f with
  |zero=>omega
  |succ f=>refine h2 _ ?_;show _∈(if(Nd.leaf h p v).isNil=true then [] else dm _ d++_);rw[Ui (by simp[Nd.isNil])];refine UR _ ?_;unfold dm;rw[Uj (.inr o)];exact Uo.2 rfl
 |ext h p k ih=>
  intro d f a j g;have u:=fq a;have y:k.some:=by
   have:=a.bB.2.1;cases k with
   |nil=>exact this.elim
   | _=>trivial
  let⟨x0,r,n⟩:=ri k _ u j y;have s:∀x,aw x->aM k x≠[]->x.length+1+p.length<=f/\∀c∈dS f (.ext h p k) (p++x) d,W c:=λx q m=>by
   have:=g (p++x) (λc b=>(UA.1 b).elim (a.aK.2.1 c) (q c)) (by rwa[lu]);rw[Uq] at this;exact⟨by omega,this.2⟩
  have A:p.length≠0:=λe=>a.bB.1 (UH.1 e)
  cases f with
  |zero=>have:=(s x0 r n).1;omega
  |succ f=>
   have w:∀x,dS (f+1) (.ext h p k) (p++x) d=dm (.ext h p k) d++dS f k x (d+p.length):=λx=>by
    show(if(Nd.ext h p k).isNil=true then [] else dm _ d++dS f (ay (.ext h p k) (p++x) d).1 (ay (.ext h p k) (p++x) d).2.1 (ay (.ext h p k) (p++x) d).2.2.1)=_;rw[Ui (by simp[Nd.isNil])];have e:ay (.ext h p k) (p++x) d=(k,x,d+p.length,true):=by
     show(if aF p (p++x)=p.length then _ else _)=_;rw[Uj (vN p x),List.drop_left]
    rw[e]
   refine⟨λo=>?_,ih (d+p.length) f u j λx q m=>?_⟩
   .refine(s x0 r n).2 _ ?_;rw[w];refine UR _ ?_;unfold dm;rw[Uj (.inr o)];exact Uo.2 rfl
   let⟨h1,h2⟩:=s x q m;refine⟨by omega,λc b=>h2 c ?_⟩;rw[w];exact UP _ b
 |branch h v ks ih=>
  intro d f a j g;let⟨x0,r,n⟩:=ri (.branch h v ks) d a j trivial;have z:1<=f:=by have:=(g x0 r n).1;omega
  cases f with
  |zero=>omega
  |succ f=>
   refine⟨λo=>?_,λi hi=>ih i (d+1) f (dA a i hi) (j i hi) λx q m=>?_⟩
   .refine(g x0 r n).2 _ ?_;show _∈(if(Nd.branch h v ks).isNil=true then [] else dm _ d++_);rw[Ui (by simp[Nd.isNil])];refine UR _ ?_;unfold dm;rw[Uj (.inr o)];exact Uo.2 rfl
   have b:(UInt8.ofNat i).toNat=i:=UInt8.toNat_ofNat_of_lt' (by show i<256;omega);let⟨h1,h2⟩:=g (UInt8.ofNat i::x) (λc l=>by
    rcases UC.1 l with rfl|l
    .rwa[b]
    exact q c l) (by show aM (ks (UInt8.ofNat i).toNat) x≠[];rwa[b])
   rw[UJ] at h1;refine⟨by omega,λc l=>h2 c ?_⟩;show c∈(if(Nd.branch h v ks).isNil=true then [] else dm _ d++dS f (ks (UInt8.ofNat i).toNat) x (d+1));rw[Ui (by simp[Nd.isNil]),b];exact UP _ l
def Ln{m}(h:cT m):gX (oE m) (aR m 1)/\((aR m 1).read->oE m (aR m 1).code):=by
 have f:=jV h 1;have g:=xJ m 1;have i:∀x,aw x->aM (aR m 1) x≠[]->∃p∈m,x=aD p.1:=λx d b=>by
  rw[f.find x d] at b;refine Vn λn=>b (wV λp a e=>n ⟨p,a,e.symm⟩)
 have j:∀p∈m,aQ bj (aR m 1) p.1=dS 81 (aR m 1) (aD p.1) 0:=λp a=>p8 g (h.size p a).1
 refine⟨KS _ _ 0 81 f.ok g λx d b=>?_,λk=>?_⟩
 .obtain⟨p,a,rfl⟩:=i x d b;refine⟨by rw[g6];have:=(h.size p a).1;omega,λc l=>⟨p,a,?_⟩⟩;rwa[j p a]
 have hs:(aR m 1).some:=by cases hb:aR m 1<;>rw[hb] at k<;>first|exact k.elim|trivial
 let⟨x,d,b⟩:=ri _ 0 f.ok g hs;obtain⟨p,a,rfl⟩:=i x d b;refine⟨p,a,?_⟩;rw[j p a];show _∈(if(aR m 1).isNil=true then [] else dm _ 0++_);rw[Ui (by rw[(gM _).2 hs];simp)];refine UR _ ?_;unfold dm;rw[Uj (.inl rfl)];exact Uo.2 rfl
def gX.both{Q R}:∀{t},gX Q t->gX R t->gX (λc=>Q c/\R c) t:=by
 intro t;induction t with
 |nil=>intro _ _;trivial
 |unread _=>intro _ _;trivial
 |leaf h p v=>exact λh1 h2 a=>⟨h1 a,h2 a⟩
 |ext h p k ih=>exact λh1 h2=>⟨λa=>⟨h1.1 a,h2.1 a⟩,ih h1.2 h2.2⟩
 |branch h v ks ih=>exact λh1 h2=>⟨λa=>⟨h1.1 a,h2.1 a⟩,λi hi=>ih i (h1.2 i hi) (h2.2 i hi)⟩
def EV{Q}:∀{t F},aO t->cW t->Part Q t F->t.hash=F.hash->gX (λc=>c∈cf t false\/Q c) F:=by
 have j:∀{n F:Nd},aO n->n.read->n.hash=fX n.code->Part Q n F->n.hash=F.hash->F.hash≠[]->F.code∈iO n.code false:=λ{n F} d hr hh b g e=>by
  have h32:32<=n.code.length:=by rw[<-g,hh] at e;exact(Hv e).2
  rw[<-b.code d hr];unfold iO;rw[Uj (.inr h32)];exact Uo.2 rfl
 intro t;induction t with
 |nil=>intro F _ _ h _;rw[show F=.nil from h];trivial
 |unread x=>intro F _ _ h _;exact h.2.2.2.mono λc a=>.inr a
 |leaf h p v=>intro F d f b g;obtain⟨l,rfl⟩:=id b;exact λe=>.inl (j d trivial f b g e)
 |ext h p k ih=>
  intro F d f b g;obtain⟨l,m,rfl,h1,h2⟩:=id b;refine⟨λe=>.inl (UP _ (j d trivial f.1 b g e)),(ih d.2.2.2.2 f.2 h1 h2).mono λc a=>?_⟩;rcases a with a|a
  .exact .inl (UR _ a)
  exact .inr a
 |branch h v ks ih=>
  intro F d f b g;obtain⟨l,o,rfl,h1⟩:=id b;refine⟨λe=>.inl (UP _ (j d trivial f.1 b g e)),λi hi=>(ih i (d.2.2 i hi) (f.2 i hi) (h1 i hi).1 (h1 i hi).2).mono λc a=>?_⟩;rcases a with a|a
  .exact .inl (UR _ (List.mem_flatMap.2 ⟨i,Vq.2 hi,a⟩))
  exact .inr a
def Oq{Q t F}(e:aO t)(j:bK t)(d:Part Q t F):gX (λc=>c∈cf t true\/Q c) F/\(F.read->F.code∈cf t true\/Q F.code):=by
 have f:t.read->F.code∈iO t.code true:=λl=>by
  rw[<-d.code e l];unfold iO;rw[Uj (.inl rfl)];exact Uo.2 rfl
 cases t with
 |nil=>rw[show F=.nil from d];exact⟨trivial,λh=>h.elim⟩
 |unread x=>exact⟨d.2.2.2.mono λc a=>.inr a,λ_=>.inr d.2.2.1⟩
 |leaf h p v=>have b:=f trivial;obtain⟨g,rfl⟩:=id d;exact⟨λ_=>.inl b,λ_=>.inl b⟩
 |ext h p k=>
  have b:=f trivial;obtain⟨g,m,rfl,h1,h2⟩:=id d;refine⟨⟨λ_=>.inl (UP _ b),(EV e.2.2.2.2 j h1 h2).mono λc a=>?_⟩,λ_=>.inl (UP _ b)⟩;rcases a with a|a
  .exact .inl (UR _ a)
  exact .inr a
 |branch h v ks=>
  have b:=f trivial;obtain⟨g,n,rfl,h1⟩:=id d;refine⟨⟨λ_=>.inl (UP _ b),λi hi=>(EV (e.2.2 i hi) (j i hi) (h1 i hi).1 (h1 i hi).2).mono λc a=>?_⟩,λ_=>.inl (UP _ b)⟩;rcases a with a|a
  .exact .inl (UR _ (List.mem_flatMap.2 ⟨i,Vq.2 hi,a⟩))
  exact .inr a
def LD{Q R F c}(d:aO F)(e:bL F)(a:Part Q F c)(j:gX R F)(m:F.read->R F.code):gX R c:=by
 have f:F.read->R c.code:=λl=>by rw[<-a.code d l];exact m l
 cases F with
 |nil=>rw[show c=.nil from a];trivial
 |unread _=>exact e.elim
 |leaf h p v=>have b:=f trivial;obtain⟨g,rfl⟩:=id a;exact λ_=>b
 |ext h p k=>have b:=f trivial;obtain⟨g,n,rfl,h1,h2⟩:=id a;exact⟨λ_=>b,h1.texts d.2.2.2.2 e h2 j.2⟩
 |branch h v ks=>have b:=f trivial;obtain⟨g,o,rfl,h1⟩:=id a;exact⟨λ_=>b,λi hi=>(h1 i hi).1.texts (d.2.2 i hi) (e i hi) (h1 i hi).2 (j.2 i hi)⟩
def Fq{G t u}(h:eI G t=false)(c:G (ag t)=some u)(b:ag u=ag t):u=t:=by
 have a:(!(u.toList == t.toList) && ((ag u).toList == (ag t).toList))=false:=by
  unfold eI at h;rwa[c] at h
 rw[b] at a;simp only[dV,decide_true,Bool.and_true] at a;simpa using a
def Bv{l n}(h:bY l n=false)(i j:Nat)(x y)(hi:i<n)(c:j<i)(f:l[i]? =some x)(g:l[j]? =some y)(b:ag x=ag y):x=y:=by
 induction n with
 |zero=>exact absurd hi (Nat.not_lt_zero _)
 |succ n ih=>
  have a:(bY l n || (match l[n]? with|some x=>gE l x n|none=>false))=false:=h;rw[Bool.or_eq_false_iff] at a;by_cases e:i=n
  .have h2:=a.2;rw[<-e,f] at h2;have h3:((l.take i).any λy=>((ag x).toList == (ag y).toList) && !(x.toList == y.toList))=false:=h2;rw[List.any_eq_false] at h3;have d:y∈l.take i:=by
    refine UQ (i:=j) ?_;rwa[Vv,Uj c]
   have h4:=h3 y d;rw[b] at h4;simp only[dV,decide_true,Bool.true_and] at h4;simpa using h4
  exact ih a.1 (by omega)
def SF{F:Nd}(b:F.read):F.code≠[128]:=by
 have key:∀a:yL,gZ a≠[128]:=λa e=>by
  unfold gZ cV at e;split at e
  .next hb=>
   injection e with e1 e2;have:(UInt8.ofNat (192+a.length)).toNat=128:=by rw[e1];rfl
   rw[UInt8.toNat_ofNat_of_lt' (by show 192+a.length<256;omega)] at this;omega
  have:=congrArg List.length e;simp only[Uq,UJ,List.length_nil] at this;omega
 cases F with
 |nil=>exact b.elim
 |unread _=>exact b.elim
 |leaf h p v=>exact λe=>key _ (by rwa[<-kI 5])
 |ext h p k=>exact λe=>key _ (by rwa[<-kI 5])
 |branch h v ks=>exact λe=>key _ (by rwa[<-kI 5])
def El{F}(b:aO F)(a:F.read):bQ F=fe F.code:=by
 have hs:F.some:=by cases F<;>first|exact a.elim|trivial
 rw[nQ hs];by_cases e:F.hash=[]
 .rw[Uj e]
 rw[Ui e];rcases b.Hu a with h|h
 .unfold fX at h;split at h
  .exact h
  exact absurd h e
 exact h
def dI.laid{a L B t m}(h:dI a B t m)(d:∀c,B c->eI (ah (aT a L)) (ae c)=false):dI (aT a L) B t m:=by
 let⟨h0,F,h1,h2⟩:=h;refine⟨h0,F,h1,h2.mono λc b=>⟨b.1,?_⟩⟩;rcases wT L a (ag (ae c)) with⟨e,_⟩|⟨f,_,e1,e2⟩
 .rw[e];exact b.2
 rwa[Fq (d c b.1) e1 e2] at e1
def dI.again{a L B d t m}(h:dI a B t m)(o:aA t 0)(p:bK t)(r:∀c∈cf t true,c∈L)(n:∀c,B c->eI (ah (aT a L)) (ae c)=false)(k:∀c,oE m c->d c/\eI (ah (aT a L)) (ae c)=false)(q:m≠[]->cY m≠ae bM):dI (aT a L) d (bP (cY m).data.toList) m:=by
 let⟨h0,F,h1,h2⟩:=h.laid n;have b:=jV h0 1;let⟨w1,w2⟩:=Ln h0;let⟨r1,r2⟩:=Oq o.aK p h2;have g:Part (λ_=>True) F (aR m 1):=h1.one b _;have r3:=LD h1.ok.aK h1.all g r1 r2;have l:∀c,(c∈cf t true\/QB (aT a L) B c)/\oE m c->QB (aT a L) d c:=λc f=>by
  refine⟨(k c f.2).1,?_⟩;rcases f.1 with h|h
  .rcases wT L a (ag (ae c)) with⟨_,e⟩|⟨u,_,e1,e2⟩
   .exact absurd rfl (e c (r c h))
   rwa[Fq (k c f.2).2 e1 e2] at e1
  exact h.2
 refine⟨h0,aR m 1,b,?_⟩;unfold cY;rw[nC];by_cases hs:(aR m 1).some
 .have i:=b.all.read hs;have j:=h1.all.read (g.same.2 hs);have s:bQ (aR m 1)≠bM:=λe=>q (λe0=>by rwa[e0] at hs) (by unfold cY;rw[e])
  unfold bP;rw[Ui s];exact⟨i,El b.ok.aK i,l _ ⟨by have:=r2 j;rwa[g.code h1.ok.aK j] at this,w2 i⟩,(r3.both w1).mono l⟩
 have e1:aR m 1=.nil:=by cases hb:aR m 1<;>rw[hb] at hs<;>first|rfl|exact absurd trivial hs
 rw[e1];unfold bP;rw[Uj (show bQ .nil=bM from rfl)];rfl
def dE(base:Nat)(w:World)(v:Value)(q:List yB):Prop:=∃a cap,v=lV a q.length cap/\q.length<=cap/\((a=none/\cap=0)\/∃g o,a=some ⟨g,o,none⟩/\base<=g/\g<w.heap.size/\∀i p,q[i]? =some p->w.cell? ⟨g,o+i,none⟩=some (sV p))
def dE.texts{base w v q}(h:dE base w v q):gQ w v q:=by
 obtain⟨a,cap,rfl,b,h|⟨g,o,h1,_,_,h4⟩⟩:=h
 .exact⟨a,cap,rfl,.inl (UH.1 (by omega))⟩
 exact⟨a,cap,rfl,.inr ⟨g,o,h1,h4⟩⟩
def dE.below{base w w' v q}(h:dE base w v q)(b:yW w w'):dE base w' v q:=by
 obtain⟨a,cap,rfl,c,h|⟨g,o,h1,h2,h3,h4⟩⟩:=h
 .exact⟨a,cap,rfl,c,.inl h⟩
 exact⟨a,cap,rfl,c,.inr ⟨g,o,h1,h2,Us h3 b.size,λi p d=>eg b (h4 i p d)⟩⟩
def nS{w:World}{base v}{l:List yB}(h:w.ownsRow base 9 1 v l.length (l.map Value.string)):dE base w v l:=by
 obtain⟨a,cap,rfl,b,_,f⟩:=dM h;refine⟨a,cap,rfl,b,?_⟩;rcases f with⟨h1,h0,h2⟩|⟨g,rfl⟩
 .exact .inl ⟨h1,h2⟩
 exact .inr ⟨g,0,rfl,(h.lt g rfl).1,(h.lt g rfl).2,λi p c=>by
  rw[Vj];exact fc h rfl i _ (by rw[UK,c];rfl)⟩
def MW{w:World}{g base}{cs:List yB}(h:w.heap[g]? =some (.cells (cs.map Value.string).toArray 9 (0,0)))(a:base<=g)(b:cs.length<=maxLen):w.ownsRow base 9 1 (lV (qA g) cs.length cs.length) cs.length (cs.map Value.string):=
 ⟨by simp,.inr ⟨g,cs.length,_,rfl,a,h,Ug _,b,by simp,by rw[Nat.mul_one];exact U4 (by simp)⟩⟩
def Me(n:Nat)(z)(cs:List Value)(h:cs.length=n):splice (List.replicate n z) 0 cs=cs:=by
 subst h;simp[splice]
def GX:(yP.info? 9).map (·.size)=some 1:=by
 let⟨i,hi,_,h,_⟩:=Vp oo;rw[hi];exact congrArg some h
def R4{w:World}{base g cap i}{cs:List yB}(h:w.ownsRow base 9 1 (lV (qA g) cs.length cap) cs.length (cs.map Value.string))(hi:i<cs.length):dE base w (lV (some ⟨g,i,none⟩) (cs.length - i) (cap - i)) (cs.drop i):=by
 let⟨_,_,e,b,_,_⟩:=dM h;cases e;refine⟨_,_,by rw[Uu],by rw[Uu];omega,.inr ⟨g,i,rfl,(h.lt g rfl).1,(h.lt g rfl).2,λj p a=>?_⟩⟩;rw[VE] at a;exact fc h rfl _ _ (by rw[UK,a];rfl)
def LH{w:World}{base g cap i}{cs:List yB}(h:w.ownsRow base 9 1 (lV (qA g) cs.length cap) cs.length (cs.map Value.string))(hi:i<cs.length):dE base w (lV (qA g) i cap) (cs.take i):=by
 let⟨_,_,e,c,_,_⟩:=dM h;cases e;have b:(cs.take i).length=i:=by rw[UN];omega
 refine⟨_,_,by rw[b],by rw[b];omega,.inr ⟨g,0,rfl,(h.lt g rfl).1,(h.lt g rfl).2,λj p a=>?_⟩⟩;rw[Vv] at a;split at a
 .rw[Vj];exact fc h rfl _ _ (by rw[UK,a];rfl)
 cases a
def vR{w:World}{base g cap i}{cs:List yB}(h:w.ownsRow base 9 1 (lV (qA g) cs.length cap) cs.length (cs.map Value.string))(t):(w.setCell ⟨g,i,none⟩ (sV t)).ownsRow base 9 1 (lV (qA g) (cs.set i t).length cap) (cs.set i t).length ((cs.set i t).map Value.string):=by
 have:=tS h (g:=g) rfl i (sV t);rw[Vh,List.map_set];exact this
def wR{cs:List yB}{i t c}(h:c∈cs.set i t):c=t\/c∈cs:=by
 rcases List.mem_or_eq_of_mem_set h with h|h
 .exact .inr h
 exact .inl h
def Qa(z)(n:Nat):madeCells #[z] n=(List.replicate n z).toArray:=by
 apply Array.ext';apply VQ;intro j;by_cases a:j<n
 .simp[madeCells,a,Nat.mod_one]
 simp[madeCells,a]
def zC{w W:World}{base t a n v b}(h:w.ownsRow base t a v n b)(c:yW w W):W.ownsRow base t a v n b:=cM h λg d=>c.block g (h.lt g d).2
def Tb(x:Int)(h:∃y,x=IntKind.u8.wrap y):∃c:UInt8,x=(c.toNat:Int):=by
 obtain⟨y,rfl⟩:=h;refine⟨UInt8.ofNat (y % 256).toNat,?_⟩;have h1:(y % 256).toNat<256:=by omega
 rw[VI,UInt8.toNat_ofNat_of_lt' h1];omega
def Kp(c:UInt8):wrap64 (c.toNat:Int)=(c.toNat:Int):=by
 have:=c.toNat_lt;unfold wrap64;omega
def mQ(w:World)(e:Ending)(w':World):Prop:=∃v q,e=rV v/\dE w.heap.size w' v q/\q.length<=91/\(∀c∈q,c.size<=1073741824)/\yW w w'
def xL{b w w'}(h:Below b w w')(g i:Nat)(v)(c:b<=g):Below b w (w'.setCell ⟨g,i,none⟩ v):=
 ⟨h.os,h.tape,h.output,by simpa using h.size,λk a=>by rw[UL _ _ _ k (by show k≠g;omega)];exact h.block k a⟩
def QL(w a)(cap:Nat)(cs:List yB)(hp:gQ w (lV a cs.length cap) cs)(z at_:Int)(hh:0<=z/\z<6)(E4:Rg at_)(t:yB)(ht:t.size<=1073741824)(hn:cs.length<=90)(hz:∀c∈cs,c.size<=4096):yC 47 #[lV a cs.length cap,i6 z,i6 at_,sV t] w (mQ w):=by
 have C5:0<(cs.map Value.string).length->∃F,a=some F/\∀W,yW w W->∀j v,(cs.map Value.string)[j]? =some v->W.cell? (F.add j)=some v:=λh0=>by
  obtain⟨a',F1,e,hp⟩:=hp;cases e;rcases hp with rfl|⟨g,o,rfl,l⟩
  .simp at h0
  refine⟨_,rfl,λW H j v q=>?_⟩;have E3:(⟨g,o,none⟩:Addr).add j=⟨g,o+j,none⟩:=by unfold Addr.add;split<;>simp_all
  rw[UK] at q;cases M:cs[j]? with
  |none=>rw[M] at q;cases q
  |some c=>rw[M] at q;injection q with q;rw[E3,<-q];exact eg H (l j c M)
 have D4:=aa C5;obtain⟨N,R⟩:=yX cs.length;obtain⟨i0,C2,C6,C7,C8⟩:=Vp oo;have E8:=run_make_row' (P:=yP) 63 9 (sV ⟨#[]⟩) 16 underlying63 oo rfl .i64 .i64 N (by omega) (by omega) w;have A3:yH ((w.alloc (.cells (madeCells #[Value.string ⟨#[]⟩] N) 9)).heap[w.heap.size]? =some (.cells (List.replicate N (Value.string ⟨#[]⟩)).toArray 9 (0,0))):=by
  show _=_;rw[UG,Qa]
 have A1:yH (yW w (w.alloc (.cells (madeCells #[Value.string ⟨#[]⟩] N) 9))):=(Un _ _).alloc (Ug _) _;rw[<-R];generalize w.alloc (.cells (madeCells #[Value.string ⟨#[]⟩] N) 9)=W0 at*;have D2:yH (∀W,0<N->yC 12 #[i6 at_,i6 N] W λe w'=>e=rV (i6 (bW at_ N))/\w'=W):=λW h0=>qq at_ N E4 h0 (by omega) W
 have A9:0<N->bW at_ N<N:=ky at_ N;have F0:yH (splice (List.replicate N (Value.string ⟨#[]⟩)) 0 (cs.map Value.string)=cs.map Value.string):=Me N _ _ (by rw[UM];exact R.symm);have O:yH ((cs.map Value.string).length=N):=by show _=_;rw[UM];exact R.symm
 have A:=aa hz;have f:=aa R;have F8:N<=90:=by omega
 clear hp C5 hn hz R;generalize bW at_ N=I at*;obtain⟨w1,E6,B6,A5⟩:∃w1,(Builtin.copy_ #[63,63] 3 #[lV (qA w.heap.size) N N,lV a N cap]).run yP W0=.ok (i6 (N:Int)) w1/\w1.heap[w.heap.size]? =some (.cells (cs.map Value.string).toArray 9 (0,0))/\yW w w1:=by
  by_cases S:N=0
  .refine⟨W0,?_,?_,A1.o⟩
   .have:=run_copy_none (P:=yP) W0 63 63 3 9 (qA w.heap.size) a N N N cap underlying63 GX (by rw[S];rfl);rw[S] at this⊢;exact this
   have:=A3.o;have C0:=O.o;rw[S] at this C0;rw[UH.1 C0];exact this
  obtain⟨F,rfl,E9⟩:=D4.o (by rw[O.o];omega);have:=run_copy_row (P:=yP) W0 63 63 3 9 w.heap.size 0 N N F N cap (List.replicate N (Value.string ⟨#[]⟩)).toArray 9 (cs.map Value.string) underlying63 GX A3.o (by rw[O.o];exact(Nat.min_self N).symm) (E9 W0 A1.o) (by rw[O.o];simp) (λv q=>by obtain⟨c,_,rfl⟩:=UO.1 q;rfl);refine⟨_,by rw[this,O.o];rfl,?_,below_setRow A1.o (Ug _) _⟩;rw[Vk W0 w.heap.size _ _ _ _ A3.o];have e:List.take 0 (List.replicate N (Value.string ⟨#[]⟩)).toArray.toList++cs.map Value.string++List.drop (0+N) (List.replicate N (Value.string ⟨#[]⟩)).toArray.toList=cs.map Value.string:=by simp
  rw[e]
 go_enter func47,ntmps47
 have B0:=MW (base:=w.heap.size) (cs:=cs) (g:=w.heap.size) (w:=w1) B6 (by omega) (by have:=f.o;unfold maxLen;omega);rw[<-f.o] at B0;have p:=aa B0;have B:=aa A5;have A0:=A5.size;have B2:yH (∀(w2:World) (g2 s:Nat),w2.ownsRow w.heap.size 9 1 (lV (qA g2) (N+1) s) (N+1) (cs.map Value.string++[sV t])->yW w w2->mQ w (rV (lV (qA g2) (N+1) s)) w2):=λw2 g2 s ho hb=>by
  refine⟨_,cs++[t],rfl,nS (by rw[Uq,Vl,<-f.o];exact ho),by rw[Uq,<-f.o];simp;omega,λc l=>?_,hb⟩;rcases UA.1 l with l|l
  .have:=A.o c l;omega
  rw[Uo.1 l];exact ht
 clear B6 A5 B0;by_cases h0:z=0
 .subst h0;go_wp2_with (at_builtin;refine U0 _ rfl (.tmp 30) (.tmp 32) 63 rfl w.heap.size 9 i0 (sV ⟨#[]⟩) 1 16 underlying63 C2 C6 C7 C8 rfl (by decide) _ N (cs.map Value.string) rfl (p.o.alloc _) ⟨w1.heap.size,0,none⟩ 1 1 [sV t] rfl rfl (Vx _ _ _) ?fa2 (by omega) ?fa3 ?fa4 ?fa5 _ rfl ?fa6)
  case fa2=>first|rfl| (intro v q;simp at q;subst q;rfl)
  case fa3=>unfold maxLen;omega
  case fa4=>omega
  case fa5=>first|omega| (simp;omega)
  intro g2 s w2 U T A6 A8;have m:yH (mQ w (rV (lV (qA g2) (N+1) s)) w2):=B2.o w2 g2 s U ((B.o.alloc A0 _).grown T (by simp;omega) (λk hk=>(p.o.lt k hk).1));clear U T A6 A8;go_wp2;go_ret;exact m.o
 have F4:(z == 0)=false:=by simpa using h0
 by_cases S:N=0
 .have E1:((N:Int) == 0)=true:=by simp;omega
  clear S;go_wp2_with (at_builtin;refine U0 _ rfl (.tmp 30) (.tmp 32) 63 rfl w.heap.size 9 i0 (sV ⟨#[]⟩) 1 16 underlying63 C2 C6 C7 C8 rfl (by decide) _ N (cs.map Value.string) rfl (p.o.alloc _) ⟨w1.heap.size,0,none⟩ 1 1 [sV t] rfl rfl (Vx _ _ _) ?fb2 (by omega) ?fb3 ?fb4 ?fb5 _ rfl ?fb6)
  case fb2=>first|rfl| (intro v q;simp at q;subst q;rfl)
  case fb3=>unfold maxLen;omega
  case fb4=>omega
  case fb5=>first|omega| (simp;omega)
  intro g2 s w2 U T A6 A8;have m:yH (mQ w (rV (lV (qA g2) (N+1) s)) w2):=B2.o w2 g2 s U ((B.o.alloc A0 _).grown T (by simp;omega) (λk hk=>(p.o.lt k hk).1));clear U T A6 A8;go_wp2;go_ret;exact m.o
 have E1:((N:Int) == 0)=false:=by simp;omega
 have G2:(I:Int)<(N:Int):=by have:=A9 (by omega);omega
 have D7:=A9 (by omega);have D:I<cs.length:=by rw[<-f.o];exact D7
 have B9:cs[I]? =some (cs[I]'D):=Uh D;have ci:=fc p.o (g:=w.heap.size) rfl I (sV (cs[I]'D)) (by rw[UK,B9];rfl);have fi:=kZ p.o (g:=w.heap.size) rfl I;have C:=aa (D2.o w1 (by omega));have B4:yH (∀(j:Nat) (c:yB),c.size<=1073741824->mQ w (rV (lV (qA w.heap.size) N N)) (w1.setCell ⟨w.heap.size,j,none⟩ (sV c))):=λj c l=>by
  have n:=p.o;rw[f.o] at n;have:=vR (i:=j) n c;refine⟨_,cs.set j c,rfl,nS (by rw[Vh] at this⊢;rw[f.o];exact this),by rw[Vh,<-f.o];omega,λd u=>?_,xL B.o _ _ _ (Ug _)⟩;rcases wR u with rfl|u
  .exact l
  have:=A.o d u;omega
 have L:yH ((cs[I]'D).size<=1073741824):=by have:=A.o _ (Vc D);show _<=_;omega
 have B5:yH (∀(i j:Nat) (c d:yB),c.size<=1073741824->d.size<=1073741824->mQ w (rV (lV (qA w.heap.size) N N)) ((w1.setCell ⟨w.heap.size,i,none⟩ (sV d)).setCell ⟨w.heap.size,j,none⟩ (sV c))):=λi j c d l u=>by
  have n:=p.o;rw[f.o] at n;have h1:=vR (i:=i) n d;have h2:=vR (i:=j) h1 c;refine⟨_,(cs.set i d).set j c,rfl,nS (by rw[Vh,Vh] at h2⊢;rw[f.o];exact h2),by rw[Vh,Vh,<-f.o];omega,λx V=>?_,xL (xL B.o _ _ _ (Ug _)) _ _ _ (Ug _)⟩;rcases wR V with rfl|V
  .exact l
  rcases wR V with rfl|V
  .exact u
  have:=A.o x V;omega
 generalize cs[I]'D=CI at*;clear B9;have E5:z=1\/z=2\/z=3\/z=4\/z=5:=by omega
 rcases E5 with rfl|rfl|rfl|rfl|rfl
 .have m:=aa (B4.o I t ht);go_wp2_with fail
  apply C.m;rintro e E⟨rfl,r⟩;subst r;go_wp2;go_ret;exact m.o
 .have m:yH (mQ w (rV (lV (qA w.heap.size) I N)) w1):=by
   have n:=p.o;rw[f.o] at n⊢;exact⟨_,cs.take I,rfl,LH n D,by rw[UN];omega,λc l=>by have:=A.o c (List.mem_of_mem_take l);omega,B.o⟩
  go_wp2_with fail
  apply C.m;rintro e E⟨rfl,r⟩;subst r;go_wp2;go_ret;exact m.o
 .obtain⟨J,hJ⟩:=yX ((I+1) % N);have D8:J<N:=by rw[hJ];exact Nat.mod_lt _ (by omega)
  have eJ:((I:Int)+1) % (N:Int)=(J:Int):=by rw[hJ,Int.natCast_emod];rfl
  have eT:((I:Int)+1).tmod (N:Int)=(J:Int):=by rw[Int.tmod_eq_emod_of_nonneg (by omega)];exact eJ
  have F6:(J:Int)<(N:Int):=by omega
  have G:J<cs.length:=by rw[<-f.o];exact D8
  have M:cs[J]? =some (cs[J]'G):=Uh G;have cj:=fc p.o (g:=w.heap.size) rfl J (sV (cs[J]'G)) (by rw[UK,M];rfl);have fj:=kZ p.o (g:=w.heap.size) rfl J;have m:yH (mQ w (rV (lV (qA w.heap.size) N N)) ((w1.setCell ⟨w.heap.size,I,none⟩ (sV (cs[J]'G))).setCell ⟨w.heap.size,J,none⟩ (sV CI))):=B5.o I J CI (cs[J]'G) L.o (by have:=A.o _ (Vc G);omega);clear hJ M;by_cases B7:J=I
  .subst B7;have D0:=aa (B5.o J J CI CI L.o L.o);have D1:=aa (B4.o J CI L.o);clear cj fj;go_wp2_with fail
   apply C.m;rintro e E⟨rfl,r⟩;subst r;go_wp2;go_ret;first|exact D0.o|exact D1.o
  have F5:I≠J:=λe=>B7 e.symm
  generalize cs[J]'G=CJ at*;go_wp2_with fail
  apply C.m;rintro e E⟨rfl,r⟩;subst r;go_wp2;go_ret;exact m.o
 .obtain⟨s,w2,C1,B1,A7,G3⟩:=St w1 CI (by have:=L.o;unfold maxLen;omega);have A4:=aa B1;have A2:=aa A7;have D5:=eg A7 ci;have G0:CI.size<=s:=by obtain⟨_,_,_,_,_,h,_⟩:=B1;exact h
  have D3:yH (∀(W:World) (j:Nat) (c:yB),yW w1 W->c.size<=1073741824->mQ w (rV (lV (qA w.heap.size) N N)) (W.setCell ⟨w.heap.size,j,none⟩ (sV c))):=λW j c H l=>by
   have n:=zC p.o H;rw[f.o] at n;have:=vR (i:=j) n c;refine⟨_,cs.set j c,rfl,nS (by rw[Vh] at this⊢;rw[f.o];exact this),by rw[Vh,<-f.o];omega,λd u=>?_,xL (B.o.trans (H.mono A0)) _ _ _ (Ug _)⟩;rcases wR u with rfl|u
   .exact l
   have:=A.o d u;omega
  have B3:yH (∀W,yW w1 W->mQ w (rV (lV (qA w.heap.size) N N)) W):=λW H=>by
   have n:=zC p.o H;rw[f.o] at n;refine⟨_,cs,rfl,nS (by rw[f.o];exact n),by rw[<-f.o];omega,λd u=>?_,B.o.trans (H.mono A0)⟩;have:=A.o d u;omega
  clear B1 A7;have E7:=L.o;by_cases hC:0<CI.size
  .have D6:(0:Int)<(CI.size:Int):=by omega
   by_cases Y:0<t.size
   .have E2:(0:Int)<(t.size:Int):=by omega
    obtain⟨K,Q⟩:∃K:Nat,((t[0]'Y).toNat:Int).tmod (CI.size:Int)=(K:Int)/\K<CI.size:=⟨(t[0]'Y).toNat % CI.size,by rw[Int.tmod_eq_emod_of_nonneg (by omega)];omega,Nat.mod_lt _ hC⟩
    obtain⟨Q,D9⟩:=Q;have E0:((t[0]'Y).toNat:Int) % (CI.size:Int)=(K:Int):=by rw[<-Q,Int.tmod_eq_emod_of_nonneg (by omega)]
    have F7:(K:Int)<(CI.size:Int):=by omega
    obtain⟨b,hb⟩:∃b:UInt8,CI.data.toList[K]? =some b:=⟨_,Uh (by simpa using D9)⟩
    have ck:yc w2 w1.heap.size K (iV .u8 (b.toNat:Int)):=by
     have h:=A4.o.cell K (iV .u8 (b.toNat:Int)) (by unfold b9;rw[UK,hb];rfl);rw[JJ] at h;exact h
    have fk:=A4.o.free K (by omega);go_wp2_with fail
    apply C.m;rintro e y⟨rfl,r⟩;subst r;go_upto_region 21 with fail
    have B8:(wrap64 ((t[0]'Y).toNat:Int)).tmod (CI.size:Int)=(K:Int):=by rw[Kp,Q]
    rw[B8];clear B8 Q E0;go_cut [] (λE=>∃c:UInt8,E=(w2.setCell ⟨y.heap.size,K,none⟩ (iV .u8 (c.toNat:Int))).drew)
    .have C3:wrap64 ((t.size:Int) - 1)=(t.size:Int) - 1:=by unfold wrap64;omega
     obtain⟨X,hX⟩:∃X:UInt8,∀W,(Instr.index 9 (sV t) (i6 ((t.size:Int) - 1))).run yP W=.ok (iV .u8 (X.toNat:Int)) W:=⟨_,λW=>by rw[run_index_string W _ _ _ _ underlying9,dif_pos (by omega)]⟩
     have F9:∀W,(Instr.index 9 (sV t) (i6 (wrap64 ((t.size:Int) - 1)))).run yP W=.ok (iV .u8 (X.toNat:Int)) W:=λW=>by rw[C3];exact hX W
     clear C3 A9 E8 E6 ci fi C1 D5;go_region
     go_wp2;go_meet;obtain⟨c,l⟩:=Tb (bits BinOp.xor IntKind.u8 (b.toNat:Int) (X.toNat:Int)) ⟨_,rfl⟩;exact⟨c,by rw[l]⟩
    obtain⟨c,rfl⟩:=hcut;have C4:lE (w2.setCell ⟨y.heap.size,K,none⟩ (iV .u8 (c.toNat:Int))).drew y.heap.size 5 y.heap.size s CI.size (b9 (CI.data.toList.set K c)):=by
     have:=A4.o.set K (iV .u8 (c.toNat:Int));unfold b9 at this⊢;rw[List.map_set];exact this
    have G1:=C4.conv;have Z:yW y (w2.setCell ⟨y.heap.size,K,none⟩ (iV .u8 (c.toNat:Int))).drew:=(A2.o.setCell (Ug _) _).drew;have m:=D3.o _ I (ae (CI.data.toList.set K c)) Z (by show(CI.data.toList.set K c).toArray.size<=_;simp;exact E7);have C9:=aa m;have F2:=eg Z ci;have F3:(w2.setCell ⟨y.heap.size,K,none⟩ (iV .u8 (c.toNat:Int))).drew.frozen? ⟨w.heap.size,I,none⟩=false:=kZ (zC p.o Z) (g:=w.heap.size) rfl I;clear C4 Z C1 ck fk;generalize (w2.setCell ⟨y.heap.size,K,none⟩ (iV .u8 (c.toNat:Int))).drew=W3 at*;go_wp2;go_ret;exact C9.o
   have E2:¬(0:Int)<(t.size:Int):=by omega
   have m:=aa (B3.o w2 A2.o);go_wp2_with fail
   apply C.m;rintro e E⟨rfl,r⟩;subst r;go_wp2;go_ret;exact m.o
  have D6:¬(0:Int)<(CI.size:Int):=by omega
  have m:=aa (B3.o w2 A2.o);go_wp2_with fail
  apply C.m;rintro e E⟨rfl,r⟩;subst r;go_wp2;go_ret;exact m.o
 have m:yH (mQ w (rV (lV (some ⟨w.heap.size,I,none⟩) (N - I) (N - I))) w1):=by
  have n:=p.o;rw[f.o] at n⊢;exact⟨_,cs.drop I,rfl,R4 n D,by rw[Uu,<-f.o];omega,λc l=>by have:=A.o c (List.mem_of_mem_drop l);omega,B.o⟩
 go_wp2_with fail
 apply C.m;rintro e E⟨rfl,r⟩;subst r;go_wp2;go_ret;first|exact m.o| (have e1:((N:Int) - (I:Int)).toNat=N - I:=by omega;simpa [e1] using m.o)
def TJ(w:World)(v)(n:Nat)(base:Nat)(i:List Value)(h:w.ownsRow base 9 1 v n i)(a)(c:Nat)(e:a=none->c=0):(Builtin.append_ #[63,63] 63 #[v,lV a 0 c]).run yP w=.ok v w:=by
 let⟨i0,b,j,k,l⟩:=Vp oo;obtain⟨a',cap,rfl,d,_,f⟩:=dM h;cases a with
 |none=>
  obtain rfl:=e rfl;rcases f with⟨rfl,rfl,rfl⟩|⟨g,rfl⟩
  .simp[Builtin.append_,run_underlying underlying63,sizeOf,typeInfo,b,Builtin.lenOf,Builtin.firstCells]
  simp[Builtin.append_,run_underlying underlying63,sizeOf,typeInfo,b,Builtin.lenOf,Builtin.firstCells,d,storeCells]
 |some ad=>
  rcases f with⟨rfl,rfl,rfl⟩|⟨g,rfl⟩
  .simp[Builtin.append_,run_underlying underlying63,sizeOf,typeInfo,b,Builtin.lenOf,Builtin.firstCells,loadCells,loadCellsFrom]
  simp[Builtin.append_,run_underlying underlying63,sizeOf,typeInfo,b,Builtin.lenOf,Builtin.firstCells,d,storeCells,loadCells,loadCellsFrom]
def uR(w:World)(base:Nat)(v)(cs:List yB)(i:w.ownsRow base 9 1 v cs.length (cs.map Value.string))(b:Nat)(m)(q:List yB)(C:dE b w m q)(h63:cs.length+q.length<=4200000000000)(t:base<=w.heap.size):∃v' w',(Builtin.append_ #[63,63] 63 #[v,m]).run yP w=.ok v' w'/\w'.ownsRow base 9 1 v' (cs++q).length ((cs++q).map Value.string)/\w.grownBy w' v.ownBlock/\(∀g,v'.ownBlock=some g->v.ownBlock=some g\/w.heap.size<=g):=by
 let⟨i0,z,E,F,G⟩:=Vp oo;obtain⟨a,c,rfl,K,l⟩:=C;rw[Vl,Uq];by_cases A:q.length=0
 .have e:q=[]:=UH.1 A;subst e;refine⟨v,w,TJ w v _ base _ i a c λn=>?_,by simpa using i,⟨rfl,rfl,rfl,Ug _,λ_ _ _=>rfl⟩,λg f=>.inl f⟩;rcases l with⟨_,h⟩|⟨g,o,h,_⟩
  .exact h
  rw[n] at h;cases h
 rcases l with⟨_,h⟩|⟨g,o,rfl,J,L,y⟩
 .omega
 let⟨I,H,w',D,B,f,s,_⟩:=run_append_lies (P:=yP) w 63 63 base 9 i0 (sV ⟨#[]⟩) 1 16 underlying63 z E F G rfl (by decide) v cs.length (cs.map Value.string) i ⟨g,o,none⟩ q.length c (q.map Value.string) (by simp) (λj u d=>by
  have r:(⟨g,o,none⟩:Addr).add j=⟨g,o+j,none⟩:=by unfold Addr.add;split<;>simp_all
  rw[UK] at d;cases hqj:q[j]? with
  |none=>rw[hqj] at d;cases d
  |some p=>rw[hqj] at d;injection d with d;rw[r,<-d];exact y j p hqj) (λu d=>by obtain⟨p,_,rfl⟩:=UO.1 d;rfl) (by omega) (by unfold maxLen;omega) (by omega) t _ rfl
 refine⟨_,w',D,B,f,λx k=>?_⟩;injection k with k;subst k;rcases s with h|h
 .exact .inl h
 exact .inr (Nat.le_of_eq h.symm)
def gP.after{l l1}{L:jG}{w w1}{B:eO}{c b a v cs w'}(m:Mv (λx=>x=L.tr\/x=L.bk) l l1 w w1)(e:∀g,B.mv.ownBlock=some g->g<w.heap.size)(d:∀g,B.bv.ownBlock=some g->g<w.heap.size)(h:gP l1 L w1 B c b a v cs w'):gP l L w B c b a v cs w':=by
 let⟨l2,S,f,b0,h⟩:=h;exact⟨l2,S,f,b0,⟨m.trans h.mv,h.bk,h.cP,h.row,Ut m.size h.low,h.hi,h.bt,e,d⟩⟩
def gP.append{l L w B y t s v cs w1}(h:gP l L w B y t s v cs w1)(n:L.ok)(b:Nat)(j)(q:List yB)(C:dE b w1 j q)(h63:cs.length+q.length<=4200000000000):∃c w',(Builtin.append_ #[63,63] 63 #[v,j]).run yP w1=.ok c w'/\gP l L w B y t s c (cs++q) w':=by
 let⟨l1,m,u,b0,h⟩:=h;let⟨c,w',D,r,a,o⟩:=uR w1 b0 v cs h.row b j q C h63 h.hi;refine⟨c,w',D,?_⟩;cases hv:v.ownBlock with
 |none=>
  have p:yW w1 w':=⟨a.os,a.tape,a.output,a.size,λk d=>a.block k d λe=>by rw[hv] at e;cases e⟩
  have i:=Mv.below (λ_=>False) l1 p;refine⟨_,m,u,b0,⟨h.mv.trans (i.mono λ_ f=>f.elim),h.bk.move i id id id,h.cP.move i id id,r,h.low,Ut h.hi p.size,λg z=>?_,h.mm,h.bb⟩⟩;rcases o g z with e|e
  .rw[hv] at e;cases e
  exact ou e
 |some g=>
  have g1:w.heap.size<=g:=Ut h.low (h.row.lt g hv).1;have g2:l1 g=0:=h.bt g hv;have g3:∀k,k<w1.heap.size->k≠g->w'.heap[k]? =w1.heap[k]? :=λk d A=>a.block k d λe=>A (by rw[hv] at e;injection e)
  refine⟨_,m,u,b0,⟨h.mv.row a.os a.tape a.output a.size g3 g1,h.bk.row n a.size g3 g2 (λe=>by have:=h.mm g e;omega) (λe=>by have:=h.bb g e;omega),h.cP.row n g3 g2,r,h.low,Ut h.hi a.size,λx f=>?_,h.mm,h.bb⟩⟩;rcases o x f with e|e
  .rw[hv] at e;injection e with e;subst e;rwa[kH (h.row.lt g hv).2]
  exact ou e
def dE.one(w:World)(x):dE 0 (w.alloc (.cells #[sV x] 9)) (lV (qA w.heap.size) 1 1) [x]:=
 ⟨_,_,rfl,Ug _,.inr ⟨w.heap.size,0,rfl,UD _,by simp,λi p a=>by
  have hi:=(Ux.1 a).1
  simp at hi
  subst hi
  simp at a
  subst a
  exact SZ _ _ _⟩⟩
def TX(n:Nat)(v:Value)(P:Value->Prop):Prop:=∃a cap,v=lV a n cap/\P v
def Ru(w W0:World)(f B u:Nat)(mv:Value)(D C:Bool)(k x y z:Int)(key t)(A5:W0=w.alloc (.cells #[i6 k,i6 x,i6 y,i6 z,sV key,sV t] 33))(_hbl:f<w.heap.size)(m:World->Prop) (d:Value->List yB->World->Prop) (E:Int) (cs:List yB) (RT H:yB)(B3:yH (yC 20 #[pV (qA f),sV key] W0 λe w'=>∃b,e=rV (bV b)/\m w'))(B5:yH (∀W,m W->yc W f 1 (pV (qA B))/\yc W w.heap.size 4 (sV key)/\m W.drew/\f<W.heap.size/\w.heap.size<W.heap.size))(C7:yH (∀W,m W->yC 44 #[pV (qA B),sV key] W λe w'=>∃v a cap,v=lV a cs.length cap/\e=rV (tV #[v,i6 E])/\d v cs w'))(F:yH (∀v c W,d v c W->(yc W f 1 (pV (qA B))/\yc W f 2 mv/\yc W f 4 (pV (qA u))/\yc W u 0 (bV D)/\yc W u 1 (bV C))/\(yc W w.heap.size 2 (i6 y)/\yc W w.heap.size 3 (i6 z)/\yc W w.heap.size 4 (sV key)/\yc W w.heap.size 5 (sV t))/\f<W.heap.size/\w.heap.size<W.heap.size))(p:yH (∀v c W j,d v c W->yW W j->d v c j))(C2:yH (∀W,yC 31 #[sV key,sV ⟨#[]⟩] W λe w'=>e=rV (bV (decide (40<key.size)))/\w'=W))(A1:yH (∀W c,yc W f 4 (pV (qA u))->yc W u 0 (bV D)->yc W u 1 (bV C)->yC 32 #[pV (qA f),i6 c] W λr w'=>r=rV (bV (cw D C c))/\w'=W))(D4:yH (∀v W,d v cs W->yC 37 #[pV (qA B)] W λe w2=>e=rV (sV RT)/\yW W w2))(C6:yH (∀W,yC 12 #[i6 z,i6 6] W λe w'=>e=rV (i6 (bW z 6))/\w'=W))(B8:yH (∀a cap W,d (lV a cs.length cap) cs W->yC 47 #[lV a cs.length cap,i6 (bW z 6),i6 y,sV t] W λe w'=>∃g i q,e=rV (lV g q.length i)/\dE W.heap.size w' (lV g q.length i) q/\q.length<=91/\(∀c∈q,c.size<=1073741824)/\yW W w'))(D5:yH (∀v W g i b (q:List yB),d v cs W->dE b W (lV g q.length i) q->q.length<=91->(∀c∈q,c.size<=1073741824)->yC 46 #[sV RT,sV key,lV g q.length i] W λe w2=>e=rV (tV #[sV (e8 RT key q),i6 (gR RT key q)])/\yW W w2))(C1:yH (∀v W j,d v cs W->j.heap=W.heap->yC 35 #[mv,sV key] j λe w'=>e=rV (sV H)/\w'=j))(A0:yH (∀v c W b vq q,d v c W->dE b W vq q->c.length+q.length<=1000->∃v' w',(Builtin.append_ #[63,63] 63 #[v,vq]).run yP W=.ok v' w'/\d v' (c++q) w'))(B6:yH (∀v q W,d v (cs++q++[bf]) W->(∀c∈q,c.size<=1073741824)->q.length<=91->yC 45 #[v] W λe w'=>e=rV (bV (bY (cs++q++[bf]) (cs++q++[bf]).length))/\yW W w'))(E4:cs.length<=81):yC 21 #[pV (qA f),jb k x y z key t] w λe w'=>∃b,e=rV (bV b)/\(m w'\/∃v c,d v c w'):=by
 unfold jb;generalize hQ:(λ(e:Ending) (w':World)=>∃b,e=rV (bV b)/\(m w'\/∃v c,d v c w'))=Q;have C5:yH (∀w' A,m w'->Q (rV (bV A)) w'):=λw' A h2=>by rw[<-hQ];exact⟨_,rfl,.inl h2⟩
 have s:yH (∀w' A,(∃v c,d v c w')->Q (rV (bV A)) w'):=λw' A h3=>by rw[<-hQ];exact⟨_,rfl,.inr h3⟩
 clear hQ;have B4:yH (yC 20 #[pV (qA f),sV key] (w.alloc (.cells #[i6 k,i6 x,i6 y,i6 z,sV key,sV t] 33)) λe w'=>∃b,e=rV (bV b)/\m w'):=by rw[<-A5];exact B3
 clear A5;suffices hs:yC 21 #[pV (qA f),gV #[i6 k,i6 x,i6 y,i6 z,sV key,sV t]] w (λe w'=>Q e w'/\True) from hs.mono λe w' h=>h.1
 go_enter func21,ntmps21
 go_wp2_with fail
 apply B4.m;rintro e w1⟨b1,rfl,K⟩;obtain⟨c1,c4,Y,D8,D9⟩:=B5.o w1 K;cases b1 with
 |false=>have l:yH (Q (rV (bV false)) w1):=C5.o _ _ K;clear K Y;go_wp2;go_ret;exact⟨l.o,trivial⟩
 |true=>
  have C8:=aa (C7.o _ Y);clear Y K;go_upto_region 4 with fail
  go_cut [6,7] (λv r n=>r=i6 E/\TX cs.length v (λv=>d v cs n))
  .go_region_with (go_at_call 44;apply C8.m;rintro e w2⟨v,a,cap,rfl,rfl,L⟩)
   all_goals
    go_wp2;go_meet;exact⟨rfl,_,_,rfl,L⟩
  obtain⟨rfl,a,cap,rfl,L⟩:=hcut;have G:=aa L;clear L c1 c4 D8 D9;generalize wc=w2 at*;obtain⟨⟨d1,d2,d4,e0,e1⟩,⟨b2,b3,b4,b5⟩,g1,g2⟩:=F.o _ _ _ G.o;go_wp2_with fail
  refine(C2.o _).mono ?_;rintro e n⟨rfl,E2⟩;subst E2;by_cases h40:40<key.size
  .rw[Uw h40];go_wp2;go_ret;exact⟨s.o _ _ ⟨_,_,G.o⟩,trivial⟩
  rw[Uv h40];by_cases U:E=0
  .have D7:(E != 0)=false:=by simpa using U
   clear U;have D1:yH (yC 37 #[pV (qA B)] n λe w2=>e=rV (sV RT)/\yW n w2):=D4.o _ _ G.o;go_wp2_with fail
   apply D1.m;rintro e w3⟨rfl,A7⟩;have P:=aa (p.o _ _ _ _ G.o A7);clear A7 d1 d2 d4 e0 e1 b2 b3 b4 b5 g1 g2;obtain⟨⟨d1,d2,d4,e0,e1⟩,⟨b2,b3,b4,b5⟩,g1,g2⟩:=F.o _ _ _ P.o;go_wp2_with fail
   refine(C6.o _).mono ?_;rintro e o⟨rfl,Z⟩;subst Z;have B9:=aa (B8.o _ _ _ P.o);go_wp2_with fail
   apply B9.m;rintro e w4⟨g,i,q,rfl,hq,A9,B0,A8⟩;have R:=aa (p.o _ _ _ _ P.o A8);have A2:=aa hq;have A3:=aa B0;have J:=aa A9;clear A8 hq B0 A9 d1 d2 d4 e0 e1 b2 b3 b4 b5 g1 g2;obtain⟨⟨d1,d2,d4,e0,e1⟩,⟨b2,b3,b4,b5⟩,g1,g2⟩:=F.o _ _ _ R.o;have D6:=aa (D5.o _ _ _ _ _ _ R.o A2.o J.o A3.o);go_wp2_with fail
   apply D6.m;rintro e w5⟨rfl,X⟩;have S:=aa (p.o _ _ _ _ R.o X);have C9:=aa (A2.o.below X);clear X d1 d2 d4 e0 e1 b2 b3 b4 b5 g1 g2;obtain⟨⟨d1,d2,d4,e0,e1⟩,⟨b2,b3,b4,b5⟩,g1,g2⟩:=F.o _ _ _ S.o;have C0:yH (∀j,j.heap=w5.heap->yC 35 #[mv,sV key] j λe w'=>e=rV (sV H)/\w'=j):=λj h=>C1.o _ _ _ S.o h
   go_upto_region 15 with(go_quiet ((go_at_call 35;refine Calls.quiet_of_same (C0.o _ rfl))))
   have T:=aa (p.o _ _ _ _ S.o (ig (Un _ _) nq));have D0:=aa (C9.o.below (ig (Un _ _) nq));clear d1 d2 d4 e0 e1 b2 b3 b4 b5 g1 g2;generalize w5.drewN nq=w7 at*;generalize hVS:e8 RT key q=VS at*;generalize hVC:gR RT key q=VC at*;clear hVS hVC;by_cases I:VC=0
   .have E1:(VC != 0)=false:=by simpa using I
    by_cases M:VS=H
    .have E0:(VS.toList == H.toList)=true:=by rw[dV];exact Uw M
     have l:yH (Q (rV (bV true)) w7):=s.o _ _ ⟨_,_,T.o⟩;clear M I;go_wp2;go_ret;exact⟨l.o,trivial⟩
    have E0:(VS.toList == H.toList)=false:=by rw[dV];exact Uv M
    obtain⟨v8,w8,B1,A4⟩:=A0.o _ _ _ _ _ _ T.o D0.o (by have:=J.o;omega);have C4:yH (d v8 (cs++q) (w8.alloc (.cells #[sV bf] 9))):=p.o _ _ _ _ A4 ((Un _ _).alloc (Ug _) _);obtain⟨v9,w9,B2,V⟩:=A0.o _ _ _ 0 (lV (qA w8.heap.size) 1 1) [bf] C4.o (dE.one w8 bf) (by have:=J.o;rw[Uq,Vm];omega);have B7:=aa (B6.o _ _ _ V A3.o J.o);have C3:=aa V;have D2:=aa B1;have D3:=aa B2;clear B1 B2 A4 V M;generalize bY (cs++q++[bf]) (cs++q++[bf]).length=CK at*;go_wp2_with (at_builtin;first| (refine jN rfl (.tmp 78) (.tmp 79) 63 rfl _ _ v8 w8 rfl rfl D2.o ?_) | (refine jN rfl (.tmp 81) (.tmp 82) 63 rfl _ _ v9 w9 rfl rfl D3.o ?_))
    apply B7.m;rintro e w10⟨rfl,A6⟩;have O:=aa (p.o _ _ _ _ C3.o A6);clear A6;obtain⟨⟨_,_,d4,e0,e1⟩,_,g1,g2⟩:=F.o _ _ _ O.o;cases CK with
    |true=>have l:yH (Q (rV (bV true)) w10):=s.o _ _ ⟨_,_,O.o⟩;go_wp2;go_ret;exact⟨l.o,trivial⟩
    |false=>
     have l:yH (Q (rV (bV (cw D C 0))) w10):=s.o _ _ ⟨_,_,O.o⟩;have N:=aa (A1.o w10 0 d4 e0 e1);subst I;go_wp2_with fail
     apply N.m;rintro e wz⟨rfl,E3⟩;subst E3;go_wp2;go_ret;exact⟨l.o,trivial⟩
   have E1:(VC != 0)=true:=by simpa using I
   have l:yH (Q (rV (bV VS.toList.isEmpty)) w7):=s.o _ _ ⟨_,_,T.o⟩;clear I;go_wp2;go_ret;exact⟨l.o,trivial⟩
  have D7:(E != 0)=true:=by simpa using U
  have N:=aa (A1.o n E d4 e0 e1);go_wp2_with fail
  apply N.m;rintro e o⟨rfl,Z⟩;subst Z;go_wp2;go_ret;exact⟨s.o _ _ ⟨_,_,G.o⟩,trivial⟩
def yN{P:Program}{b:Array Oper}{o:Oper}{a:Act}{w:World}{K:Act->World->Prop}{Q:Exit->Act->World->Prop}{E:Prop}(f:o.guard=none) (s x:Operand) (t:TypeId) (g:o.op=Op.call {callee:=Callee.builtin Builtin.append,args:=#[s,x],argTypes:=#[t,t]})
 (v d c:Value) (w':World) (hs:a.eval s=v) (j:a.eval x=d) (h:(Builtin.append_ #[t,t] o.type #[v,d]).run P w=.ok c w') (e:K (a.put o.dst c) w'):
 if Region.wanted o (yielded b a.tmps)=true then Oper.wp P o a w K Q else E:=by
 have i:Region.wanted o (yielded b a.tmps)=true:=by simp[Region.wanted,f]
 rw[Uj i];unfold Oper.wp;simp[execOp,g,resolve,invoke,builtin,hs,j,h,Result.andThen];exact e
def GZ:(yP.info? 44).map (·.size)=some 2:=by kernel_rfl
def GY:(yP.info? 61).map (·.size)=some 1:=by kernel_rfl
def xt{e n}(h:(yP.info? e).map (·.size)=some n):∃j,yP.info? e=some j/\j.size=n:=by
 let⟨j,h1,h2⟩:=Option.map_eq_some_iff.1 h;exact⟨j,h1,h2⟩
def NI(a:Nat)(W):(binOp BinOp.eql 42 (pV (qA a)) (pV (qA a))).run yP W=.ok (bV true) W:=by
 let⟨j,h1,_⟩:=xt GZ;exact run_eql_ptr_same W ⟨a,0,none⟩ underlying42 h1
def NH(a:Nat)(W):(binOp BinOp.eql 59 (pV (qA a)) (pV (qA a))).run yP W=.ok (bV true) W:=by
 let⟨j,h1,_⟩:=xt GY;exact run_eql_ptr_same W ⟨a,0,none⟩ underlying59 h1
def NL{a b}{W:World}{c d i k}(h:a≠b)(f:W.heap[a]? =some (.cells c i (0,0)))(g:W.heap[b]? =some (.cells d k (0,0))):(binOp BinOp.eql 42 (pV (qA a)) (pV (qA b))).run yP W=.ok (bV false) W:=by
 let⟨j,h1,h2⟩:=xt GZ;exact run_eql_ptr_other W underlying42 h1 (by rw[h2];decide) (λe=>h (by injection e)) f g
def NJ{a b}{W:World}{c d i k}(h:a≠b)(f:W.heap[a]? =some (.cells c i (0,0)))(g:W.heap[b]? =some (.cells d k (0,0))):(binOp BinOp.eql 59 (pV (qA a)) (pV (qA b))).run yP W=.ok (bV false) W:=by
 let⟨j,h1,h2⟩:=xt GY;exact run_eql_ptr_other W underlying59 h1 (by rw[h2];decide) (λe=>h (by injection e)) f g
section
variable {P : Program} {ops : Array Oper} {Q : Exit → Act → World → Prop} {md : Region.Mode} {S : World → Prop} {z : Nat}
def j8(P:Program)(c:Region.Mode)(b:Array Oper)(Q:Exit->Act->World->Prop)(S:World->Prop)(z:Nat):Nat->Array Bool->Act->World->Prop
 | 0,listed,a,w=>Region.ready c b listed=[]/\Q .normal a w
 |f+1,listed,a,w=>(Region.ready c b listed=[]->Q .normal a w)/\∀i∈Region.ready c b listed,wpOp P b Q i (λa' w'=>(i≠z->S w')/\j8 P c b Q S z f (listed.setIfInBounds i true) a' w') a w
def Cs:∀(f:Nat) (b:Array Bool) (a:Act) (w),j8 P md ops Q S z f b a w->wpAny P md ops Q f b a w
 | 0,_,_,_,h=>h
 |f+1,_,_,_,h=>⟨h.1,λi hi=>wpOp_mono (λa' w' k=>Cs f _ a' w' k.2) (h.2 i hi)⟩
def Ku{i m G}{v:Value}(hi:ops[i]? =some m)(X:ops[z]? =some G)(N:∃e∈G.after,Region.binds md e=true/\e.on=i)(E:∀(j:Nat) (o:Oper) cs b,ops[j]? =some o->o.op≠.select cs b)(I:∀c a w,Q (.panic c) (a.put m.dst v) w->Q (.panic c) a w) (Y:i≠z):∀(f:Nat) (d:Array Bool) (a:Act) (w:World),(∀j n,ops[j]? =some n->j≠i->d.getD j true=false->(∀e∈n.after,Region.binds md e=true->e.on≠i)->m.apart ops n=true)->i∈Region.ready md ops d->YieldsIf P ops S m v a->S w->
  j8 P md ops Q S z f (d.setIfInBounds i true) (a.put m.dst v) w->j8 P md ops Q S z (f+1) d a w:=by
 intro f;induction f with
 |zero=>
  intro d a w _ l t p H;refine⟨λh=>(by rw[h] at l;cases l),λj s=>?_⟩;by_cases g:j=i
  .subst g;exact t.wpOp hi p ⟨λ_=>p,H⟩
  have:=ready_mono s g;rw[H.1] at this;cases this
 |succ f ih=>
  intro d a w A l t p H;refine⟨λh=>(by rw[h] at l;cases l),λj s=>?_⟩;by_cases g:j=i
  .subst g;exact t.wpOp hi p ⟨λ_=>p,H⟩
  have k1:=H.2 j (ready_mono s g);let⟨C,n,q,J⟩:=mem_ready.1 s;have D:∀e∈n.after,Region.binds md e=true->e.on≠i:=λe K y L=>by
   have h1:=J e K y;have h0:=(mem_ready.1 l).1;rw[L] at h1;rcases Nat.lt_or_ge i d.size with u|u
   .simp[u] at h0 h1;rw[h0] at h1;cases h1
   simp[UF u] at h1
  have O:j≠z:=λe=>by
   let⟨x,W,y,V⟩:=N;rw[e,X] at q;cases q;exact D x W y V
  have k2:=wpOp_putIf q (A j n q g C D) (λcs b=>E i m cs b hi) (λcs b=>E j n cs b q) I t k1;have M:∀k r,ops[k]? =some r->k≠i->(d.setIfInBounds j true).getD k true=false->(∀e∈r.after,Region.binds md e=true->e.on≠i)->m.apart ops r=true:=λk r R T F U=>by
   refine A k r R T ?_ U;by_cases B:j=k
   .subst B;exact C
   rwa[getD_set_ne true B] at F
  refine wpOp_mono (λa' w' h3=>⟨h3.2.1,ih (d.setIfInBounds j true) a' w' M (ready_mono l (Ne.symm g)) h3.1 (h3.2.1 O) ?_⟩) k2;rw[Array.setIfInBounds_comm _ _ g];exact h3.2.2
def yo(b:Array Oper)(a:Region.Mode)(z i:Nat):Bool:=match b[z]? with
 |some oz=>oz.after.any λe=>Region.binds a e && e.on == i
 |none=>false
def Ks{i g}{v:Value}{f:Nat}{d:Array Bool}{a:Act}{w:World}(hi:ops[i]? =some g)(hs:Region.noSelect ops=true) (o:Region.free md ops d i=true) (p:(Region.ready md ops d).contains i=true) (b:yo ops md z i=true) (k:(i == z)=false)(l:∀c a w,Q (.panic c) (a.put g.dst v) w->Q (.panic c) a w) (q:YieldsIf P ops S g v a) (m:S w)(h:j8 P md ops Q S z f (d.setIfInBounds i true) (a.put g.dst v) w):j8 P md ops Q S z (f+1) d a w:=by
 unfold yo at b;cases ho:ops[z]? with
 |none=>rw[ho] at b;cases b
 |some oz=>rw[ho] at b;let⟨e,n,j⟩:=Array.any_eq_true'.1 b;simp at j k;exact Ku hi ho ⟨e,n,j.1,j.2⟩ (Region.noSelect_spec hs) l k f d a w (Region.free_spec hi o) (by simpa using p) q m h
def Kt{i o}{f:Nat}{b}{a:Act}{w:World}(d:Region.ready md ops b=[i])(l:ops[i]? =some o)(h:∀K':Act->World->Prop,yH (∀a w,(i≠z->S w)->j8 P md ops Q S z f (b.setIfInBounds i true) a w->K' a w)->if Region.wanted o (yielded ops a.tmps)=true then Oper.wp P o a w K' Q else K' (a.put o.dst undef) w):j8 P md ops Q S z (f+1) b a w:=by
 refine⟨λh0=>(by rw[d] at h0;cases h0),λj c=>?_⟩;rw[d] at c;obtain rfl:=Uo.1 c;exact wpOp_step l λK' e=>h K' λa w g k=>e a w ⟨g,k⟩
def yf{c a w}(b:Region.ready md ops c=[])(h:Q .normal a w):∀f,j8 P md ops Q S z f c a w
 | 0=>⟨b,h⟩
 | _+1=>⟨λ_=>h,by rw[b];simp⟩
def od(n:Nat):Nat->Array Bool
 | 0=>Array.replicate n false
 |k+1=>(od n k).setIfInBounds k true
def ye{k n:Nat}{b rest}{v:Value}{f:Nat}{a:Act}{w:World}(hi:ops.toList.drop k=b::rest)(d:(Region.noSelect ops && (Region.free md ops (od n k) k && ((Region.ready md ops (od n k)).contains k && (yo ops md z k && !(k == z)))))=true)(e:∀c a w,Q (.panic c) (a.put b.dst v) w->Q (.panic c) a w) (g:S w) (i:YieldsIf P ops S b v a)(h:j8 P md ops Q S z f (od n (k+1)) (a.put b.dst v) w):j8 P md ops Q S z (f+1) (od n k) a w:=by
 simp only[Vr,Bool.not_eq_true'] at d;let⟨h1,h2,h3,h4,h5⟩:=d;have h6:ops[k]? =some b:=by
  have:(ops.toList.drop k)[0]? =some b:=by rw[hi];rfl
  rw[VE] at this;simpa using this
 exact Ks h6 h1 h2 h3 h4 h5 e i g h
def ji{k n o rest}{f:Nat}{a:Act}{w:World}(hi:ops.toList.drop k=o::rest)(b:Region.ready md ops (od n k)=[k])(h:∀K':Act->World->Prop,yH (∀a w,(k≠z->S w)->j8 P md ops Q S z f (od n (k+1)) a w->K' a w)->if Region.wanted o (yielded ops a.tmps)=true then Oper.wp P o a w K' Q else K' (a.put o.dst undef) w):j8 P md ops Q S z (f+1) (od n k) a w:=by
 refine Kt b ?_ h;have:(ops.toList.drop k)[0]? =some o:=by rw[hi];rfl
 rw[VE] at this;simpa using this
def yd{d a}{w:World}(z:Nat)(S:World->Prop)(c:P.follows .mixedOrders=true)(b:S w.drew)(h:S w.drew->j8 P .any ops Q S z ops.size (od ops.size 0) a w.drew):(Code.region d ops true).wp P Q a w:=
 wp_region_any c (Cs _ _ _ _ (h b))
end
end Go.Proofs.YteaodagofkcgbaaGreatDoor
