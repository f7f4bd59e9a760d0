import Derived.Test.YteaodagofkcgbaaGreatDoorL
open Go.Proofs.Tryz
open Go.Proofs.Tryz renaming prog→yP
open Go.Value renaming string→sV,pointer→pV,int→iV,slice→lV,bool→bV,tuple→tV,agg→gV
open Go.Ending renaming returned→rV
namespace Go.Proofs.YteaodagofkcgbaaGreatDoor
open Go.RowKit
set_option maxRecDepth 100000
set_option maxHeartbeats 0
set_option linter.all false
def cM{w w':World}{base e a v n b}(h:w.ownsRow base e a v n b)(i:∀g,v.ownBlock=some g->w'.heap[g]? =w.heap[g]?):w'.ownsRow base e a v n b:=by
 refine⟨h.1,?_⟩;rcases h.2 with j|⟨g,cap,c,rfl,d,f,rest⟩
 .exact .inl j
 exact .inr ⟨g,cap,c,rfl,d,by rwa[i g rfl],rest⟩
def fc{w:World}{base e f v n a}(h:w.ownsRow base e f v n a){g}(c:v.ownBlock=some g)(j:Nat)(u)(d:a[j]? =some u):w.cell? ⟨g,j,none⟩=some u:=by
 have b:(⟨g,0,none⟩:Addr).add j=⟨g,j,none⟩:=by unfold Addr.add;split<;>simp_all
 rw[<-b];exact h.cells c j u d
def kZ{w:World}{base e d v n f}(h:w.ownsRow base e d v n f){g}(a:v.ownBlock=some g)(j:Nat):w.frozen? ⟨g,j,none⟩=false:=by
 rcases h.2 with⟨rfl,_⟩|⟨b,cap,i,rfl,k,c,_⟩
 .simp[Value.ownBlock] at a
 simp[Value.ownBlock] at a;subst a;exact US w b j _ _ c
def tS{w:World}{base e f v n i}(h:w.ownsRow base e f v n i){g}(c:v.ownBlock=some g)(j:Nat)(u:Value):(w.setCell ⟨g,j,none⟩ u).ownsRow base e f v n (i.set j u):=by
 refine⟨by rw[Vh];exact h.1,?_⟩;rcases h.2 with⟨rfl,_⟩|⟨b,cap,a,rfl,k,d,m,l,hs,o⟩
 .simp[Value.ownBlock] at c
 simp[Value.ownBlock] at c;subst c;refine .inr ⟨b,cap,a.setIfInBounds j u,rfl,k,?_,m,l,by simpa using hs,?_⟩
 .rw[U7 w b j a e (0,0) u d];exact Vk w b a _ e _ d
 rw[Array.toList_setIfInBounds,List.take_set,o]
def dM{w:World}{base e d v n f}(h:w.ownsRow base e d v n f):∃a cap,v=lV a n cap/\n<=cap/\cap<=maxLen/\(a=none/\n=0/\cap=0\/∃g,a=some ⟨g,0,none⟩):=by
 rcases h.2 with⟨rfl,rfl⟩|⟨g,cap,i,rfl,j,k,c,b,_⟩
 .exact⟨none,0,rfl,Ug _,UD _,.inl ⟨rfl,rfl,rfl⟩⟩
 exact⟨_,cap,rfl,c,b,.inr ⟨g,rfl⟩⟩
def eg{w W:World}(h:yW w W){a v}(b:w.cell? a=some v):W.cell? a=some v:=
 (Uz (h.block a.block (UE w _ b))).trans b
def Q3:(yP.info? 9).map (λi=>(i.zero,i.size,i.bytes))=some (some (sV ⟨#[]⟩),1,16):=by kernel_rfl
def Fg{w:World}{base e a g n cap k b}(h:w.ownsRow base e a (lV (qA g) n cap) n b)(i:k<=n):w.ownsRow base e a (lV (qA g) k cap) k (b.take (k*a)):=by
 have p:=h.1;have q:k*a<=n*a:=Nat.mul_le_mul_right _ i;refine⟨by rw[UN];omega,?_⟩;rcases h.2 with⟨h0,_⟩|⟨o,m,c,e1,d,f,r,j,hs,l⟩
 .cases h0
 cases e1;refine .inr ⟨g,cap,c,rfl,d,f,by omega,j,hs,?_⟩;rw[<-l,List.take_take];congr 1;omega
def fK(a:List (yB×yB)):List Value:=a.flatMap λp=>[Value.string p.1,Value.string p.2]
def zy(a b):fK (a++b)=fK a++fK b:=by simp[fK]
def tQ:∀(a:List (yB×yB)) (k:Nat) (p:yB×yB),a[k]? =some p->(fK a)[k*2]? =some (sV p.1)/\(fK a)[k*2+1]? =some (sV p.2)
 | [],k,p,h=>by simp at h
 |q::t,0,p,h=>by simp at h;subst h;exact⟨rfl,rfl⟩
 |q::t,k+1,p,h=>by
  have:=tQ t k p (by simpa using h)
  exact⟨by rw[show(k+1)*2=k*2+2 by omega];exact this.1,by rw[show(k+1)*2+1=k*2+1+2 by omega];exact this.2⟩
def cD(a b:yB):Bool:=Op.bytesLess a.toList b.toList
def aZ:List (yB×yB)->yB->Nat
 | [],_=>0
 |p::t,h=>if cD p.1 h then aZ t h+1 else 0
def tO:∀(a) (h),aZ a h<=a.length
 | [],_=>Ug _
 |p::t,h=>by
  unfold aZ
  have:=tO t h
  simp only[UJ]
  split<;>omega
def vC(w:World)(x y t){n}(b:n=w.heap.size):∀j u,[x,y][j]? =some u->(w.alloc (.cells #[x,y] t)).cell? ((⟨n,0,none⟩:Addr).add j)=some u:=by
 subst b;intro j u c;have a:(⟨w.heap.size,0,none⟩:Addr).add j=⟨w.heap.size,j,none⟩:=by unfold Addr.add;split<;>simp_all
 rw[a,Ur _ _ j _ _ _ (UG w _)];show([x,y].toArray)[j]? =some u;rwa[Vu]
def others(a:List (yB×yB))(h:yB):List (yB×yB):=a.filter λp=>!(p.1.toList == h.toList)
def OR(a:List (yB×yB))(h)(i:Nat)(p:yB×yB)(b:a[i]? =some p):others (a.take (i+1)) h=others (a.take i) h++(if(p.1.toList == h.toList) then [] else [p]):=by
 unfold others;rw[VF,b,VO];cases hb:(p.1.toList == h.toList)<;>simp[hb]
def oW(a h):(others a h).length<=a.length:=List.length_filter_le _ _
def qV(a:List (yB×yB))(h:yB):Prop:=∀(i j:Nat) (p q:yB×yB),i<=j->a[i]? =some p->a[j]? =some q->cD q.1 h=true->cD p.1 h=true
def EL:∀(a:List (yB×yB)) (h) (k:Nat),k<=a.length->(∀j p,j<k->a[j]? =some p->cD p.1 h=true)->(∀p,a[k]? =some p->cD p.1 h=false)->aZ a h=k
 | [],h,k,hk,_,_=>by simp at hk;subst hk;rfl
 |p::t,h,0,_,_,h2=>by
  have:=h2 p rfl
  unfold aZ
  rw[this];rfl
 |p::t,h,k+1,hk,h1,h2=>by
  have e:=h1 0 p (by omega) rfl
  have:=EL t h k (by simpa using hk) (λj q c b=>h1 (j+1) q (by omega) (by simpa using b)) (λq b=>h2 q (by simpa using b))
  unfold aZ
  rw[e,Uj rfl,this]
def ew(a:List (yB×yB))(h:yB):Bool:=match a[aZ a h]? with
 |some p=>p.1.toList == h.toList
 |none=>false
structure sF(w:World)(b c:Nat)(a:Option Addr)(cap:Nat)(ps:List (yB×yB)):Prop where
 cell:w.cell? ⟨b,c,none⟩=some (lV a ps.length cap)
 at_:∀(k:Nat) (p:yB×yB),ps[k]? =some p->∃g,a=some ⟨g,0,none⟩/\w.cell? ⟨g,k*2,none⟩=some (sV p.1)/\w.cell? ⟨g,k*2+1,none⟩=some (sV p.2)
def yV(w)(b:Nat)(h:yB)(hs:0<h.size)(a)(cap:Nat)(d)(S:sF w b (h[0]'hs).toNat a cap d)(F:qV d h)(V:d.length<4200000000000):yC 82 #[pV (qA b),sV h] w λe w'=>e=rV (tV #[i6 (aZ d h),bV (ew d h)])/\∃n,w'=w.drewN n:=by
 have c0:=S.cell;have R:(h[0]'hs).toNat<256:=(h[0]'hs).toNat_lt;have x:yH (∀k (_:k<d.length),∃p g,a=some ⟨g,0,none⟩/\yc w g (k*2) (sV p)/\(∃q,d[k]? =some (p,q))):=λk L=>by
  have i:d[k]? =some d[k]:=Uh L;obtain⟨g,e,c,_⟩:=S.at_ k _ i;exact⟨_,g,e,c,_,i⟩
 have W:(0:Int)<(h.size:Int):=by omega
 clear S;generalize hN:d.length=N at*;generalize hcc:(h[0]'hs).toNat=C at*;have T:(C:Int)<256:=by omega
 go_enter func82,ntmps82
 go_wp2;go_region
 go_wp2;go_loopg [7,8] N (λg u v wr=>∃lo hi:Nat,g=hi - lo/\lo<=hi/\hi<=N/\u=i6 lo/\v=i6 hi/\yH (∀(j:Nat) (p:yB×yB),j<lo->d[j]? =some p->cD p.1 h=true)/\yH (∀(j:Nat) (p:yB×yB),hi<=j->d[j]? =some p->cD p.1 h=false)/\wr=w.drew)
 .exact⟨0,N,by omega,by omega,by omega,rfl,rfl,λj p o=>by omega,λj p o i=>by have:=(Ux.1 i).1;omega,rfl⟩
 obtain⟨lo,hi,G,h1,h2,rfl,rfl,A,z,rfl⟩:=hrel;have y:=aa G;clear G;by_cases U:lo<hi
 .obtain⟨M,E⟩:=yX (lo+(hi - lo) / 2);have Q:(lo:Int)+((hi:Int) - (lo:Int)) / 2=(M:Int):=by omega
  have K:lo<=M:=by omega
  have P:M<hi:=by omega
  obtain⟨p,g,rfl,c1,q,f⟩:=x.o M (by omega);have J:(lo:Int)<(hi:Int):=by omega
  have D:(M:Int)<(N:Int):=by omega
  cases hls:Op.bytesLess p.toList h.toList
  .have H:yH (∀(j:Nat) (p:yB×yB),M<=j->d[j]? =some p->cD p.1 h=false):=λj r o t=>by
    cases hx:cD r.1 h with
    |false=>rfl
    |true=>exact absurd (F M j (p,q) r o f t hx) (by unfold cD;rw[hls];decide)
   clear E f;go_wp2;go_roundg (M - lo)
   .exact⟨lo,M,rfl,K,by omega,rfl,rfl,A,H,rfl⟩
   have:=y.o;omega
  have I:yH (∀(j:Nat) (p:yB×yB),j<M+1->d[j]? =some p->cD p.1 h=true):=λj r o t=>F j M r (p,q) (by omega) t f hls
  clear E f;go_wp2;go_roundg (hi - (M+1))
  .exact⟨M+1,hi,rfl,by omega,h2,by go_num,rfl,I,z,rfl⟩
  have:=y.o;omega
 obtain rfl:lo=hi:=by omega
 have J:¬(lo:Int)<(lo:Int):=by omega
 have m:aZ d h=lo:=EL d h lo (by omega) A.o (λp i=>z.o lo p (Ug _) i);have B:=aa m;by_cases O:lo<N
 .obtain⟨p,g,rfl,c1,q,f⟩:=x.o lo O;have l:ew d h=(p.toList == h.toList):=by unfold ew;rw[m,f]
  have s:=aa l;have D:(lo:Int)<(N:Int):=by omega
  clear m l f;go_wp2;go_region
  go_wp2;go_ret2;exact⟨by rw[B.o,s.o];rfl,2,rfl⟩
 have l:ew d h=false:=by
  unfold ew;rw[m,U9 (by omega)]
 have s:=aa l;have D:¬(lo:Int)<(N:Int):=by omega
 clear m l;go_wp2;go_region
 go_wp2;go_ret2;exact⟨by rw[B.o,s.o];rfl,2,rfl⟩
def jN{P:Program}{w:World}{b:Array Oper}{rest:List Oper}{o:Oper}{a:Act}{Q:Exit->Act->World->Prop}(g:o.guard=none)(s x:Operand)(t:TypeId)(i:o.op=.call {callee:=.builtin .append,args:=#[s,x],argTypes:=#[t,t]}) (d e c:Value) (w':World) (hs:a.eval s=d) (k:a.eval x=e)
 (j:(Builtin.append_ #[t,t] o.type #[d,e]).run P w=.ok c w') (h:wpList P b Q rest (a.put o.dst c) w'):wpList P b Q (o::rest) a w:=by
 refine wpList_plain g λK f=>?_
 unfold Oper.wp execOp;simp only[i,resolve,invoke,builtin,Sem.run_bind,Sem.run_pure,Result.andThen_ok,List.map_toArray,List.map_cons,List.map_nil,hs,k,j];exact f _ _ h
def EM:∀(a:List (yB×yB)) (m:Nat),fK (a.take m)=(fK a).take (m*2)
 | [],m=>by simp[fK]
 |q::t,0=>by simp[fK]
 |q::t,m+1=>by
  have:=EM t m
  rw[show(m+1)*2=m*2+2 by omega]
  show [Value.string q.1,Value.string q.2]++fK (t.take m)=_
  rw[this];rfl
def fp(a:List (yB×yB))(h t:yB):List (yB×yB):=(others a h).take (aZ (others a h) h)++[(h,t)]++(others a h).drop (aZ (others a h) h)
def jj(a:Nat->Value):Array Value:=((List.range 256).map a).toArray
def vQ(a):(jj a).size=256:=by simp[jj]
def mY(a)(c:Nat)(h:c<256):(jj a)[c]? =some (a c):=by
 unfold jj;rw[Vu,UK,List.getElem?_range h];rfl
def bd(a:Nat->Value)(c:Nat)(v:Value):Nat->Value:=λd=>if d=c then v else a d
def yU(d)(c:Nat)(v)(h:c<256):(jj d).setIfInBounds c v=jj (bd d c v):=by
 apply Vw;intro j;rw[Vi];by_cases a:c=j
 .subst a;rw[Uj rfl,Uj (by rw[vQ];exact h),mY _ _ h];simp[bd]
 rw[Ui a];by_cases b:j<256
 .rw[mY _ _ b,mY _ _ b];simp[bd,Ne.symm a]
 rw[UF (by rw[vQ];omega),UF (by rw[vQ];omega)]
structure bZ(base:Nat)(w:World)(b:Nat)(vs:Nat->Value)(sh:Nat->List (yB×yB)):Prop where
 ai:w.heap[b]? =some (.cells (jj vs) 71 (0,0))
 own:∀c,c<256->w.ownsRow base 135 2 (vs c) (sh c).length (fK (sh c))
 sep:∀c d g,c<256->d<256->(vs c).ownBlock=some g->(vs d).ownBlock=some g->c=d
 fL:∀c g,c<256->(vs c).ownBlock=some g->g≠b
def bZ.lK{base w b l i}(h:bZ base w b l i)(c:Nat)(d:c<256):∃a cap,l c=lV a (i c).length cap/\sF w b c a cap (i c):=by
 let⟨a,cap,e,_,_,f⟩:=dM (h.own c d);refine⟨a,cap,e,⟨by rw[Ur w b c _ _ _ h.ai,mY _ _ d,e],λk p j=>?_⟩⟩;have m:=(Ux.1 j).1;rcases f with⟨_,h0,_⟩|⟨g,rfl⟩
 .omega
 let⟨p1,p2⟩:=tQ _ k p j;exact⟨g,rfl,fc (h.own c d) (by rw[e];rfl) _ _ p1,fc (h.own c d) (by rw[e];rfl) _ _ p2⟩
def EN:∀(a:List (yB×yB)) (k:Nat) (p:yB×yB),fK (a.set k p)=((fK a).set (k*2) (sV p.1)).set (k*2+1) (sV p.2)
 | [],k,p=>by simp[fK]
 |q::t,0,p=>by simp[fK]
 |q::t,k+1,p=>by
  have:=EN t k p
  rw[show(k+1)*2=k*2+2 by omega,show k*2+2+1=k*2+1+2 by omega]
  show [Value.string q.1,Value.string q.2]++fK (t.set k p)=_
  rw[this];rfl
def fw(L:List (yB×yB))(n:Nat):Nat->List (yB×yB)
 | 0=>L
 |k+1=>(fw L n k).set (n - k) (L.getD (n - k - 1) (⟨#[]⟩,⟨#[]⟩))
def qX(L)(n:Nat):∀k,(fw L n k).length=L.length
 | 0=>rfl
 |k+1=>by show((fw L n k).set _ _).length=_;rw[Vh,qX L n k]
def yq(L)(n:Nat):∀k j,j+k<=n->(fw L n k)[j]? =L[j]?
 | 0,j,_=>rfl
 |k+1,j,h=>by
  show((fw L n k).set (n - k) _)[j]? =_
  rw[Ve (by omega)]
  exact yq L n k j (by omega)
def CA(L:List (yB×yB))(n:Nat)(a:L.length=n+1):∀k j,k<=n->n<j+k->j<=n->(fw L n k)[j]? =L[j - 1]?
 | 0,j,_,h,hj=>by omega
 |k+1,j,hk,h,hj=>by
  show((fw L n k).set (n - k) _)[j]? =_
  by_cases e:n - k=j
  .subst e
   rw[List.getElem?_set_self (by rw[qX,a];omega),Up,Uh (by omega)];rfl
  rw[Ve e]
  exact CA L n a k j (by omega) (by omega) hj
def bR:Nd->yL->yL->Nd
 | .nil,p,v=>dw p v
 | .unread h,_,_=>.unread h
 | .leaf h q x,p,v=>if q=p then dw p v else gi (.leaf h q x) p v (aF q p)
 | .ext h q k,p,v=>if aF q p=q.length then gm q (bR k (p.drop q.length) v) else gi (.ext h q k) p v (aF q p)
 | .branch _ x ks,p,v=>match p with
  | []=>dN ks v
  |c::r=>dN (aJ ks c.toNat (bR (ks c.toNat) r v)) x
def dD:Nd->yL->Prop
 | .nil,_=>True
 | .unread _,_=>False
 | .leaf _ _ _,_=>True
 | .ext _ q k,p=>aF q p=q.length->dD k (p.drop q.length)
 | .branch _ _ ks,p=>match p with
  | []=>True
  |c::r=>dD (ks c.toNat) r
def yl{k:Nd}{p v}(a:k.fY)(b:dD k p):(bR k p v).fY:=by
 cases k with
 |nil=>exact a.elim
 |unread _=>exact b.elim
 |leaf _ _ _=>exact a.elim
 |ext _ _ _=>exact a.elim
 |branch h x ks=>cases p<;>trivial
def uF:∀{t} {p v:yL},aO t->dD t p->aw p->p.length<=80->v.length<=160->aO (bR t p v):=by
 intro t;induction t with
 |nil=>intro p v _ _ b f d;exact pA b f d
 |unread h=>intro p v _ g;exact g.elim
 |leaf h q x=>
  intro p v a _ b f d;simp only[bR];split
  .exact pA b f d
  exact IF (.inl rfl) b f d a a.2.1 a.2.2.1
 |ext h q k ih=>
  intro p v a g b f d;simp only[bR];split
  .next e=>exact uG a.2.1 a.2.2.1 (yl a.2.2.2.1 (g e)) (ih a.2.2.2.2 (g e) (da b _) (by rw[Uu];omega) d)
  exact IF (.inr rfl) b f d a a.2.1 a.2.2.1
 |branch h x ks ih=>
  intro p v a g b f d;cases p with
  |nil=>exact r6 d a.2.2
  |cons c r=>
   have j:=b c (Uk ..);refine r6 a.2.1 λi hi=>?_
   unfold aJ;split
   .exact ih c.toNat (a.2.2 _ j) g (λy l=>b y (Ul _ l)) (by simp at f;omega) d
   exact a.2.2 i hi
def oC(t:Nd):Prop:=∀(w:World) (S:Nat->Prop) (u:Option Addr) (p v:yL),At w t S (pV u)->aO t->dD t p->aw p->p.length<=80->v.length<=160->aB w->
 yC 109 #[pV u,sV (ae p),sV (ae v)] w (Made w S (bR t p v))
def KG:oC .nil:=by
 intro w S u p v i _ _ d a b T;cases i;have g:yH (yC 132 #[sV (ae p),sV (ae v)] w (Made w S (dw p v))):=
  (qh w p v ⟨.inl rfl,d,a,b⟩ (ov _ _ _ a b) T).mono λe w' h=>h.mono λx j=>j.elim
 show yC 109 _ w (Made w S (dw p v));clear d T a b;generalize dw p v=R at*;generalize ae p=P at*;generalize ae v=V at*;go_enter func109,ntmps109
 go_wp2_with fail
 apply g.m;rintro e1 w1⟨u1,rfl,c⟩;have f:yH _:=c;clear c;go_wp2;go_ret;exact⟨u1,rfl,f.o⟩
def KO(h x:yL)(ks:Nat->Nd)(e:∀(w:World) (S:Nat->Prop) (u:Option Addr) (p v:yL),At w (.branch h x ks) S (pV u)->aO (.branch h x ks)->dD (.branch h x ks) p->aw p->p.length<=80->v.length<=160->aB w->
  yC 133 #[pV u,sV (ae p),sV (ae v)] w (Made w S (bR (.branch h x ks) p v))):oC (.branch h x ks):=by
 intro w S u p v a d i g f j T;have l:=aa (e w S u p v a d i g f j T);obtain⟨b,q,o,n,hs,B,m⟩:=a;cases n;have c0:=B.c0;clear g T f j B m e d i;generalize bR (.branch h x ks) p v=R at*;generalize ae p=P at*;generalize ae v=V at*;go_enter func109,ntmps109
 go_wp2_with fail
 apply l.m;rintro e1 w1⟨u1,rfl,c⟩;have k:yH _:=c;clear c;go_wp2;go_ret;exact⟨u1,rfl,k.o⟩
def yO:∀(q p:yL),q.take (aF q p)=p.take (aF q p)
 | [],[]=>rfl
 | [],_::_=>rfl
 | _::_,[]=>rfl
 |x::q,y::p=>by
  simp only[aF]
  by_cases e:x=y
  .rw[Uj e];simp[e,yO q p]
  rw[Ui e];rfl
def yQ:∀(q p),aF q p<q.length->aF q p<p.length->q.getD (aF q p) 0≠p.getD (aF q p) 0
 | [],_,h,_=>by simp at h
 | _::_,[],_,h=>by simp at h
 |x::q,y::p,h1,h2=>by
  simp only[aF] at h1 h2⊢
  by_cases e:x=y
  .rw[Uj e] at h1 h2⊢
   simp only[List.getD_cons_succ]
   exact yQ q p (by simp at h1;omega) (by simp at h2;omega)
  rw[Ui e];simpa using e
def yR:∀(a b),aF a b=a.length->aF a b=b.length->a=b
 | [],[],_,_=>rfl
 | [],y::b,_,h=>by simp[aF] at h
 |x::a,[],h,_=>by simp[aF] at h
 |x::a,y::b,h1,h2=>by
  simp only[aF] at h1 h2
  by_cases e:x=y
  .rw[Uj e] at h1 h2
   rw[e,yR a b (by simp at h1;omega) (by simp at h2;omega)]
  rw[Ui e] at h1;simp at h1
def mP:Nd->Prop
 | .nil=>True
 | .unread _=>True
 | .leaf _ _ v=>v≠[]
 | .ext _ p k=>p≠[]/\k.fY/\mP k
 | .branch _ _ ks=>∀i,i<16->mP (ks i)
def tC:∀(q r),aF q (q++r)=q.length
 | [],r=>by cases r<;>rfl
 |x::q,r=>by simp only[List.cons_append,aF,U5,UJ,tC q r]
def bU.all{w b t c a}(h:bU w b t c a):yc w b 5 (a 0)/\yc w b 6 (a 1)/\yc w b 7 (a 2)/\yc w b 8 (a 3)/\yc w b 9 (a 4)/\yc w b 10 (a 5)/\yc w b 11 (a 6)/\yc w b 12 (a 7)/\yc w b 13 (a 8)/\yc w b 14 (a 9)/\yc w b 15 (a 10)/\yc w b 16 (a 11)/\yc w b 17 (a 12)/\yc w b 18 (a 13)/\yc w b 19 (a 14)/\yc w b 20 (a 15):=⟨h.ck 0 (by omega),h.ck 1 (by omega),h.ck 2 (by omega),h.ck 3 (by omega),h.ck 4 (by omega),h.ck 5 (by omega),h.ck 6 (by omega),h.ck 7 (by omega),h.ck 8 (by omega),h.ck 9 (by omega),h.ck 10 (by omega),h.ck 11 (by omega),h.ck 12 (by omega),h.ck 13 (by omega),h.ck 14 (by omega),h.ck 15 (by omega)⟩
def FE(k:Int)(h p v b a c)(e:∀i,i<16->a i=c i):fG k h p v b a=fG k h p v b c:=by
 unfold fG;congr 2;exact Vz λi hi=>e i (Vq.1 hi)
def At.kids{w h v ks S p}(g:At w (.branch h v ks) S (pV p)):∃(b:Nat)(u:Nat->Option Addr)(d:Nat->Nat->Prop),p=some ⟨b,0,Option.none⟩/\S b/\bU w b (.branch h v ks) cN (λi=>pV (u i))/\Kids w ks (λx=>S x/\x≠b) u d:=by
 let⟨b,c,d,j,hs,B,h1,h2,h3⟩:=g;cases j;have f:∀i,i<16->c i=pV ((λi=>match c i with| pV a=>a| _=>Option.none) i):=λi hi=>by
  let⟨u,e⟩:=(h3 i hi).ptr;show c i=pV (match c i with| pV a=>a| _=>Option.none);rw[e]
 refine⟨b,_,d,rfl,hs,?_,⟨λi hi=>by rw[<-f i hi];exact h3 i hi,λi x hi k=>h1 i x hi k,h2⟩⟩;unfold bU at B⊢;rw[B];congr 2;exact FE _ _ _ _ _ _ _ f
def Td(h x)(ks:Nat->Nd)(w S u)(v:yL)(f:At w (.branch h x ks) S (pV u))(a:aO (.branch h x ks))(c:v.length<=160)(T:aB w):yC 133 #[pV u,sV ⟨#[]⟩,sV (ae v)] w (Made w S (dN ks v)):=by
 obtain⟨b,U,l,m,hs,B,j⟩:=f.kids;cases m;have d:yH (yC 137 #[gU U,sV (ae v)] w (Made w S (dN ks v))):=
  (wO w v ks _ U l j ⟨.inl rfl,c,λi hi=>(a.2.2 i hi).lL⟩ (sq _ _ _ c a.2.2) T).mono λe w' h=>h.mono λx n=>n.1
 obtain⟨k0,k1,k2,k3,k4,k5,k6,k7,k8,k9,k10,k11,k12,k13,k14,k15⟩:=B.all;clear B j a c T f;generalize dN ks v=R at*;generalize ae v=V at*;unfold gU at d;go_enter func133,ntmps133
 go_wp2_with fail
 apply d.m;rintro e1 w1⟨u1,rfl,g⟩;have k:yH _:=g;clear g;go_wp2;go_ret;exact⟨u1,rfl,k.o⟩
def Tc(h x)(ks:Nat->Nd)(c:UInt8)(r)(ih:oC (ks c.toNat))(w S u)(v:yL)(X:At w (.branch h x ks) S (pV u))(n:aO (.branch h x ks))(M:dD (ks c.toNat) r)(K:aw (c::r))(E:(c::r).length<=80)(N:v.length<=160)(T:aB w):yC 133 #[pV u,sV (ae (c::r)),sV (ae v)] w (Made w S (dN (aJ ks c.toNat (bR (ks c.toNat) r v)) x)):=by
 obtain⟨b,U,C,hu,hs,B,hK⟩:=X.kids;cases hu;have j:=K c (Uk ..);have L:aw r:=λy k=>K y (Ul _ k)
 have B3:r.length<=79:=by simp at E;omega
 have I:=hK.cut;have c3:=B.c3;have A3:=B.lt;have Q:yH (∀W,yW w W->yC 109 #[pV (U c.toNat),sV (ae r),sV (ae v)] W (Made W (λx=>C c.toNat x/\x<w.heap.size) (bR (ks c.toNat) r v))):=λW g=>
  ih W _ _ r v ((I.at_ c.toNat j).below g) (n.2.2 _ j) M L (by omega) N (T.below g)
 have H:∀i,i<16->aO (aJ ks c.toNat (bR (ks c.toNat) r v) i):=λi hi=>by
  unfold aJ;split
  .exact uF (n.2.2 _ j) M L (by omega) N
  exact n.2.2 i hi
 have HB:yH (∀W d m,Kids W (aJ ks c.toNat (bR (ks c.toNat) r v)) (λx=>S x\/w.heap.size<=x) d m->yW w W->yC 137 #[gU d,sV (ae x)] W (Made w S (dN (aJ ks c.toNat (bR (ks c.toNat) r v)) x))):=λW d m D g=>
  (wO W x _ _ d m D ⟨.inl rfl,n.2.1,λi hi=>(H i hi).lL⟩ (sq _ _ _ n.2.1 H) (T.below g)).mono λe w' h=>by
   obtain⟨u1,e1,e2,e3⟩:=h;exact⟨u1,e1,e2.mono λx f=>f.elim id (λh=>.inr (Ut g.size h)),g.trans (e3.mono g.size)⟩
 obtain⟨k0,k1,k2,k3,k4,k5,k6,k7,k8,k9,k10,k11,k12,k13,k14,k15⟩:=B.all;have A2:yc w b (5+c.toNat) (pV (U c.toNat)):=B.ck _ j;obtain⟨l,o⟩:∃R,R=ae (c::r):=⟨_,rfl⟩
 have A5:l.size=r.length+1:=by rw[o,aN];rfl
 have hp:0<l.size:=by omega
 have h0:l[0]'hp=c:=by subst o;rfl
 have f:l.extract 1 l.size=ae r:=by
  subst o;apply Go.WideShapes.bytes_inj;rw[Lib.extract_data,eU,eU];exact U4 (by rw[A5];simp)
 have he:l.toList.isEmpty=false:=by rw[o,ke];simp
 have B5:(0:Int)<(l.size:Int):=by omega
 have B6:=hp;have ha:=sD c j;have B4:(c.toNat:Int)<16:=by omega
 rw[<-f] at Q;rw[<-o];have q:=aa I;clear B hK n N T X o A5 f K E B3 M ih L H I;generalize dN (aJ ks c.toNat (bR (ks c.toNat) r v)) x=R at*;generalize ae v=V at*;obtain⟨a,t⟩:=yX (w.alloc (.cells #[pV (U 0),pV (U 1),pV (U 2),pV (U 3),pV (U 4),pV (U 5),pV (U 6),pV (U 7),pV (U 8),pV (U 9),pV (U 10),pV (U 11),pV (U 12),pV (U 13),pV (U 14),pV (U 15)] 165));have A1:eZ a w.heap.size U:=by rw[t];exact eZ.made w U
 have A6:a.heap.size=w.heap.size+1:=by rw[t];simp
 have J:yW w a:=by rw[t];exact(Un _ _).alloc (Ug _) _
 have A:=aa A6;have F:=aa A1;have z:=aa J;have B0:=aa t;have B1:=(J.cell (p:=⟨b,5+c.toNat,none⟩) A3).trans A2;clear A1 A6 J t;go_enter func133,ntmps133
 go_upto_region 5 with fail
 rw[<-B0.o];clear k0 k1 k2 k3 k4 k5 k6 k7 k8 k9 k10 k11 k12 k13 k14 k15 A2;go_cut [] (λO=>∃d m,eZ O w.heap.size d/\Kids O (aJ ks c.toNat (bR (ks c.toNat) r v)) (λx=>(S x\/w.heap.size<=x)/\x≠w.heap.size) d m/\yW w O)
 .go_region_with (go_at_call 109;refine(Q.o _ (by first|exact z.o|exact z.o.drew)).mono ?_;rintro e1 w1⟨x2,rfl,Z,s⟩;have ca:yc w1 w.heap.size c.toNat (pV (U c.toNat)):=(s.cell (p:=⟨w.heap.size,c.toNat,none⟩) (show w.heap.size<a.heap.size by rw[A.o];omega)).trans (F.o.cell _ j);have fa:w1.frozen? ⟨w.heap.size,c.toNat,none⟩=false:=(s.frozen (p:=⟨w.heap.size,c.toNat,none⟩) (show w.heap.size<a.heap.size by rw[A.o];omega)).trans (F.o.free _);have A8:yH (At w1 (bR (ks c.toNat) r v) (λx=>(C c.toNat x/\x<w.heap.size)\/a.heap.size<=x) (pV x2)/\eZ w1 w.heap.size U/\yW w w1):=⟨Z,F.o.kept (s.block _ (show w.heap.size<a.heap.size by rw[A.o];omega)),z.o.drew.trans (s.mono z.o.size)⟩;clear Z s)
  all_goals
   go_wp2;go_meet;obtain⟨g1,g2,g4⟩:=A8.o;have hz:=A.o;have B2:Kids w1 ks (λx=>(S x\/w.heap.size<=x)/\x≠w.heap.size) U (λi x=>C i x/\x<w.heap.size):=⟨λi hi=>(q.o.at_ i hi).kept λx f E=>g4.block x E,λi x hi f=>⟨.inl (q.o.sub i x hi f).1,by omega⟩,q.o.jf⟩
   refine⟨gx U c.toNat x2,_,g2.set c.toNat x2 j,B2.put (λx f _=>Uy _ _ _ _ f.2) c.toNat _ x2 _ (g1.kept λx f _=>Uy _ _ _ _ (show x≠w.heap.size by omega)) (λy k=>?_),g4.setCell (Ug _) _⟩;rcases k with k|k
   .exact⟨⟨.inl (q.o.sub _ y j k).1,by omega⟩,λi hi A4 h=>A4 (q.o.jf i c.toNat y hi j h k)⟩
   exact⟨⟨.inr (by omega),by omega⟩,λi hi A4 h=>by have:=h.2;omega⟩
 obtain⟨d,m,A0,D,G⟩:=hcut;obtain⟨k0,k1,k2,k3,k4,k5,k6,k7,k8,k9,k10,k11,k12,k13,k14,k15⟩:=A0.all;have d3:=(G.cell (p:=⟨b,3,none⟩) A3).trans c3;have P:yH (∀W,(∀x,W.heap[x]? =wc.heap[x]?)->yW w W->yC 137 #[gU d,sV (ae x)] W (Made w S R)):=λW hk g=>
  HB.o W d m ((D.kept λy _ _=>hk y).mono λy k=>k.1) g
 have A7:=aa G;unfold gU at P;clear A0 D G B1 c3;go_wp2_with fail
 go_region_with (go_at_call 137;refine(P.o wc.drew (λ_=>rfl) A7.o.drew).mono ?_;rintro e1 w1⟨u1,rfl,Y⟩;have A9:yH _:=Y;clear Y)
 all_goals
  go_wp2;go_ret;exact⟨u1,rfl,A9.o⟩
def Te(h x)(ks:Nat->Nd)(j:∀i,i<16->oC (ks i))(w S u)(p v:yL)(a:At w (.branch h x ks) S (pV u))(b:aO (.branch h x ks))(g:dD (.branch h x ks) p)(d:aw p)(f:p.length<=80)(e:v.length<=160)(T:aB w):yC 133 #[pV u,sV (ae p),sV (ae v)] w (Made w S (bR (.branch h x ks) p v)):=by
 cases p with
 |nil=>exact Td h x ks w S u v a b e T
 |cons c r=>exact Tc h x ks c r (j _ (d c (Uk ..))) w S u v a b g d f e T
def lE(w:World)(base:Nat)(e:TypeId)(g cap n:Nat)(a:List Value):Prop:=
 ∃cur fz,base<=g/\w.heap[g]? =some (.cells cur e fz)/\(fz=(0,0)\/cur.size<=fz.1)/\n<=cap/\cap<=maxLen/\cur.size=cap/\cur.toList.take n=a
def lE.cell{w base e g cap n b}(h:lE w base e g cap n b):∀j u,b[j]? =some u->w.cell? ((⟨g,0,none⟩:Addr).add j)=some u:=by
 let⟨c,d,_,i,_,m,_,l,k⟩:=h;intro j u a;have f:(⟨g,0,none⟩:Addr).add j=⟨g,j,none⟩:=by unfold Addr.add;split<;>simp_all
 rw[f,Ur w g j c e d i];rw[<-k,Vv] at a;split at a
 .simpa using a
 cases a
def lE.free{w base e g cap n d}(h:lE w base e g cap n d)(j:Nat)(k:j<cap):w.frozen? ⟨g,j,none⟩=false:=by
 let⟨f,b,_,c,a,l,_,i,m⟩:=h;let⟨lo,hi⟩:=b;simp only[World.frozen?,c,Bool.and_eq_false_iff,decide_eq_false_iff_not];rcases a with a|a
 .cases a;right;omega
 left;simp only at a;omega
def lE.len{w base e g cap n a}(h:lE w base e g cap n a):a.length=n:=by
 let⟨c,d,_,j,i,k,_,f,b⟩:=h;rw[<-b,UN,Array.length_toList];omega
section
variable {P : Program} (w : World)
end
def St(w)(s:yB)(hs:s.size<=maxLen):∃cap w1,(convert 9 143 (sV s)).run yP w=.ok (lV (qA w.heap.size) s.size cap) w1/\
 lE w1 w.heap.size 5 w.heap.size cap s.size (b9 s.data.toList)/\yW w w1/\w1.heap.size=w.heap.size+1:=by
 refine⟨_,_,Lib.run_convert_string_bytes w 9 143 5 s underlying9 underlying143 underlying5,?_,?_,Lib.bytesWorld_size w 5 s⟩
 .have a:=grownCap_ge w s.size 0 5;have d:(Lib.bytesCells w 5 s).size=grownCap w s.size 0 5:=by simp[Lib.bytesCells];omega
  refine⟨_,_,Ug _,Lib.bytesWorld_at_new w 5 s,.inr (Ug _),a,grownCap_le_maxLen w s.size 0 5 hs,d,?_⟩;have e:s.size=(s.data.toList.map λb=>Value.int .u8 b.toNat).length:=by simp
  unfold Lib.bytesCells;rw[Array.toList_append,Array.toList_map,List.take_append_of_le_length (by simp),U4 (by simp)];rfl
 exact⟨rfl,rfl,rfl,by rw[Lib.bytesWorld_size];omega,λk c=>Lib.bytesWorld_at_old w 5 s k c⟩
def JJ(g j:Nat):(⟨g,0,none⟩:Addr).add j=⟨g,j,none⟩:=by unfold Addr.add;split<;>simp_all
def lE.set{w base e g cap n d}(h:lE w base e g cap n d)(j:Nat)(u):lE (w.setCell ⟨g,j,none⟩ u) base e g cap n (d.set j u):=by
 let⟨a,b,f,c,k,m,l,i,o⟩:=h;refine⟨a.setIfInBounds j u,b,f,?_,by simpa using k,m,l,by simpa using i,?_⟩
 .rw[U7 w g j a e b u c];exact Vk w g a _ e _ c
 rw[Array.toList_setIfInBounds,List.take_set,o]
def lE.conv{w base g cap l n}(h:lE w base 5 g cap n (b9 l)):(convert 143 9 (lV (qA g) n cap)).run yP w=.ok (sV (ae l)) w:=by
 have a:l.length=n:=by have:=h.len;simpa [b9] using this
 have:=VA (P:=yP) w 143 5 underlying143 underlying5 g 0 n cap (l.map (λc=>(c.toNat:Int))) (by simpa using a) (λi hi=>by
  have:=h.cell i (iV .u8 (l[i].toNat:Int)) (by unfold b9;rw[UK,Uh (by omega)];rfl);rw[JJ] at this;rw[Vj,this,Up,UK,Uh (by omega)];rfl) 9 underlying9
 rw[this,oN]
def SZ(w:World)(x t):(w.alloc (.cells #[x] t)).cell? ⟨w.heap.size,0,none⟩=some x:=by
 rw[Ur _ _ 0 _ _ _ (UG w _)];rfl
def ah:List (yB×yB)->yB->Option yB
 | [],_=>none
 |p::t,h=>if(p.1.toList == h.toList) then some p.2 else ah t h
def Qi(b:List (yB×yB))(h:yB)(i:Nat)(p:yB×yB)(a:b[i]? =some p)(c:(p.1.toList == h.toList)=true):ah (b.drop i) h=some p.2:=by
 have d:=(Ux.1 a).1;rw[UZ d,(Ux.1 a).2];unfold ah;rw[Uj c]
def Qg(a:List (yB×yB))(h:yB)(i:Nat)(p:yB×yB)(b:a[i]? =some p)(c:(p.1.toList == h.toList)=false):ah (a.drop i) h=ah (a.drop (i+1)) h:=by
 have d:=(Ux.1 b).1;rw[UZ d,(Ux.1 b).2];conv=>lhs;unfold ah
 rw[c];rfl
def pz(a:List (yB×yB))(h:yB):yB:=if h.size=32 then(ah a h).getD ⟨#[]⟩ else⟨#[]⟩
def kG(a:List (yB×yB))(h:yB):Int:=if h.size=32 then(match ah a h with|some _=>0 |none=>9) else 2
def Ia(a)(h:yB)(hs:h.size≠32):pz a h=⟨#[]⟩/\kG a h=2:=by
 unfold pz kG;rw[Ui hs,Ui hs];exact⟨rfl,rfl⟩
def Hy(a)(h t:yB)(hs:h.size=32)(b:ah a h=some t):pz a h=t/\kG a h=0:=by
 unfold pz kG;rw[Uj hs,Uj hs,b];exact⟨rfl,rfl⟩
def Hz(a)(h:yB)(hs:h.size=32)(b:ah a h=none):pz a h=⟨#[]⟩/\kG a h=9:=by
 unfold pz kG;rw[Uj hs,Uj hs,b];exact⟨rfl,rfl⟩
def jz(a:List (yB×yB)):List Value:=a.map λp=>sV p.1
end Go.Proofs.YteaodagofkcgbaaGreatDoor
