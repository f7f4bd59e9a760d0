import Derived.Test.YteaodagofkcgbaaGreatDoorU
import Derived.Test.YteaodagofkcgbaaGreatDoorW
open Go.Proofs.Tryz
open Go.Proofs.Tryz renaming prog→yP
open Go.Value renaming string→sV,pointer→pV,int→iV,slice→lV,bool→bV,tuple→tV,agg→gV
open Go.Ending renaming returned→rV
namespace Go.Proofs.YteaodagofkcgbaaGreatDoor
open Go.RowKit
set_option maxRecDepth 100000
set_option maxHeartbeats 0
set_option linter.all false
structure Mv(T:Nat->Prop)(l l':Nat->Nat)(w w':World):Prop where
 os:w'.os=w.os
 tape:w'.tape=w.tape
 output:w'.output=w.output
 size:w.heap.size<=w'.heap.size
 bt:∀k,k<w.heap.size->l' k=l k
 ai:∀k,k<w.heap.size->¬T (l k)->w'.heap[k]? =w.heap[k]?
def Mv.refl(T l w):Mv T l l w w:=⟨rfl,rfl,rfl,Ug _,λ_ _=>rfl,λ_ _ _=>rfl⟩
def Mv.mono{T T' l l' w w'}(m:Mv T l l' w w')(h:∀x,T x->T' x):Mv T' l l' w w':=
 ⟨m.os,m.tape,m.output,m.size,m.bt,λk a b=>m.ai k a λc=>b (h _ c)⟩
def Mv.trans{T l l' d w w' e}(m:Mv T l l' w w')(b:Mv T l' d w' e):Mv T l d w e:=
 ⟨b.os.trans m.os,b.tape.trans m.tape,b.output.trans m.output,Ut m.size b.size,λk a=>(b.bt k (Us a m.size)).trans (m.bt k a),
  λk a c=>(b.ai k (Us a m.size) (by rwa[m.bt k a])).trans (m.ai k a c)⟩
def gv(l:Nat->Nat)(n:Nat):Nat->Nat:=λk=>if k<n then l k else 0
def kH{l n k}(h:k<n):gv l n k=l k:=by simp[gv,h]
def ou{l n k}(h:n<=k):gv l n k=0:=by simp[gv,VK.2 h]
def Mv.below{w w':World}(T l)(h:yW w w'):Mv T l (gv l w.heap.size) w w':=
 ⟨h.os,h.tape,h.output,h.size,λ_ a=>kH a,λk a _=>h.block k a⟩
def Mv.low{T l l' w w' base}(m:Mv T l l' w w')(b:base<=w.heap.size)(h0:∀k,k<base->¬T (l k)):Below base w w':=
 ⟨m.os,m.tape,m.output,m.size,λk a=>m.ai k (by omega) (h0 k a)⟩
def Mv.kept{T l l' w w'}(m:Mv T l l' w w'){k L}(b:k<w.heap.size)(c:l k=L)(a:¬T L):w'.heap[k]? =w.heap[k]? :=m.ai k b (by rwa[c])
def FA(l:Nat->Nat)(n:Nat)(S:Nat->Prop)(L:Nat):∃f:Nat->Nat,(∀k,k<n->f k=l k)/\∀k,n<=k->S k->f k=L:=by
 classical
 exact⟨λk=>if k<n then l k else if S k then L else 0,λk h=>by simp[h],λk h hs=>by simp[Nat.not_lt.2 h,hs]⟩
def ys{l L w w' b e S g}(c:∀x,S x->l x=L)(o:l b=L)(i:gF w b e S g w'):∃l' S',Mv (λx=>x=L) l l' w w'/\eX w' b e S' g/\∀x,S' x->l' x=L:=by
 let⟨⟨S',h1,h2⟩,h3⟩:=i;let⟨f,f1,f2⟩:=FA l w.heap.size S' L;refine⟨f,S',⟨h3.os,h3.tape,h3.output,h3.size,f1,λk m a=>h3.block k m λj=>?_⟩,h1,λx d=>?_⟩
 .rcases j with h|h
  .exact a (c k h)
  rw[h] at a;exact a o
 by_cases n:x<w.heap.size
 .rw[f1 _ n];rcases h2 x d with h|h
  .exact c x h
  omega
 exact f2 _ (by omega) d
def Du{l L w w' sb d j}(e:∀x,cy sb d x->l x=L)(m:dP 3 w w' sb d j)(s:sb<w.heap.size):∃l' a,Mv (λx=>x=L) l l' w w'/\gG 3 w' sb a j/\(∀x,cy sb a x->l' x=L)/\∀x,cy sb a x->cy sb d x\/w.heap.size<=x:=by
 let⟨a,h1,h2,h3⟩:=m;have i:∀x,cy sb a x->cy sb d x\/w.heap.size<=x:=λx b=>by
  rcases b with rfl|⟨c,g,n⟩
  .exact .inl (.inl rfl)
  rcases h2 c g x n with h|h
  .exact .inl (.inr ⟨c,g,h⟩)
  exact .inr h
 let⟨f,f1,f2⟩:=FA l w.heap.size (cy sb a) L;refine⟨f,a,⟨h3.os,h3.tape,h3.output,h3.size,f1,λk p r=>h3.block k p λo=>r (e k o)⟩,h1,λx b=>?_,i⟩;by_cases q:x<w.heap.size
 .rw[f1 _ q];rcases i x b with h|h
  .exact e x h
  omega
 exact f2 _ (by omega) b
def sZ(w:World)(a sb d:Nat)(mv b:Value)(c:Nat):Prop:=w.heap[a]? =some (.cells #[pV (qA sb),pV (qA d),mv,b,pV (qA c)] 47 (0,0))
def Cf(w:World)(a:Nat)(c b:Bool):Prop:=w.heap[a]? =some (.cells #[bV c,bV b] 44 (0,0))
structure jG where
 st:Nat
 hu:Nat
 tr:Nat
 bk:Nat
structure jG.ok(L:jG):Prop where
 a:0<L.st/\0<L.hu/\0<L.tr/\0<L.bk
 b:L.st≠L.hu/\L.st≠L.tr/\L.st≠L.bk/\L.hu≠L.tr/\L.hu≠L.bk/\L.tr≠L.bk
structure eO where
 bb:Nat
 sb:Nat
 tb:Nat
 hb:Nat
 mv:Value
 bv:Value
 t:Nd
 m:List (yB×yB)
 base:List (yB×yB)
structure Bk(l:Nat->Nat)(L:jG)(w:World)(B:eO)(S:Nat->Prop):Prop where
 bk:sZ w B.bb B.sb B.tb B.mv B.bv B.hb
 lb:l B.bb=L.bk
 pm:eH w B.mv B.m
 lm:∀g,B.mv.ownBlock=some g->l g=0
 pb:eH w B.bv B.base
 lv:∀g,B.bv.ownBlock=some g->l g=0
 tr:eX w B.tb (qA B.sb) S B.t
 loose:bK B.t
 lS:∀x,S x->l x=L.tr
 lt:l B.tb=L.tr
 om:cT B.m
 ob:cT B.base
 nm:B.m.length<4000000000
 nb:B.base.length<4000000000
structure cI(l:Nat->Nat)(L:jG)(w:World)(sb hb:Nat)(yes dW:Bool)(vs:Nat->Value)(ps:List (yB×yB)):Prop where
 hu:Cf w hb yes dW
 lh:l hb=L.hu
 st:fv w sb vs ps
 ls:∀x,cy sb vs x->l x=L.st
def sZ.lt{w a sb d c mv b}(h:sZ w a sb d mv b c):a<w.heap.size:=(Um.1 h).1
def Cf.lt{w a c b}(h:Cf w a c b):a<w.heap.size:=(Um.1 h).1
def eX.lt{w a b S t}(h:eX w a b S t):a<w.heap.size:=by
 let⟨u,h1,_⟩:=h.at_;exact h1.lt
def eX.same{w w':World}{a c S t}(h:eX w a c S t)(e:w.heap.size<=w'.heap.size)(k:∀x,x=a\/S x->x<w.heap.size->w'.heap[x]? =w.heap[x]?):eX w' a c S t:=by
 let⟨⟨u,h1,h2⟩,h3,h4⟩:=h;exact⟨⟨u,h1.kept (k a (.inl rfl) h1.lt),h2.kept λx b d=>k x (.inr b) d⟩,h3,λx b=>by have:=h4 x b;exact⟨this.1,this.2.1,by omega⟩⟩
def eH.mv{T l l' w w' v c}(h:eH w v c)(b:∀g,v.ownBlock=some g->l g=0)(m:Mv T l l' w w')(h0:¬T 0):eH w' v c/\∀g,v.ownBlock=some g->l' g=0:=
 ⟨cM h λg a=>m.kept (h.lt g a).2 (b g a) h0,λg a=>(m.bt g (h.lt g a).2).trans (b g a)⟩
def Bk.move{T l l' L w w' B S}(h:Bk l L w B S)(m:Mv T l l' w w')(h0:¬T 0)(b:¬T L.bk)(d:¬T L.tr):Bk l' L w' B S:=
 {bk:=(m.kept h.bk.lt h.lb b).trans h.bk
  lb:=(m.bt _ h.bk.lt).trans h.lb
  pm:=(h.pm.mv h.lm m h0).1
  lm:=(h.pm.mv h.lm m h0).2
  pb:=(h.pb.mv h.lv m h0).1
  lv:=(h.pb.mv h.lv m h0).2
  tr:=h.tr.same m.size λx a c=>m.kept c (by rcases a with rfl|a;exact h.lt;exact h.lS x a) d
  loose:=h.loose
  lS:=λx a=>(m.bt x (h.tr.own x a).2.2).trans (h.lS x a)
  lt:=(m.bt _ h.tr.lt).trans h.lt
  om:=h.om
  ob:=h.ob
  nm:=h.nm
  nb:=h.nb}
def cI.move{T l l' L w w' sb b f d e c}(h:cI l L w sb b f d e c)(m:Mv T l l' w w')(hs:¬T L.st)(g:¬T L.hu):cI l' L w' sb b f d e c:=
 {hu:=(m.kept h.hu.lt h.lh g).trans h.hu
  lh:=(m.bt _ h.hu.lt).trans h.lh
  st:=h.st.kept λx a=>m.kept (h.st.st.eM x a) (h.ls x a) hs
  ls:=λx a=>(m.bt x (h.st.st.eM x a)).trans (h.ls x a)}
def Bk.mU{l l' L w w' B S S' d}(h:Bk l L w B S)(c:L.ok)(m:Mv (λx=>x=L.tr) l l' w w')(g:eX w' B.tb (qA B.sb) S' d)(f:∀x,S' x->l' x=L.tr)(i:bK d):Bk l' L w' {B with t:=d} S':=
 {bk:=(m.kept h.bk.lt h.lb (λe=>c.b.2.2.2.2.2 e.symm)).trans h.bk
  lb:=(m.bt _ h.bk.lt).trans h.lb
  pm:=(h.pm.mv h.lm m (λe=>by have:=c.a.2.2.1;omega)).1
  lm:=(h.pm.mv h.lm m (λe=>by have:=c.a.2.2.1;omega)).2
  pb:=(h.pb.mv h.lv m (λe=>by have:=c.a.2.2.1;omega)).1
  lv:=(h.pb.mv h.lv m (λe=>by have:=c.a.2.2.1;omega)).2
  tr:=g
  loose:=i
  lS:=f
  lt:=(m.bt _ h.tr.lt).trans h.lt
  om:=h.om
  ob:=h.ob
  nm:=h.nm
  nb:=h.nb}
def Bk.over{l L w B S j i c e}(h:Bk l L w B S)(f:cI l L w B.sb B.hb j i c e)(d:L.ok)(T:aB w):lX (cy B.sb c) w (qA B.sb) (ah e) S/\¬cy B.sb c B.tb:=
 ⟨f.st.over T λx g a=>d.b.2.1 (by rw[<-f.ls x a,h.lS x g]),λa=>d.b.2.1 (by rw[<-f.ls _ a,h.lt])⟩
def Bk.cells{l L w B S}(h:Bk l L w B S):w.cell? ⟨B.bb,0,none⟩=some (pV (qA B.sb))/\w.cell? ⟨B.bb,1,none⟩=some (pV (qA B.tb))/\w.cell? ⟨B.bb,2,none⟩=some B.mv/\w.cell? ⟨B.bb,3,none⟩=some B.bv/\w.cell? ⟨B.bb,4,none⟩=some (pV (qA B.hb)):=by
 refine⟨?_,?_,?_,?_,?_⟩
 .rw[Ur w _ 0 _ _ _ h.bk];rfl
 .rw[Ur w _ 1 _ _ _ h.bk];rfl
 .rw[Ur w _ 2 _ _ _ h.bk];rfl
 .rw[Ur w _ 3 _ _ _ h.bk];rfl
 rw[Ur w _ 4 _ _ _ h.bk];rfl
def cI.cells{l L w sb a c b e d}(h:cI l L w sb a c b e d):w.cell? ⟨a,0,none⟩=some (bV c)/\w.cell? ⟨a,1,none⟩=some (bV b):=by
 refine⟨?_,?_⟩
 .rw[Ur w _ 0 _ _ _ h.hu];rfl
 rw[Ur w _ 1 _ _ _ h.hu];rfl
def cw(b a:Bool)(e:Int):Bool:=(decide (e≠0) && b && (decide (e=9) || decide (e=10) || decide (e=11))) || a
def rS{w:World}{g f c a}(c4:yc w g 4 (pV (qA f)))(d0:yc w f 0 (bV c))(d1:yc w f 1 (bV a))(e:Int):yC 32 #[pV (qA g),i6 e] w λr w'=>r=rV (bV (cw c a e))/\w'=w:=by
 by_cases h0:e=0
 .subst h0;have b:yH (cw c a 0=a):=by show _=_;unfold cw;simp
  generalize cw c a 0=R at*;go_enter func32,ntmps32
  go_wp2;go_ret;exact⟨by rw[b.o];rfl,rfl⟩
 have d:(e != 0)=true:=by simpa using h0
 cases c with
 |false=>
  have b:yH (cw false a e=a):=by show _=_;unfold cw;simp
  generalize cw false a e=R at*;clear h0;go_enter func32,ntmps32
  go_wp2;go_ret;exact⟨by rw[b.o];rfl,rfl⟩
 |true=>
  by_cases h9:e=9
  .subst h9;have b:yH (cw true a 9=true):=by show _=_;unfold cw;simp
   generalize cw true a 9=R at*;clear h0 d;go_enter func32,ntmps32
   go_wp2;go_ret;exact⟨by rw[b.o];rfl,rfl⟩
  by_cases h10:e=10
  .subst h10;have b:yH (cw true a 10=true):=by show _=_;unfold cw;simp
   generalize cw true a 10=R at*;clear h0 d h9;go_enter func32,ntmps32
   go_wp2;go_ret;exact⟨by rw[b.o];rfl,rfl⟩
  by_cases h11:e=11
  .subst h11;have b:yH (cw true a 11=true):=by show _=_;unfold cw;simp
   generalize cw true a 11=R at*;clear h0 d h9 h10;go_enter func32,ntmps32
   go_wp2;go_ret;exact⟨by rw[b.o];rfl,rfl⟩
  have b:yH (cw true a e=a):=by show _=_;unfold cw;simp[h9,h10,h11]
  have j:(e == 9)=false:=by simpa using h9
  have h:(e == 10)=false:=by simpa using h10
  have i:(e == 11)=false:=by simpa using h11
  generalize cw true a e=R at*;clear h0 h9 h10 h11;go_enter func32,ntmps32
  go_wp2;go_ret;exact⟨by rw[b.o];rfl,rfl⟩
def fJ(l:Nat->Nat)(L:jG)(w:World)(B:eO)(w':World):Prop:=∃l' S',Mv (λx=>x=L.tr\/x=L.bk) l l' w w'/\Bk l' L w' B S'
def jG.ok.apart{L:jG}(h:L.ok):¬(L.st=L.tr\/L.st=L.bk)/\¬(L.hu=L.tr\/L.hu=L.bk)/\¬(0=L.tr\/0=L.bk):=by
 let⟨⟨_,_,_,_⟩,_,_,_,_,_,_⟩:=h;exact⟨by omega,by omega,by omega⟩
def Bk.yu{l L w w' B S a}(h:Bk l L w B S)(b:L.ok)(c:gF w B.tb (qA B.sb) S a w')(d:bK a):fJ l L w {B with t:=a} w':=by
 let⟨l',S',m,h1,h2⟩:=ys h.lS h.lt c;exact⟨l',S',m.mono λ_ hx=>.inl hx,h.mU b m h1 h2 d⟩
def fJ.trans{l}{L:jG}{w w1 w2 B l1}(m:Mv (λx=>x=L.tr\/x=L.bk) l l1 w w1)(h:fJ l1 L w1 B w2):fJ l L w B w2:=by
 let⟨l2,a,m2,h2⟩:=h;exact⟨l2,a,m.trans m2,h2⟩
def cI.to{l l' L w w' sb b f d e c}(h:cI l L w sb b f d e c)(a:L.ok)(m:Mv (λx=>x=L.tr\/x=L.bk) l l' w w'):cI l' L w' sb b f d e c:=h.move m a.apart.1 a.apart.2.1
def aB.mv{T l l' w w'}(h:aB w)(m:Mv T l l' w w')(h3:∀k,k<3->¬T (l k)):aB w':=by
 have hs:=h.size;exact aB.nL (T:=λx=>3<=x) h ⟨m.os,m.tape,m.output,m.size,λk a b=>m.ai k a (h3 k (by omega))⟩ λ_ hx=>hx
def Ap{l L w B S g d H a}(h:Bk l L w B S)(f:cI l L w B.sb B.hb g d H a)(j:L.ok)(T:aB w)(key:yB)(s:key.size<=maxLen):yC 15 #[pV (qA B.bb),sV key] w λe w'=>∃b,e=rV (bV b)/\fJ l L w {B with t:=bE (ah a) B.t key} w':=by
 refine dd λQ A=>?_
 obtain⟨q,_⟩:=h.over f j T;obtain⟨_,c1,_,_,_⟩:=h.cells;have u:yH (yC 36 #[pV (qA B.tb),sV key] w λe w'=>e=rV (tV #[sV (jn (ah a) B.t key),i6 (cK (ah a) B.t key:Int)])/\fJ l L w {B with t:=bE (ah a) B.t key} w'):=
  (Ka h.tr q key s).mono λe w'⟨h1,h2⟩=>⟨h1,h.yu j h2 (uB h.tr.ok h.loose)⟩
 have C:yH (∀w1,fJ l L w {B with t:=bE (ah a) B.t key} w1->yc w1 B.bb 2 B.mv/\eH w1 B.mv B.m/\yc w1 B.bb 4 (pV (qA B.hb))/\yc w1 B.hb 0 (bV g)/\yc w1 B.hb 1 (bV d)):=λw1⟨l1,S1,m1,h1⟩=>by
  obtain⟨_,_,a2,_,a4⟩:=h1.cells;obtain⟨b0,b1⟩:=(f.to j m1).cells;exact⟨a2,h1.pm,a4,b0,b1⟩
 have y:yH (∀W,yC 31 #[sV key,sV ⟨#[]⟩] W λe w'=>e=rV (bV (mB key ⟨#[]⟩))/\w'=W):=λW=>wZ key ⟨#[]⟩ s (by decide) W
 have v:yH (∀W,eH W B.mv B.m->yC 35 #[B.mv,sV key] W λe w'=>e=rV (sV (bD B.m key))/\w'=W):=λW D=>og W _ B.m key D (by have:=h.nm;omega)
 have z:yH (∀W c,yc W B.bb 4 (pV (qA B.hb))->yc W B.hb 0 (bV g)->yc W B.hb 1 (bV d)->yC 32 #[pV (qA B.bb),i6 c] W λr w'=>r=rV (bV (cw g d c))/\w'=W):=λW c h1 h2 h3=>rS h1 h2 h3 c
 have J:=h.pm.form;clear h f j T q;generalize jn (ah a) B.t key=V at*;generalize (cK (ah a) B.t key:Int)=E at*;generalize bD B.m key=HV at*;generalize mB key ⟨#[]⟩=LG at*;go_enter func15,ntmps15
 go_wp2_with fail
 apply u.m;rintro e w1⟨rfl,k⟩;obtain⟨d2,p,d4,e0,e1⟩:=C.o w1 k;have i:yH (∀b,Q (rV (bV b)) w1):=λb=>A.o b _ k
 have x:=aa (v.o w1 p);have o:=aa (z.o w1 E d4 e0 e1);generalize cw g d E=MK at*;clear k p;go_wp2_with fail
 refine(y.o _).mono ?_;rintro e K⟨rfl,F⟩;subst F;cases LG with
 |true=>
  cases hE:(E == 1)<;>
   (go_wp2_with fail;go_ret;exact⟨i.o _,trivial⟩)
 |false=>
  go_wp2_with fail
  apply x.m;rintro e M⟨rfl,G⟩;subst G;cases hE:(E != 0) with
  |true=>
   go_wp2_with fail
   apply o.m;rintro e I⟨rfl,n⟩;subst n;cases MK<;>
    (go_wp2_with fail;go_ret;exact⟨i.o _,trivial⟩)
  |false=>
   cases hV:(V.toList == HV.toList) with
   |true=>go_wp2;go_ret;exact⟨i.o _,trivial⟩
   |false=>
    go_wp2_with fail
    apply o.m;rintro e I⟨rfl,n⟩;subst n;go_wp2;go_ret;exact⟨i.o _,trivial⟩
def vj(l:Nat->Nat)(L:jG)(w:World)(B:eO)(t:Nd)(m:List (yB×yB))(w':World):Prop:=∃mv,fJ l L w {B with t:=t,m:=m,mv:=mv} w'
def fJ.same{l L w w' B t}(h:fJ l L w {B with t:=t} w'):vj l L w B t B.m w':=⟨B.mv,h⟩
def rk{l w b i v}:Mv (λx=>x=l b) l l w (w.setCell ⟨b,i,none⟩ v):=
 ⟨rfl,rfl,rfl,by simp,λ_ _=>rfl,λk _ a=>Uy _ _ _ _ (λe=>a (by rw[e]))⟩
def Bk.cQ{l L w B S}(h:Bk l L w B S)(e:L.ok)(v m)(k:eH w v m)(d:∀g,v.ownBlock=some g->l g=0)(j:cT m)(f:m.length<4000000000):fJ l L w {B with m:=m,mv:=v} (w.setCell ⟨B.bb,2,none⟩ v):=by
 have M:Mv (λx=>x=L.bk) l l w (w.setCell ⟨B.bb,2,none⟩ v):=by have:=rk (l:=l) (w:=w) (b:=B.bb) (i:=2) (v:=v);rwa[h.lb] at this
 let⟨_,_,_,a4⟩:=e.a;have h0:¬(0=L.bk):=by omega
 let⟨p1,p2⟩:=h.pb.mv h.lv M h0;let⟨q1,q2⟩:=eH.mv k d M h0;have n:=e.b.2.2.2.2.2;have o:=M.size;refine⟨l,S,M.mono λ_ c=>.inr c,?_⟩;exact
  {bk:=by
    show(w.setCell ⟨B.bb,2,none⟩ v).heap[B.bb]? =_;rw[U7 w B.bb 2 _ _ (0,0) _ h.bk,Vk w B.bb _ _ _ _ h.bk];rfl
   lb:=h.lb
   pm:=q1
   lm:=q2
   pb:=p1
   lv:=p2
   tr:=h.tr.same o λx c d=>M.kept d (by rcases c with rfl|c;exact h.lt;exact h.lS x c) n
   loose:=h.loose
   lS:=h.lS
   lt:=h.lt
   om:=j
   ob:=h.ob
   nm:=f
   nb:=h.nb}
def Bk.writes{l l1:Nat->Nat}{L:jG}{w w1 w2:World}{B:eO}{e:Nat->Prop}{t1:Nd}(h:L.ok)(m1:Mv (λx=>x=L.tr\/x=L.bk) l l1 w w1)(h1:Bk l1 L w1 {B with t:=t1} e)(v:Value)(a:List (yB×yB))(c:w2.ownsRow w1.heap.size 91 2 v a.length (fK a))(i:yW w1 w2)(h3:3<=w1.heap.size)(n:cT a)(k:a.length<4000000000):
 ∃l3 b,Mv (λx=>x=L.tr\/x=L.bk) l l3 w (w2.setCell ⟨B.bb,2,none⟩ v)/\Bk l3 L (w2.setCell ⟨B.bb,2,none⟩ v) {B with t:=t1,m:=a,mv:=v} b:=by
 have d:=Mv.below (λ_=>False) l1 i;have h2:=h1.move d id id id;have m2:=m1.trans (d.mono λ_ hx=>hx.elim);let⟨l3,b,m3,f⟩:=h2.cQ h v a (nj c h3) (λg j=>ou (c.lt g j).1) n k;exact⟨l3,b,m2.trans m3,f⟩
def vr(m key value):(aL m key value).length<=m.length+1:=by
 have:=oW m key;unfold aL;rw[Uq];split
 .rw[List.length_nil];omega
 rw[Vm];omega
def Qx{l L w B S A2 A1 vs ps}(h:Bk l L w B S)(f:cI l L w B.sb B.hb A2 A1 vs ps)(hL:L.ok)(T:aB w)(B5:∀k,k<3->l k=0)(key value:yB)(hk:key.size<=maxLen)(hv:value.size<=maxLen)(hn:B.m.length<3999999999):yC 13 #[pV (some ⟨B.bb,0,none⟩),sV key,sV value] w λe w'=>∃b,e=rV (bV b)/\(vj l L w B (b6 (ah ps) B.t key value) B.m w'\/vj l L w B (bE (ah ps) (b6 (ah ps) B.t key value) key) (aL B.m key value) w'):=by
 refine dd λQ HQ=>?_
 obtain⟨hO,_⟩:=h.over f hL T;obtain⟨_,c1,_,_,_⟩:=h.cells;have h3:=T.size;have B2:yH (yC 30 #[pV (some ⟨B.tb,0,none⟩),sV key,sV value] w λe w'=>e=rV (i6 (cH (ah ps) B.t key value:Int))/\fJ l L w {B with t:=b6 (ah ps) B.t key value} w'):=
  (BP h.tr hO key value hk hv).mono λe w'⟨h1,h2⟩=>⟨h1,h.yu hL h2 (zn h.tr.ok h.loose)⟩
 have A8:yH (∀W,yC 31 #[sV key,sV value] W λe w'=>e=rV (bV (mB key value))/\w'=W):=λW=>wZ key value hk hv W
 have A9:yH (mB key value=false->key.size<=40/\value.size<=160):=λh=>by have:=of_decide_eq_false h;omega
 have B0:yH (∀w1 c,fJ l L w {B with t:=b6 (ah ps) B.t key value} w1->yC 32 #[pV (some ⟨B.bb,0,none⟩),i6 c] w1 λr w'=>r=rV (bV (cw A2 A1 c))/\w'=w1):=λw1 c⟨l1,S1,m1,h1⟩=>by
  obtain⟨_,_,_,_,a4⟩:=h1.cells;obtain⟨b0,b1⟩:=(f.to hL m1).cells;exact rS a4 b0 b1 c
 have A7:yH (∀w1,fJ l L w {B with t:=b6 (ah ps) B.t key value} w1->w1.cell? ⟨B.bb,2,none⟩=some B.mv/\B.bb<w1.heap.size/\yC 33 #[B.mv,sV key,sV value] w1 λe w'=>∃v',e=rV v'/\(∃g n c,v'=lV g n c)/\w'.cell? ⟨B.bb,2,none⟩=some B.mv/\w'.frozen? ⟨B.bb,2,none⟩=false/\(key.size<=40->value.size<=160->yH (∃l3 S3,Mv (λx=>x=L.tr\/x=L.bk) l l3 w (w'.setCell ⟨B.bb,2,none⟩ v')/\Bk l3 L (w'.setCell ⟨B.bb,2,none⟩ v') {B with t:=b6 (ah ps) B.t key value,m:=aL B.m key value,mv:=v'} S3))):=λw1⟨l1,S1,m1,h1⟩=>by
  obtain⟨_,_,a2,_,_⟩:=h1.cells;refine⟨a2,h1.bk.lt,(An w1 B.mv B.m key value h1.pm (by omega)).mono ?_⟩;rintro e w'⟨⟨v',rfl,ho⟩,hb⟩;obtain⟨ga,gc,B6,_⟩:=dM ho;have A4:sZ w' B.bb B.sb B.tb B.mv B.bv B.hb:=(hb.block _ h1.bk.lt).trans h1.bk;refine⟨v',rfl,⟨ga,_,gc,B6⟩,by rw[Ur w' _ 2 _ _ _ A4];rfl,US w' _ 2 _ _ A4,λB7 C0=>?_⟩;exact Bk.writes hL m1 h1 v' _ ho hb (by have:=m1.size;omega) (rM h1.om key value B7 C0) (by have:=vr B.m key value;omega)
 have B3:yH (∀W v',(∃l3 S3,Mv (λx=>x=L.tr\/x=L.bk) l l3 w W/\Bk l3 L W {B with t:=b6 (ah ps) B.t key value,m:=aL B.m key value,mv:=v'} S3)->yC 15 #[pV (some ⟨B.bb,0,none⟩),sV key] W λe w'=>∃b,e=rV (bV b)/\Q (rV (bV b)) w'):=λW v'⟨l3,S3,m3,h3⟩=>
  (Ap h3 (f.to hL m3) hL (T.mv m3 λk hk hT=>by rw[B5 k hk] at hT;exact hL.apart.2.2 hT) key hk).mono λe w'⟨b,g1,g2⟩=>⟨b,g1,HQ.o _ _ (.inr ⟨_,fJ.trans m3 g2⟩)⟩
 clear h f hL T hO;generalize mB key value=LG at*;generalize hT1:b6 (ah ps) B.t key value=T1 at*;clear hT1;generalize (cH (ah ps) B.t key value:Int)=E at*;go_enter func13,ntmps13
 go_wp2_with fail
 apply B2.m;rintro e w1⟨rfl,A0⟩;obtain⟨d2,C3,hW⟩:=A7.o w1 A0;have HF:yH (∀b,Q (rV (bV b)) w1):=λb=>HQ.o b _ (.inl A0.same)
 have B1:yH (yC 32 #[pV (some ⟨B.bb,0,none⟩),i6 E] w1 λr w'=>r=rV (bV (cw A2 A1 E))/\w'=w1):=B0.o w1 _ A0;have HW:=aa hW;clear A0 hW;go_wp2_with fail
 refine(A8.o _).mono ?_;rintro e wx⟨rfl,C1⟩;subst C1;cases LG with
 |true=>go_wp2;go_ret;exact⟨HF.o _,trivial⟩
 |false=>
  obtain⟨B8,B9⟩:=A9.o rfl;cases hem:value.toList.isEmpty with
  |true=>go_wp2;go_ret;exact⟨HF.o _,trivial⟩
  |false=>
   cases hE:(E != 0) with
   |true=>
    go_wp2_with fail
    apply B1.m;rintro e wy⟨rfl,C2⟩;subst C2;go_wp2;go_ret;exact⟨HF.o _,trivial⟩
   |false=>
    go_wp2_with fail
    apply HW.m;rintro e w2⟨v',rfl,⟨g,n,c,rfl⟩,e2,e3,A5⟩;have B4:=aa (B3.o _ _ (A5 B8 B9).o);clear A5 d2;go_wp2_with fail
    apply B4.m;rintro e w3⟨b,rfl,A3⟩;have A6:=aa A3;clear A3;go_wp2;go_ret;exact⟨A6.o,trivial⟩
def QO{l L w B S u s vs d}(h:Bk l L w B S)(f:cI l L w B.sb B.hb u s vs d)(i:L.ok)(T:aB w)(A0:∀k,k<3->l k=0)(key:yB)(j:key.size<=maxLen)(hn:B.m.length<3999999999):yC 14 #[pV (qA B.bb),sV key] w λe w'=>∃b,e=rV (bV b)/\(vj l L w B (bC (ah d) B.t key).1 B.m w'\/vj l L w B (bE (ah d) (bC (ah d) B.t key).1 key) (aL B.m key ⟨#[]⟩) w'):=by
 refine dd λQ y=>?_
 obtain⟨C,J⟩:=h.over f i T;obtain⟨_,c1,_,_,_⟩:=h.cells;have h3:=T.size;have O:yH (yC 34 #[pV (qA B.tb),sV key] w λe w'=>e=rV (tV #[bV (bC (ah d) B.t key).2.1,i6 ((bC (ah d) B.t key).2.2:Int)])/\fJ l L w {B with t:=(bC (ah d) B.t key).1} w'):=
  (Ck h.tr h.loose C J key j).mono λe w'⟨h1,h2⟩=>⟨h1,h.yu i h2 (Bi h.tr.ok h.loose)⟩
 have R:yH (∀W,yC 31 #[sV key,sV ⟨#[]⟩] W λe w'=>e=rV (bV (mB key ⟨#[]⟩))/\w'=W):=λW=>wZ key ⟨#[]⟩ j (by decide) W
 have U:yH (mB key ⟨#[]⟩=false->key.size<=40):=λh=>by have:=of_decide_eq_false h;omega
 have V:yH (∀w1 c,fJ l L w {B with t:=(bC (ah d) B.t key).1} w1->yC 32 #[pV (qA B.bb),i6 c] w1 λr w'=>r=rV (bV (cw u s c))/\w'=w1):=λw1 c⟨l1,S1,m1,h1⟩=>by
  obtain⟨_,_,_,_,a4⟩:=h1.cells;obtain⟨b0,b1⟩:=(f.to i m1).cells;exact rS a4 b0 b1 c
 have N:yH (∀w1,fJ l L w {B with t:=(bC (ah d) B.t key).1} w1->w1.cell? ⟨B.bb,2,none⟩=some B.mv/\B.bb<w1.heap.size/\(yC 35 #[B.mv,sV key] w1 λe w'=>e=rV (sV (bD B.m key))/\w'=w1)/\yC 33 #[B.mv,sV key,sV ⟨#[]⟩] w1 λe w'=>∃a,e=rV a/\(∃g n c,a=lV g n c)/\w'.cell? ⟨B.bb,2,none⟩=some B.mv/\w'.frozen? ⟨B.bb,2,none⟩=false/\(key.size<=40->yH (∃l3 S3,Mv (λx=>x=L.tr\/x=L.bk) l l3 w (w'.setCell ⟨B.bb,2,none⟩ a)/\Bk l3 L (w'.setCell ⟨B.bb,2,none⟩ a) {B with t:=(bC (ah d) B.t key).1,m:=aL B.m key ⟨#[]⟩,mv:=a} S3))):=λw1⟨l1,S1,m1,h1⟩=>by
  obtain⟨_,_,a2,_,_⟩:=h1.cells;refine⟨a2,h1.bk.lt,og w1 _ B.m key h1.pm (by omega),(An w1 B.mv B.m key ⟨#[]⟩ h1.pm (by omega)).mono ?_⟩;rintro e w'⟨⟨a,rfl,K⟩,G⟩;obtain⟨ga,gc,A1,_⟩:=dM K;have H:sZ w' B.bb B.sb B.tb B.mv B.bv B.hb:=(G.block _ h1.bk.lt).trans h1.bk;refine⟨a,rfl,⟨ga,_,gc,A1⟩,by rw[Ur w' _ 2 _ _ _ H];rfl,US w' _ 2 _ _ H,λA2=>?_⟩;exact Bk.writes i m1 h1 a _ K G (by have:=m1.size;omega) (rM h1.om key ⟨#[]⟩ A2 (by decide)) (by have:=vr B.m key ⟨#[]⟩;omega)
 have X:yH (∀W a,(∃l3 S3,Mv (λx=>x=L.tr\/x=L.bk) l l3 w W/\Bk l3 L W {B with t:=(bC (ah d) B.t key).1,m:=aL B.m key ⟨#[]⟩,mv:=a} S3)->yC 15 #[pV (qA B.bb),sV key] W λe w'=>∃b,e=rV (bV b)/\Q (rV (bV b)) w'):=λW a⟨l3,S3,m3,h3⟩=>
  (Ap h3 (f.to i m3) i (T.mv m3 λk j D=>by rw[A0 k j] at D;exact i.apart.2.2 D) key j).mono λe w'⟨b,g1,g2⟩=>⟨b,g1,y.o _ _ (.inr ⟨_,fJ.trans m3 g2⟩)⟩
 clear h f i T C J;generalize mB key ⟨#[]⟩=LG at*;generalize (bC (ah d) B.t key).1=T1 at*;generalize (bC (ah d) B.t key).2.1=WAS at*;generalize ((bC (ah d) B.t key).2.2:Int)=E at*;generalize bD B.m key=HV at*;go_enter func14,ntmps14
 go_wp2_with fail
 apply O.m;rintro e w1⟨rfl,o⟩;obtain⟨d2,A6,A,F⟩:=N.o w1 o;have P:=aa A;have p:yH (∀b,Q (rV (bV b)) w1):=λb=>y.o b _ (.inl o.same)
 have v:yH (yC 32 #[pV (qA B.bb),i6 E] w1 λr w'=>r=rV (bV (cw u s E))/\w'=w1):=V.o w1 _ o;have Z:=aa F;clear o F A;go_wp2_with fail
 refine(R.o _).mono ?_;rintro e wx⟨rfl,A4⟩;subst A4;cases LG with
 |true=>
  cases hE:(E == 1)<;>
   (go_wp2_with fail;go_ret;exact⟨p.o _,trivial⟩)
 |false=>
  have A3:=U.o rfl;cases hE:(E != 0) with
  |true=>
   go_wp2_with fail
   apply v.m;rintro e wy⟨rfl,q⟩;subst q;go_wp2;go_ret;exact⟨p.o _,trivial⟩
  |false=>
   go_wp2_with fail
   apply P.m;rintro e wy⟨rfl,q⟩;subst q;cases WAS<;>cases hws:HV.toList.isEmpty
   all_goals
    go_wp2_with fail
    first
    |apply v.m
     rintro e wz⟨rfl,A5⟩;subst A5;go_wp2;go_ret;exact⟨p.o _,trivial⟩
    |apply Z.m
     rintro e w2⟨a,rfl,⟨g,n,c,rfl⟩,e2,e3,I⟩;have Y:=aa (X.o _ _ (I A3).o);clear I d2;go_wp2_with fail
     apply Y.m;rintro e w3⟨b,rfl,z⟩;have M:=aa z;clear z;go_wp2;go_ret;exact⟨M.o,trivial⟩
def oS{t}(a:aO t):(bQ t).length=32:=by
 cases t with
 |nil=>exact kE _
 |unread h=>
  rw[nQ (t:=.unread h) trivial];split
  .exact kE _
  exact a
 |leaf h p v=>
  rw[nQ (t:=.leaf h p v) trivial];split
  .exact kE _
  next e=>exact a.1.two.resolve_left e
 |ext h p k=>
  rw[nQ (t:=.ext h p k) trivial];split
  .exact kE _
  next e=>exact a.1.two.resolve_left e
 |branch h v ks=>
  rw[nQ (t:=.branch h v ks) trivial];split
  .exact kE _
  next e=>exact a.1.two.resolve_left e
def Lp{F}(h:fu [] F):F=.nil:=by
 by_cases hs:F.some
 .let⟨x,h1,h2⟩:=ri F 0 h.ok h.all hs;exact absurd (h.find x h1) h2
 cases F<;>first|rfl|exact absurd trivial hs
def Th(a:Int):aR [] a=.nil:=Lp (jV o9 a)
def QA{l L w B S A z vs ps}(h:Bk l L w B S)(f:cI l L w B.sb B.hb A z vs ps)(T:aB w)(j:Int)(hr:Rg j):yC 19 #[pV (qA B.bb),i6 j] w λe w'=>∃b,e=rV (bV b)/\yW w w':=by
 refine dd λQ HQ=>?_
 have G4:=h.nm;have A1:∀p∈B.m,p.1.size<=maxLen/\p.2.size<=maxLen:=λp n=>by have:=h.om.size p n;unfold maxLen;omega
 have P:=jV h.om j;have B1:=xJ B.m j;obtain⟨mv,E7⟩:=yX B.mv;obtain⟨a,cap,F⟩:=h.pm.form;have G:yH (∀W,yW w W->yc W B.bb 1 (pV (qA B.tb))/\yc W B.bb 2 (lV a B.m.length cap)/\yc W B.bb 4 (pV (qA B.hb))/\yc W B.hb 0 (bV A)/\yc W B.hb 1 (bV z)/\B.bb<W.heap.size/\B.hb<W.heap.size):=λW d=>by
  obtain⟨_,c1,c2,_,c4⟩:=h.cells;obtain⟨d0,d1⟩:=f.cells;rw[F] at c2;exact⟨eg d c1,eg d c2,eg d c4,eg d d0,eg d d1,Us h.bk.lt d.size,Us f.hu.lt d.size⟩
 have D7:yH (yC 37 #[pV (qA B.tb)] w λe w'=>e=rV (sV (ae (bQ B.t)))/\yW w w'):=by
  obtain⟨⟨u,h1,h2⟩,h3,_⟩:=h.tr;exact qQ w B.tb _ u B.t S h1 h2 h3.aK T
 have B9:yH (∀W,yW w W->yC 43 #[lV a B.m.length cap,i6 j] W λe w'=>∃sb i,e=rV (pV (qA i))/\Own (λx=>x<W.heap.size) w' sb i (aR B.m j)/\yW W w'):=λW d=>by
  have:=Ax W B.mv B.m j (h.pm.below d) (by omega) hr A1 (T.below d);rw[F] at this;exact this
 have C0:yH (∀W,yW w W->yC 43 #[lV none 0 0,i6 j] W λe w'=>∃sb i,e=rV (pV (qA i))/\Own (λx=>x<W.heap.size) w' sb i .nil/\yW W w'):=λW d=>by
  have:=Ax W (lV none 0 0) [] j (eH.nil W) (by decide) hr (λp n=>by cases n) (T.below d);rw[Th] at this;exact this
 have D5:yH (∀K W sb i,Own K W sb i (aR B.m j)->yW w W->yC 37 #[pV (qA i)] W λe w'=>e=rV (sV (ae (bQ (aR B.m j))))/\Own K w' sb i (aR B.m j)/\yW W w'):=λK W sb i s d=>s.root (T.below d)
 have D6:yH (∀K W sb i,Own K W sb i .nil->yW w W->yC 37 #[pV (qA i)] W λe w'=>e=rV (sV (ae (bQ .nil)))/\Own K w' sb i .nil/\yW W w'):=λK W sb i s d=>s.root (T.below d)
 have C4:yH (∀W,yW w W->yC 10 #[] W λe w'=>e=rV (sV (ae bM))/\yW W w'):=λW d=>ph W (T.below d)
 have D2:yH (∀K sb i W key,Own K W sb i (aR B.m j)->yW w W->(∀x,x<w.heap.size->K x)->key.size<=maxLen->yC 44 #[pV (qA i),sV key] W λe w'=>∃u,e=rV (tV #[u,i6 (cK bj (aR B.m j) key:Int)])/\w'.ownsRow W.heap.size 9 1 u ((aQ bj (aR B.m j) key).map ae).length (((aQ bj (aR B.m j) key).map ae).map Value.string)/\yW w w'/\W.heap.size<=w'.heap.size):=λK sb i W key s d hK Z=>
  (s.prove (T.below d) key Z).mono λe w'⟨⟨u,e1,e2⟩,e3,e4⟩=>⟨u,e1,by rw[UM,<-vA];exact e2,d.trans ((e4.less hK).below d.size),e4.size⟩
 have C1:yH (∀W u l,yW w W->gQ W u l->l.length<=4200000000000->(∀p∈l,p.size<=maxLen)->yC 45 #[u] W λe w'=>e=rV (bV (bY l l.length))/\yW W w'):=λW u l d hu hl hs=>pk W u l hu hl hs (T.below d)
 have D3:yH (∀key,(aQ bj (aR B.m j) key).length<=81/\∀c∈aQ bj (aR B.m j) key,c.length<=4096):=λkey=>zt P.ok B1 key
 have C7:yH (∀W,yc W B.bb 4 (pV (qA B.hb))->yc W B.hb 0 (bV A)->yc W B.hb 1 (bV z)->yC 32 #[pV (qA B.bb),i6 0] W λr w'=>r=rV (bV (cw A z 0))/\w'=W):=λW h1 h2 h3=>rS h1 h2 h3 0
 have C6:yH (∀W,yW w W->0<B.m.length->∃g key,a=some ⟨g,0,none⟩/\yc W g 0 (sV key)/\key.size<=maxLen/\g<W.heap.size):=λW d h0=>by
  have n:B.m[0]? =some B.m[0]:=Uh h0;have B8:=h.pm;rw[F] at B8;obtain⟨g,e,hg,c,_⟩:=B8.at_ 0 _ n;exact⟨g,_,e,eg d c,(A1 _ (Vc h0)).1,Us hg d.size⟩
 have G6:((ae (bQ B.t)).size:Int)=32:=by rw[aN,oS h.tr.ok.aK];rfl
 have G7:((ae (bQ (aR B.m j))).size:Int)=32:=by rw[aN,oS P.ok.aK];rfl
 have G5:((ae (bQ .nil)).toList == (ae bM).toList)=true:=by rw[pX];exact Uw rfl
 obtain⟨i0,E4,F4,F5,F6⟩:=Vp oo;obtain⟨c1,_⟩:=G.o w (Un _ _);clear h f T A1 P B1 F E7 hr;generalize bQ (aR B.m j)=RB at*;generalize aR B.m j=o at*;generalize bQ B.t=RT at*;generalize bQ .nil=RN at*;generalize B.m.length=N at*;go_enter func19,ntmps19
 go_wp2_with fail
 apply D7.m;rintro e w1⟨rfl,R⟩;have D:=aa R;obtain⟨_,c2,_⟩:=G.o w1 R;clear R c1;go_wp2_with fail
 refine(B9.o w1 D.o).mono ?_;rintro e w2⟨sb,i,rfl,A6,B2⟩;have H:=aa (D.o.trans (B2.mono D.o.size));have C9:=aa A6;clear B2 A6 c2;go_wp2_with fail
 refine(D5.o _ _ _ _ C9.o H.o).mono ?_;rintro e w3⟨rfl,A7,B3⟩;have I:=aa (H.o.trans (B3.mono H.o.size));have D0:=aa A7;clear B3 A7;go_wp2_with fail
 refine(C0.o w3 I.o).mono ?_;rintro e w4⟨F7,F8,rfl,A8,U⟩;have J:=aa (I.o.trans (U.mono I.o.size));have D1:=aa A8;have D8:=aa (D0.o.below U);clear U A8;go_wp2_with fail
 refine(D6.o _ _ _ _ D1.o J.o).mono ?_;rintro e w5⟨rfl,_,V⟩;have M:=aa (J.o.trans (V.mono J.o.size));have D9:=aa (D8.o.below V);clear V;go_wp2_with fail
 refine(C4.o w5 M.o).mono ?_;rintro e w6⟨rfl,X⟩;have q:=aa (M.o.trans (X.mono M.o.size));have E0:=aa (D9.o.below X);obtain⟨_,c2,c4,d0,d1,G1,G2⟩:=G.o w6 q.o;clear X;have HF:yH (∀b,Q (rV (bV b)) w6):=λb=>HQ.o b _ q.o
 by_cases y:0<N/\((ae RB).toList == (ae bM).toList)=true
 .obtain⟨E8,F0⟩:=y;have E9:(0:Int)<(N:Int):=by omega
  obtain⟨g,key,rfl,k0,E5,G0⟩:=C6.o w6 q.o E8;have A3:=D2.o _ _ _ _ key E0.o q.o (λx hx=>Us hx D.o.size) E5;obtain⟨E1,A9⟩:=D3.o key;generalize (cK bj o key:Int)=E at*;generalize aQ bj o key=C at*;have D4:=aa A3;have C2:yH (∀p∈C.map ae++[bf],p.size<=maxLen):=λp n=>by
   rcases UA.1 n with n|n
   .obtain⟨c,y,rfl⟩:=UO.1 n;have:=A9 c y;rw[aN];unfold maxLen;omega
   rw[Uo.1 n];decide
  clear A3 A9;go_wp2_with fail
  apply D4.m;rintro e w7⟨u,rfl,A0,B4,F1⟩;have O:=aa B4;have A2:=aa A0;obtain⟨a7,F9,F2,_⟩:=dM A0;have G3:(C.map ae).length<=81:=by rw[UM];exact E1
  have G8:=F1;generalize C.map ae=CS at*;subst F2;clear A0 B4;go_wp2_with (at_builtin;refine U0 _ rfl (.tmp 68) (.tmp 69) 63 rfl w6.heap.size 9 i0 (sV ⟨#[]⟩) 1 16 underlying63 E4 F4 F5 F6 rfl (by decide) _ CS.length (CS.map Value.string) rfl (A2.o.alloc _) ⟨w7.heap.size,0,none⟩ 1 1 [sV bf] rfl rfl (Vx _ _ _) ?f2 (by omega) ?f3 ?f4 ?f5 _ rfl ?f6)
  case f2=>first|rfl| (intro v hv;simp at hv;subst hv;rfl)
  case f3=>unfold maxLen;omega
  case f4=>omega
  case f5=>first|omega| (simp;omega)
  intro g5 A5 w8 B7 B6 E2 E6;have Y:yW w w8:=(O.o.alloc O.o.size _).grown B6 (by have:=O.o.size;simp;omega) (λk Z=>by have:=(A2.o.lt k Z).1;have:=q.o.size;omega);have B0:gQ w8 (lV (qA g5) (CS.length+1) A5) (CS++[bf]):=qd (base:=w6.heap.size) (by rw[Uq,Vl];exact B7);have C3:yH (yC 45 #[lV (qA g5) (CS.length+1) A5] w8 λe w'=>e=rV (bV (bY (CS++[bf]) (CS++[bf]).length))/\yW w8 w'):=by
   exact C1.o w8 _ _ Y B0 (by rw[Uq,Vm];omega) C2.o
  have A4:=aa Y;clear B7 B6 E2 E6 Y B0;go_wp2_with fail
  apply C3.m;rintro e w9⟨rfl,B5⟩;have C5:yH (∀b,Q (rV (bV b)) w9):=λb=>HQ.o b _ (A4.o.trans (B5.mono A4.o.size))
  clear B5;go_wp2;go_ret;exact⟨C5.o _,trivial⟩
 have C8:=aa (C7.o w6 c4 d0 d1);have E3:((0:Int)<(N:Int)/\((ae RB).toList == (ae bM).toList)=false)\/N=0:=by
  by_cases h:0<N
  .exact .inl ⟨by omega,Bool.eq_false_iff.2 λe=>y ⟨h,e⟩⟩
  exact .inr (by omega)
 clear y;rcases E3 with⟨E9,F0⟩|rfl<;>cases hq2:((ae RT).toList == (ae RB).toList)<;>
  (go_wp2_with fail;first
   |go_ret
    exact⟨HF.o _,trivial⟩
   |apply C8.m
    rintro e wz⟨rfl,F3⟩;subst F3;go_wp2;go_ret;exact⟨HF.o _,trivial⟩)
def uh:∀(A B) (k),ah (A++B) k=(ah A k).or (ah B k)
 | [],B,k=>rfl
 |p::A,B,k=>by
  show(if(p.1.toList == k.toList)=true then some p.2 else ah (A++B) k)=_
  simp only[ah]
  split
  .rfl
  exact uh A B k
def ue:∀(a) (h k),ah (others a h) k=if k=h then none else ah a k
 | [],h,k=>by simp[others,ah]
 |p::a,h,k=>by
  have b:=ue a h k
  unfold others at b⊢
  by_cases e:p.1=h
  .rw[List.filter_cons_of_neg (by rw[dV,Uw e];decide),b]
   by_cases e2:k=h
   .rw[Uj e2,Uj e2]
   rw[Ui e2,Ui e2]
   simp only[ah,dV]
   rw[Uv (by rw[e];exact λh=>e2 h.symm)];rfl
  rw[List.filter_cons_of_pos (by rw[dV,Uv e];decide)]
  show(if(p.1.toList == k.toList)=true then some p.2 else ah (List.filter (λp=>!(p.1.toList == h.toList)) a) k)=if k=h then none else(if(p.1.toList == k.toList)=true then some p.2 else ah a k)
  rw[b,dV]
  by_cases e2:p.1=k
  .rw[Uw e2,Uj rfl,Uj rfl,Ui (by rw[<-e2];exact e)]
  rw[Uv e2];simp
def uf(a h t k):ah (fp a h t) k=if k=h then some t else ah a k:=by
 unfold fp;have h0:=ue a h k;generalize aZ (others a h) h=n;have hs:ah (others a h) k=(ah ((others a h).take n) k).or (ah ((others a h).drop n) k):=by rw[<-uh,VB]
 rw[uh,uh];have h1:ah [(h,t)] k=if k=h then some t else none:=by
  simp only[ah,dV];by_cases e:k=h
  .rw[Uj e,Uj (Uw e.symm)]
  rw[Ui e,Ui (by rw[Uv λx=>e x.symm];decide)]
 rw[h1];by_cases e:k=h
 .rw[Uj e,Uj e];rw[Uj e,hs] at h0;cases ha:ah ((others a h).take n) k with
  |none=>rfl
  |some x=>rw[ha] at h0;cases h0
 rw[Ui e,Ui e];rw[Ui e,hs] at h0;rw[<-h0];cases ah ((others a h).take n) k<;>rfl
def wT:∀(l:List yL) (a) (k),(ah (aT a l) k=ah a k/\∀c∈l,ag (ae c)≠k)\/∃c∈l,ah (aT a l) k=some (ae c)/\ag (ae c)=k
 | [],a,k=>.inl ⟨rfl,λc h=>by cases h⟩
 |c::l,a,k=>by
  rcases wT l (fp a (ag (ae c)) (ae c)) k with⟨h1,h2⟩|⟨d,h1,h2,h3⟩
  .rw[uf] at h1
   by_cases e:k=ag (ae c)
   .rw[Uj e] at h1
    exact .inr ⟨c,Uk ..,h1,e.symm⟩
   rw[Ui e] at h1
   refine .inl ⟨h1,λd b=>?_⟩
   rcases UC.1 b with rfl|b
   .exact λh=>e h.symm
   exact h2 d b
  exact .inr ⟨d,Ul _ h1,h2,h3⟩
def jb(k x y z:Int)(s t:yB):Value:=gV #[iV .i64 k,iV .i64 x,iV .i64 y,iV .i64 z,sV s,sV t]
def lD(l:Nat->Nat)(L:jG)(w:World)(sb a:Nat)(d c:Bool)(b:List (yB×yB))(w':World):Prop:=∃l' vs',Mv (λx=>x=L.st\/x=L.hu) l l' w w'/\cI l' L w' sb a d c vs' b
def cI.tF{l L w sb a j e f d}(h:cI l L w sb a j e f d)(g:L.ok):cI l L (w.setCell ⟨a,0,none⟩ (bV true)) sb a true e f d/\Mv (λx=>x=L.st\/x=L.hu) l l w (w.setCell ⟨a,0,none⟩ (bV true)):=by
 have M:Mv (λx=>x=L.hu) l l w (w.setCell ⟨a,0,none⟩ (bV true)):=by have:=rk (l:=l) (w:=w) (b:=a) (i:=0) (v:=bV true);rwa[h.lh] at this
 refine⟨⟨?_,h.lh,h.st.kept λx c=>M.kept (h.st.st.eM x c) (h.ls x c) g.b.1,h.ls⟩,M.mono λ_ c=>.inr c⟩;show(w.setCell ⟨a,0,none⟩ (bV true)).heap[a]? =_;rw[U7 w a 0 _ _ (0,0) _ h.hu,Vk w a _ _ _ _ h.hu];rfl
def cI.MB{l L w sb a f j e d}(h:cI l L w sb a f j e d)(g:L.ok):cI l L (w.setCell ⟨a,1,none⟩ (bV true)) sb a f true e d/\Mv (λx=>x=L.st\/x=L.hu) l l w (w.setCell ⟨a,1,none⟩ (bV true)):=by
 have M:Mv (λx=>x=L.hu) l l w (w.setCell ⟨a,1,none⟩ (bV true)):=by have:=rk (l:=l) (w:=w) (b:=a) (i:=1) (v:=bV true);rwa[h.lh] at this
 refine⟨⟨?_,h.lh,h.st.kept λx c=>M.kept (h.st.st.eM x c) (h.ls x c) g.b.1,h.ls⟩,M.mono λ_ c=>.inr c⟩;show(w.setCell ⟨a,1,none⟩ (bV true)).heap[a]? =_;rw[U7 w a 1 _ _ (0,0) _ h.hu,Vk w a _ _ _ _ h.hu];rfl
def cI.step{l L w w' sb f j g i q a}(h:cI l L w sb f j g i q)(o:L.ok)(k:dP 3 w w' sb i a)(h3:3<=w.heap.size)(p:a.length<4000000000000)(hs:∀k t,ah a k=some t->t.size<=4096):lD l L w sb f j g a w':=by
 let⟨l',r,m,h1,h2,n⟩:=Du h.ls k (h.st.st.eM sb (.inl rfl));refine⟨l',r,m.mono λ_ c=>.inl c,⟨(m.kept h.hu.lt h.lh (λe=>o.b.1 e.symm)).trans h.hu,(m.bt _ h.hu.lt).trans h.lh,⟨h1,p,hs,λx c=>?_⟩,h2⟩⟩;rcases n x c with d|d
 .exact h.st.m3 x d
 omega
def lD.trans{l l1}{L:jG}{w w1 w2 sb a d c b}(m:Mv (λx=>x=L.st\/x=L.hu) l l1 w w1)(h:lD l1 L w1 sb a d c b w2):lD l L w sb a d c b w2:=by
 let⟨l2,e,m2,h2⟩:=h;exact⟨l2,e,m.trans m2,h2⟩
def cI.drawn{l L w sb a e c d b}(h:cI l L w sb a e c d b)(n:Nat):lD l L w sb a e c b (w.drewN n):=
 ⟨l,d,⟨rfl,rfl,rfl,Ug _,λ_ _=>rfl,λ_ _ _=>rfl⟩,⟨h.hu,h.lh,h.st.kept λ_ _=>rfl,h.ls⟩⟩
def Ab{a p}(h:p∈a):ah a p.1≠none:=by
 induction a with
 |nil=>cases h
 |cons q a ih=>
  simp only[ah];split
  .exact λe=>by cases e
  next hne=>
  rcases UC.1 h with rfl|h
  .rw[dV,Uw rfl] at hne;exact absurd rfl hne
  exact ih h
def FM(l:Nat->Nat)(L:jG)(w:World)(sb a:Nat)(b:Bool)(n:Nat)(w':World):Prop:=∃yes ps',ps'.length<=n+1/\lD l L w sb a yes b ps' w'
def QC{l L w B S A0 j p d}(h:Bk l L w B S)(f:cI l L w B.sb B.hb A0 j p d)(E:L.ok)(T:aB w)(k x y z:Int)(s t:yB)(hy:Rg y)(hn:d.length+1<4000000000000):yC 17 #[pV (qA B.bb),jb k x y z s t] w λe w'=>e=rV (tV #[])/\FM l L w B.sb B.hb j d.length w':=by
 have h3:=T.size;obtain⟨i,F⟩:=yX (w.alloc (.cells #[i6 k,i6 x,i6 y,i6 z,sV s,sV t] 33));have C:yW w i:=by rw[F];exact(Un _ _).alloc (Ug _) _
 have B1:=aa (Ob 3 i B.sb p d (f.st.below C).st (by omega));have A1:yH (∀W,yW w W->cI (gv l w.heap.size) L W B.sb B.hb A0 j p d/\Mv (λx=>x=L.st\/x=L.hu) l (gv l w.heap.size) w W):=λW m=>⟨f.move (Mv.below (λ_=>False) l m) id id,Mv.below _ l m⟩
 have HC:yH (∀W,yW w W->W.cell? ⟨B.bb,0,none⟩=some (pV (qA B.sb))/\W.cell? ⟨B.bb,4,none⟩=some (pV (qA B.hb))/\W.cell? ⟨B.hb,0,none⟩=some (bV A0)/\W.frozen? ⟨B.hb,0,none⟩=false/\B.bb<W.heap.size/\B.hb<W.heap.size/\(W.setCell ⟨B.hb,0,none⟩ (bV true)).cell? ⟨B.bb,0,none⟩=some (pV (qA B.sb))):=λW m=>by
  obtain⟨c0,_,_,_,c4⟩:=h.cells;obtain⟨d0,_⟩:=f.cells;have C5:B.bb≠B.hb:=λe=>E.b.2.2.2.2.1 (by rw[<-f.lh,<-h.lb,e])
  have C3:sZ (W.setCell ⟨B.hb,0,none⟩ (bV true)) B.bb B.sb B.tb B.mv B.bv B.hb:=(Uy _ _ _ _ (show B.bb≠B.hb from C5)).trans ((m.block _ h.bk.lt).trans h.bk);exact⟨eg m c0,eg m c4,eg m d0,US W _ 0 _ _ ((m.block _ f.hu.lt).trans f.hu),Us h.bk.lt m.size,Us f.hu.lt m.size,by rw[Ur _ _ 0 _ _ _ C3];rfl⟩
 have B7:yH (∀W,0<d.length->yC 12 #[i6 y,i6 d.length] W λe w'=>e=rV (i6 (bW y d.length))/\w'=W):=λW h0=>qq y _ hy h0 (by omega) W
 have B4:yH (0<d.length->bW y d.length<d.length):=λh0=>ky y _ h0
 have B8:yH (∀(W:World) (v:Value),0<d.length->W.ownsRow i.heap.size 9 1 v d.length (jz d)->∃g cap,v=lV (qA g) d.length cap/\g<W.heap.size/\w.heap.size<=g/\∃H,W.cell? ⟨g,bW y d.length,none⟩=some (sV H)):=λW v h0 M=>by
  obtain⟨a,cap,rfl,_,_,fo⟩:=dM M;rcases fo with⟨_,C6,_⟩|⟨g,rfl⟩
  .omega
  have A6:=ky y d.length h0;have hp:d[bW y d.length]? =some d[bW y d.length]:=Uh A6;exact⟨g,cap,rfl,(M.lt g rfl).2,Ut C.size (M.lt g rfl).1,_,fc M rfl _ _ (by unfold jz;rw[UK,hp];rfl)⟩
 have B2:yH (∀W q,cI (gv l w.heap.size) L W B.sb B.hb true j p d->Mv (λx=>x=L.st\/x=L.hu) l (gv l w.heap.size) w W->yC 40 #[pV (qA B.sb),sV q] W λe w'=>(∃c,e=rV (i6 c))/\FM l L w B.sb B.hb j d.length w'):=λW q u A=>by
  refine(NV 3 W B.sb p d u.st.st q (by omega)).mono ?_;rintro e w'⟨r,J⟩;have C4:=oW d q;rcases J with⟨_,n,rfl⟩|⟨_,h2⟩
  .exact⟨⟨_,r⟩,_,_,Nat.le_succ _,lD.trans A (u.drawn n)⟩
  refine⟨⟨_,r⟩,_,_,by omega,lD.trans A (u.step E h2 (by have:=A.size;omega) (by omega) λk' Z o=>?_)⟩;rw[ue] at o;split at o
  .cases o
  exact f.st.sm k' Z o
 have B5:yH (∀W q,cI (gv l w.heap.size) L W B.sb B.hb true j p d->Mv (λx=>x=L.st\/x=L.hu) l (gv l w.heap.size) w W->yC 41 #[pV (qA B.sb),sV q,sV s] W λe w'=>(∃c,e=rV (i6 c))/\FM l L w B.sb B.hb j d.length w'):=λW q u A=>by
  have A5:3<=W.heap.size:=by have:=A.size;omega
  refine(NW 3 W B.sb p d u.st.st q s (by omega) A5).mono ?_;intro e w' J;have hd:FM l L w B.sb B.hb j d.length W:=⟨_,_,Nat.le_succ _,lD.trans A (u.drawn 0)⟩
  have C4:=Al d q s;rcases J with⟨_,r,rfl⟩|⟨_,_,r,rfl⟩|⟨_,h2,r,J⟩
  .exact⟨⟨_,r⟩,hd⟩
  .exact⟨⟨_,r⟩,hd⟩
  refine⟨⟨_,r⟩,_,_,by omega,lD.trans A (u.step E J A5 (by omega) λk' Z o=>?_)⟩;rw[uf] at o;split at o
  .cases o;exact h2
  exact f.st.sm k' Z o
 have B9:yH (∀W,yW w W->cI (gv l w.heap.size) L (W.setCell ⟨B.hb,0,none⟩ (bV true)) B.sb B.hb true j p d/\Mv (λx=>x=L.st\/x=L.hu) l (gv l w.heap.size) w (W.setCell ⟨B.hb,0,none⟩ (bV true))):=λW m=>by
  obtain⟨f1,m1⟩:=A1.o W m;obtain⟨f2,m2⟩:=f1.tF E;exact⟨f2,m1.trans m2⟩
 have A4:∀W,yW i W->W.cell? ⟨w.heap.size,0,none⟩=some (i6 k)/\W.cell? ⟨w.heap.size,2,none⟩=some (i6 y)/\W.cell? ⟨w.heap.size,4,none⟩=some (sV s):=λW m=>by
  have hb:i.heap[w.heap.size]? =some (.cells #[i6 k,i6 x,i6 y,i6 z,sV s,sV t] 33 (0,0)):=by rw[F];exact UG w _
  have V:=(m.block w.heap.size (Um.1 hb).1).trans hb;exact⟨by rw[Ur W _ 0 _ _ _ V];rfl,by rw[Ur W _ 2 _ _ _ V];rfl,by rw[Ur W _ 4 _ _ _ V];rfl⟩
 have A8:=aa A4;have A7:=aa C;obtain⟨c0,_⟩:=HC.o i C;have D0:=h.bk.lt;have D4:=f.hu.lt;clear h f E T hy A4 C;generalize hN:d.length=N at*;unfold jb;go_enter func17,ntmps17
 go_upto_region 1 with fail
 rw[<-F];have D9:i.heap.size=w.heap.size+1:=by rw[F];simp
 have C9:B.bb<i.heap.size:=by omega
 clear F;go_wp2_with fail
 apply B1.m;rintro e w1⟨⟨v,rfl,O⟩,G⟩;have P:=aa (A7.o.trans (G.mono (by omega)));obtain⟨d0,d4,e0,ef,D6,D7,C2⟩:=HC.o w1 P.o;obtain⟨b0,b2,b4⟩:=A8.o w1 G;have D1:w.heap.size<w1.heap.size:=by have:=G.size;omega
 clear c0;by_cases U:0<N
 .obtain⟨g,cap,rfl,D2,D3,H,cg⟩:=B8.o w1 v U O;have A6:=B4.o U;have A3:yH (∀W,yC 12 #[i6 y,i6 N] W λe w'=>e=rV (i6 (bW y N))/\w'=W):=λW=>B7.o W U
  obtain⟨f2,m2⟩:=B9.o w1 P.o;have B0:=aa f2;have B6:=aa m2;have C7:(N:Int)≠0:=by omega
  have C8:((N:Int) == 0)=false:=by simp;omega
  have D8:((bW y N:Nat):Int)<(N:Int):=by omega
  have C0:(w1.setCell ⟨B.hb,0,none⟩ (bV true)).cell? ⟨w.heap.size,0,none⟩=some (i6 k):=by rw[Uz (w:=w1) (Uy _ _ _ _ (show w.heap.size≠B.hb by omega))];exact b0
  have C1:(w1.setCell ⟨B.hb,0,none⟩ (bV true)).cell? ⟨w.heap.size,4,none⟩=some (sV s):=by rw[Uz (w:=w1) (Uy _ _ _ _ (show w.heap.size≠B.hb by omega))];exact b4
  have B3:yH (yC 40 #[pV (qA B.sb),sV H] (w1.setCell ⟨B.hb,0,none⟩ (bV true)) λe w'=>(∃c,e=rV (i6 c))/\FM l L w B.sb B.hb j N w'):=B2.o _ _ f2 m2;have A2:yH (yC 41 #[pV (qA B.sb),sV H,sV s] ((w1.setCell ⟨B.hb,0,none⟩ (bV true)).drew) λe w'=>(∃c,e=rV (i6 c))/\FM l L w B.sb B.hb j N w'):=B5.o _ _ ⟨f2.hu,f2.lh,f2.st.kept λ_ _=>rfl,f2.ls⟩ ⟨m2.os,m2.tape,m2.output,m2.size,m2.bt,m2.ai⟩;generalize bW y N=I at*;clear f2 m2 O G;by_cases X:k=6
  .subst X;go_wp2_with fail
   refine(A3.o _).mono ?_;rintro e wx⟨rfl,Y⟩;subst Y;go_wp2_with fail
   apply B3.m;rintro e w2⟨⟨c,rfl⟩,D⟩;have Q:=aa D;clear D;go_wp2;go_end0;exact⟨rfl,Q.o⟩
  have D5:(k == 6)=false:=by simpa using X
  obtain⟨R,K⟩:=yX (w1.setCell ⟨B.hb,0,none⟩ (bV true));have E0:R.heap.size=w1.heap.size:=by rw[K];simp
  rw[<-K] at A2 C0 C1 C2 B0 B6;clear X;go_wp2_with fail
  refine(A3.o _).mono ?_;rintro e wx⟨rfl,Y⟩;subst Y;go_upto_region 7 with fail
  rw[<-K];clear K;go_region_with (go_at_call 41;apply A2.m;rintro e1 w2⟨⟨c,rfl⟩,D⟩)
  all_goals
   have Q:=aa D;clear D;go_wp2;go_end0;exact⟨rfl,Q.o⟩
 obtain rfl:N=0:=by omega
 obtain⟨a,cap,rfl,_⟩:=dM O;obtain⟨f1,m1⟩:=A1.o w1 P.o;have A9:yH (FM l L w B.sb B.hb j 0 w1):=⟨_,_,by omega,_,_,m1,f1⟩
 clear f1 m1 O G;go_wp2;(try simp only[Exit.inBlock,Exit.then])
 refine UB (results_none rfl _ _ _) rfl ?_;exact⟨rfl,A9.o⟩
def Bk.row{l1 L}{w1 w2:World}{B S g}(h:Bk l1 L w1 B S)(i:L.ok)(q:w1.heap.size<=w2.heap.size)(d:∀k,k<w1.heap.size->k≠g->w2.heap[k]? =w1.heap[k]?)(f:l1 g=0)(o:B.mv.ownBlock≠some g)(l:B.bv.ownBlock≠some g):Bk (gv l1 w1.heap.size) L w2 B S:=by
 let⟨_,_,a3,a4⟩:=i.a;have m:B.bb≠g:=λe=>by have:=h.lb;rw[e,f] at this;omega
 have p:B.tb≠g:=λe=>by have:=h.lt;rw[e,f] at this;omega
 have j:∀x,S x->x≠g:=λx c e=>by have:=h.lS x c;rw[e,f] at this;omega
 exact
  {bk:=(d _ h.bk.lt m).trans h.bk
   lb:=(kH h.bk.lt).trans h.lb
   pm:=cM h.pm λk b=>d k (h.pm.lt k b).2 λe=>o (e▸b)
   lm:=λk b=>(kH (h.pm.lt k b).2).trans (h.lm k b)
   pb:=cM h.pb λk b=>d k (h.pb.lt k b).2 λe=>l (e▸b)
   lv:=λk b=>(kH (h.pb.lt k b).2).trans (h.lv k b)
   tr:=h.tr.same q λx c n=>d x n (by rcases c with rfl|c;exact p;exact j x c)
   loose:=h.loose
   lS:=λx c=>(kH (h.tr.own x c).2.2).trans (h.lS x c)
   lt:=(kH h.tr.lt).trans h.lt
   om:=h.om
   ob:=h.ob
   nm:=h.nm
   nb:=h.nb}
def cI.row{l1 L}{w1 w2:World}{sb c m j l i g}(h:cI l1 L w1 sb c m j l i)(n:L.ok)(f:∀k,k<w1.heap.size->k≠g->w2.heap[k]? =w1.heap[k]?)(d:l1 g=0):cI (gv l1 w1.heap.size) L w2 sb c m j l i:=by
 let⟨a1,a2,_,_⟩:=n.a;exact
  {hu:=(f _ h.hu.lt λe=>by have:=h.lh;rw[e,d] at this;omega).trans h.hu
   lh:=(kH h.hu.lt).trans h.lh
   st:=h.st.kept λx b=>f x (h.st.st.eM x b) λe=>by have:=h.ls x b;rw[e,d] at this;omega
   ls:=λx b=>(kH (h.st.st.eM x b)).trans (h.ls x b)}
def Mv.row{T l l1}{w w1 w2:World}{g}(m:Mv T l l1 w w1)(d:w2.os=w1.os)(f:w2.tape=w1.tape)(e:w2.output=w1.output)(h:w1.heap.size<=w2.heap.size)(b:∀k,k<w1.heap.size->k≠g->w2.heap[k]? =w1.heap[k]?)(i:w.heap.size<=g):Mv T l (gv l1 w1.heap.size) w w2:=
 ⟨d.trans m.os,f.trans m.tape,e.trans m.output,Ut m.size h,λk a=>(kH (Us a m.size)).trans (m.bt k a),λk a c=>(b k (Us a m.size) (by omega)).trans (m.ai k a c)⟩
def KU:∀(f:Nat) (t) (r) (d:Nat),aA t d->dD t r->aw r->(dS f t r d).length<=f/\∀c∈dS f t r d,c.length<=4096:=by
 intro f;induction f with
 |zero=>intro t r d _ _ _;exact⟨Ug _,λc h=>by cases h⟩
 |succ f ih=>
  intro t r d g j m;by_cases i:t.isNil=true
  .simp only[dS,Uj i];exact⟨UD _,λc h=>by cases h⟩
  have hs:t.some:=(gM t).1 (by simpa using i);have o:t.read:=by cases t<;>first|exact hs.elim|exact j.elim|trivial
  have l:aA (ay t r d).1 (ay t r d).2.2.1/\dD (ay t r d).1 (ay t r d).2.1/\aw (ay t r d).2.1:=by
   have b:aA (Nd.nil) 0/\dD .nil []/\aw []:=⟨mE 0,trivial,λ_ h=>by cases h⟩
   cases t with
   |nil=>exact b
   |unread _=>exact b
   |leaf _ _ _=>exact b
   |ext h q k=>
    simp only[ay];split
    .next e=>exact⟨fq g,j e,da m _⟩
    exact b
   |branch h v ks=>
    cases r with
    |nil=>exact b
    |cons c r=>have a:=m c (Uk ..);exact⟨dA g _ a,j,λy p=>m y (Ul _ p)⟩
  let⟨i1,i2⟩:=ih _ _ _ l.1 l.2.1 l.2.2;simp only[dS,Ui i];have n:(dm t d).length<=1/\∀c∈dm t d,c.length<=4096:=by
   unfold dm;split
   .exact⟨Ug _,λc a=>by rw[Uo.1 a];exact(g.aK.ow o).2⟩
   exact⟨UD _,λc h=>by cases h⟩
  exact⟨by rw[Uq];omega,λc a=>(UA.1 a).elim (n.2 c) (i2 c)⟩
def wj{G t}(a:aA t 0)(key):(aQ G t key).length<=81/\∀c∈aQ G t key,c.length<=4096:=by
 unfold aQ;split
 .exact⟨UD _,λc h=>by cases h⟩
 next h40=>
 split
 .next h0=>exact KU 81 _ (aD key) 0 (jk G t key a) (kA G t key a (by omega) h0) (b8 key)
 exact⟨UD _,λc h=>by cases h⟩
def tj(b key:yB)(a:List yB):Option yL:=jo 81 (bP b.data.toList) (aD key) 0 false a []
def e8(b key:yB)(a:List yB):yB:=if b.size≠32 then⟨#[]⟩ else if 40<key.size\/kC a=true then⟨#[]⟩ else match tj b key a with|none=>⟨#[]⟩|some v=>ae v
def gR(b key:yB)(a:List yB):Int:=if b.size≠32 then 2 else if 40<key.size\/kC a=true then 1 else match tj b key a with|none=>12 |some _=>0
def yp(b key)(a:List yB):jO b key a=tV #[sV (e8 b key a),i6 (gR b key a)]:=by
 unfold jO e8 gR tj;split
 .rfl
 split
 .rfl
 cases jo 81 (bP b.data.toList) (aD key) 0 false a []<;>rfl
structure T7(l:Nat->Nat)(L:jG)(w:World)(B:eO)(yes dW:Bool)(ps:List (yB×yB))(v:Value)(cs:List yB)(w':World)(l1:Nat->Nat)(S1:Nat->Prop)(vs:Nat->Value)(b0:Nat):Prop where
 mv:Mv (fun x=>x=L.tr\/x=L.bk) l l1 w w'
 bk:Bk l1 L w' B S1
 cP:cI l1 L w' B.sb B.hb yes dW vs ps
 row:w'.ownsRow b0 9 1 v cs.length (cs.map Value.string)
 low:w.heap.size<=b0
 hi:b0<=w'.heap.size
 bt:∀g,v.ownBlock=some g->l1 g=0
 mm:∀g,B.mv.ownBlock=some g->g<w.heap.size
 bb:∀g,B.bv.ownBlock=some g->g<w.heap.size
def gP(l:Nat->Nat)(L:jG)(w:World)(B:eO)(c b:Bool)(a:List (yB×yB))(v:Value)(cs:List yB)(w':World):Prop:=∃l1 S1 vs b0,T7 l L w B c b a v cs w' l1 S1 vs b0
def gP.to{l L w B d c b v cs w'}(h:gP l L w B d c b v cs w'):fJ l L w B w':=by
 let⟨l1,a,e,b0,h⟩:=h;exact⟨l1,a,h.mv,h.bk⟩
def gP.below{l L w B f e d v cs w' w2}(h:gP l L w B f e d v cs w')(b:Below w'.heap.size w' w2):gP l L w B f e d v cs w2:=by
 let⟨l1,i,j,b0,h⟩:=h;have c:=Mv.below (λ_=>False) l1 b;exact⟨_,i,j,b0,⟨h.mv.trans (c.mono λ_ hx=>hx.elim),h.bk.move c id id id,h.cP.move c id id,cM h.row λg a=>b.block g (h.row.lt g a).2,h.low,Ut h.hi b.size,λg a=>(kH (h.row.lt g a).2).trans (h.bt g a),h.mm,h.bb⟩⟩
def gP.cells{l L w B b a c v cs w'}(h:gP l L w B b a c v cs w'):yc w' B.bb 1 (pV (qA B.tb))/\yc w' B.bb 2 B.mv/\yc w' B.bb 4 (pV (qA B.hb))/\yc w' B.hb 0 (bV b)/\yc w' B.hb 1 (bV a)/\eH w' B.mv B.m/\gQ w' v cs:=by
 let⟨l1,d,e,b0,h⟩:=h;let⟨_,c1,c2,_,c4⟩:=h.bk.cells;let⟨d0,d1⟩:=h.cP.cells;exact⟨c1,c2,c4,d0,d1,h.bk.pm,qd h.row⟩
def gP.grown{l L w B m j i v cs w' w2}(h:gP l L w B m j i v cs w')(f:L.ok)(a:w'.grownBy w2 v.ownBlock):∃l2 S2 vs2,Mv (λx=>x=L.tr\/x=L.bk) l l2 w w2/\Bk l2 L w2 B S2/\cI l2 L w2 B.sb B.hb m j vs2 i:=by
 cases hv:v.ownBlock with
 |none=>
  have n:Below w'.heap.size w' w2:=⟨a.os,a.tape,a.output,a.size,λk c=>a.block k c λe=>by rw[hv] at e;cases e⟩
  let⟨l1,b,d,b0,h⟩:=h.below n;exact⟨l1,b,d,h.mv,h.bk,h.cP⟩
 |some g=>
  let⟨l1,b,d,b0,h⟩:=h;have g1:=Ut h.low (h.row.lt g hv).1;have g2:=h.bt g hv;have g3:∀k,k<w'.heap.size->k≠g->w2.heap[k]? =w'.heap[k]? :=λk c o=>a.block k c λe=>o (by rw[hv] at e;injection e)
  exact⟨_,b,d,h.mv.row a.os a.tape a.output a.size g3 g1,h.bk.row f a.size g3 g2 (λe=>by have:=h.mm g e;omega) (λe=>by have:=h.bb g e;omega),h.cP.row f g3 g2⟩
def Bk.mq{l L w B S p n o b}(h:Bk l L w B S)(f:cI l L w B.sb B.hb p n o b)(c:L.ok)(T:aB w)(key:yB)(z:key.size<=maxLen):yC 44 #[pV (qA B.tb),sV key] w λe w'=>∃v,e=rV (tV #[v,i6 (cK (ah b) B.t key:Int)])/\gP l L w {B with t:=bE (ah b) B.t key} p n b v ((aQ (ah b) B.t key).map ae) w':=by
 let⟨u,_⟩:=h.over f c T;refine(BR h.tr u key z).mono ?_;rintro e w'⟨v,w1,y,s,i,j,_⟩;let⟨l',S',m,h1,h2⟩:=ys h.lS h.lt s;have q:=h.mU c m h1 h2 (uB h.tr.ok h.loose);have k:Mv (λx=>x=L.tr\/x=L.bk) l l' w w1:=m.mono λ_ hx=>.inl hx
 have r:=f.to c k;have d:=Mv.below (λ_=>False) l' i;refine⟨v,y,⟨_,S',o,w1.heap.size,⟨k.trans (d.mono λ_ hx=>hx.elim),q.move d id id id,r.move d id id,by rwa[UM,<-vA],m.size,i.size,λg a=>ou (j.lt g a).1,λg a=>(h.pm.lt g a).2,λg a=>(h.pb.lt g a).2⟩⟩⟩
def Gz(key:yB)(b:key.size<=maxLen)(W):yC 31 #[sV key,sV ⟨#[]⟩] W λe w'=>e=rV (bV (decide (40<key.size)))/\w'=W:=by
 have:=wZ key ⟨#[]⟩ b (by decide) W;have e:mB key ⟨#[]⟩=decide (40<key.size):=by
  unfold mB;by_cases h:40<key.size
  .rw[Uw h,Uw (.inl h)]
  rw[Uv h,Uv];rintro (a|a);exact h a;exact absurd a (by decide)
 rwa[e] at this
def Gw{l L w B S s q vs i}(h:Bk l L w B S)(f:cI l L w B.sb B.hb s q vs i)(A:L.ok)(T:aB w)(P:∀k,k<3->l k=0)(key:yB)(x:key.size<=maxLen):yC 20 #[pV (qA B.bb),sV key] w λe w'=>∃b,e=rV (bV b)/\fJ l L w {B with t:=bE (ah i) B.t key} w':=by
 refine dd λQ M=>?_
 obtain⟨_,c1,_,_,_⟩:=h.cells;have D3:=aa (h.mq f A T key x);have C7:yH (∀W,yC 31 #[sV key,sV ⟨#[]⟩] W λe w'=>e=rV (bV (mB key ⟨#[]⟩))/\w'=W):=λW=>wZ key ⟨#[]⟩ x (by decide) W
 have C8:yH (mB key ⟨#[]⟩=false->(key.size:Int)<=40):=λh=>by have:=of_decide_eq_false h;omega
 obtain⟨B0,B1⟩:=wj (G:=ah i) h.tr.ok key;have H:∀c∈(aQ (ah i) B.t key).map ae,c.size<=4096:=λc U=>by
  obtain⟨d,hd,rfl⟩:=UO.1 U;rw[aN];exact B1 d hd
 have F2:((aQ (ah i) B.t key).map ae).length<=81:=by rw[UM];exact B0
 have A5:yH (∀v w',gP l L w {B with t:=bE (ah i) B.t key} s q i v ((aQ (ah i) B.t key).map ae) w'->aB w'):=λv w'⟨l1,F,A0,b0,j⟩=>T.mv j.mv λk x C=>by rw[P k x] at C;exact A.apart.2.2 C
 have D5:yH (∀v w',gP l L w {B with t:=bE (ah i) B.t key} s q i v ((aQ (ah i) B.t key).map ae) w'->yC 37 #[pV (qA B.tb)] w' λe w2=>e=rV (sV (ae (bQ (bE (ah i) B.t key))))/\gP l L w {B with t:=bE (ah i) B.t key} s q i v ((aQ (ah i) B.t key).map ae) w2):=λv w' j=>by
  have Tw:=A5.o v w' j;obtain⟨l1,F,A0,b0,y⟩:=id j;obtain⟨⟨u,h1,h2⟩,h3,_⟩:=y.bk.tr;exact(qQ w' B.tb _ u _ F h1 h2 h3.aK Tw).mono λe w2⟨e1,e2⟩=>⟨e1,j.below e2⟩
 have D7:yH (∀v a cap w',v=lV a ((aQ (ah i) B.t key).map ae).length cap->gP l L w {B with t:=bE (ah i) B.t key} s q i v ((aQ (ah i) B.t key).map ae) w'->yC 46 #[sV (ae (bQ (bE (ah i) B.t key))),sV key,v] w' λe w2=>e=rV (tV #[sV (e8 (ae (bQ (bE (ah i) B.t key))) key ((aQ (ah i) B.t key).map ae)),i6 (gR (ae (bQ (bE (ah i) B.t key))) key ((aQ (ah i) B.t key).map ae))])/\gP l L w {B with t:=bE (ah i) B.t key} s q i v ((aQ (ah i) B.t key).map ae) w2):=λv a cap w' z j=>by
  subst z;obtain⟨_,_,_,_,_,_,V⟩:=j.cells;rw[<-yp];exact(BK w' _ key a cap _ V (by unfold maxLen;omega) (λp j=>by have:=H p j;unfold maxLen;omega) x (A5.o _ w' j)).mono λe w2⟨e1,e2⟩=>⟨e1,j.below e2⟩
 have C6:yH (∀W,eH W B.mv B.m->yC 35 #[B.mv,sV key] W λe w'=>e=rV (sV (bD B.m key))/\w'=W):=λW R=>og W _ B.m key R (by have:=h.nm;omega)
 have A3:yH (∀W c,yc W B.bb 4 (pV (qA B.hb))->yc W B.hb 0 (bV s)->yc W B.hb 1 (bV q)->yC 32 #[pV (qA B.bb),i6 c] W λr w'=>r=rV (bV (cw s q c))/\w'=W):=λW c h1 h2 h3=>rS h1 h2 h3 c
 have C0:yH (∀W u (l:List yB),aB W->gQ W u l->l.length<=4200000000000->(∀p∈l,p.size<=maxLen)->yC 45 #[u] W λe w'=>e=rV (bV (bY l l.length))/\yW W w'):=λW u l R hu hl hs=>pk W u l hu hl hs R
 have C4:yH (∀v w' w2,gP l L w {B with t:=bE (ah i) B.t key} s q i v ((aQ (ah i) B.t key).map ae) w'->w'.grownBy w2 v.ownBlock->aB w2/\∀w3,yW w2 w3->(∀b,Q (rV (bV b)) w3)/\yc w3 B.bb 4 (pV (qA B.hb))/\yc w3 B.hb 0 (bV s)/\yc w3 B.hb 1 (bV q)):=λv w' w2 j I=>by
  obtain⟨l2,S2,F8,m2,h2,f2⟩:=j.grown A I;refine⟨T.mv m2 λk x C=>by rw[P k x] at C;exact A.apart.2.2 C,λw3 hb=>?_⟩;have Y:=Mv.below (λ_=>False) l2 hb;have h3:=h2.move Y id id id;have f3:=f2.move Y id id;obtain⟨_,_,_,_,a4⟩:=h3.cells;obtain⟨b0,b1⟩:=f3.cells;exact⟨λb=>M.o b _ ⟨_,S2,m2.trans (Y.mono λ_ hx=>hx.elim),h3⟩,a4,b0,b1⟩
 have F7:=h.pm.form;obtain⟨i0,D9,E6,E7,E8⟩:=Vp oo;clear h f A T P B0 B1;generalize hBT:bE (ah i) B.t key=BT at*;clear hBT;generalize (cK (ah i) B.t key:Int)=E at*;generalize mB key ⟨#[]⟩=LG at*;generalize (aQ (ah i) B.t key).map ae=cs at*;generalize ae (bQ BT)=RT at*;have q44:∀(w:World) (a:Option Addr) (n c Z O:Nat),(binOp .eql 63 (lV a n c) (lV none Z O)).run yP w=.ok (bV a.isNone) w:=λw a n c Z O=>Lib.run_eql_slice_nil w _ _ a n c Z O underlying63
 have A1:=aa H;clear H;go_enter func20,ntmps20
 go_wp2_with fail
 apply D3.m;rintro e w1⟨v,rfl,j⟩;have D2:=aa j;obtain⟨a,cap,z,_⟩:∃a cap,v=lV a cs.length cap/\True:=by
  obtain⟨l1,F,A0,b0,y⟩:=j;obtain⟨a,cap,e,_⟩:=dM y.row;exact⟨a,cap,e,trivial⟩
 subst z;obtain⟨d1,_,d4,e0,e1,_⟩:=j.cells;have B9:yH (∀k (_:k<cs.length),∃c g o,a=some ⟨g,o,none⟩/\yc w1 g (o+k) (sV c)/\c.size<=4096):=λk x=>by
  have U:cs[k]? =some cs[k]:=Uh x;obtain⟨_,_,_,_,_,_,a',E9,e,V⟩:=j.cells;cases e;rcases V with h|⟨g,o,e,h⟩
  .rw[h] at x;cases x
  exact⟨_,g,o,e,h k _ U,A1.o _ (Vc x)⟩
 have D0:=aa (A3.o w1 E d4 e0 e1);generalize cw s q E=MK at*;have D:yH (∀b,Q (rV (bV b)) w1):=λb=>M.o b _ j.to
 clear j d4 e0 e1;go_wp2_with fail
 refine(C7.o _).mono ?_;rintro e wx⟨rfl,E4⟩;subst E4;cases LG with
 |true=>
  cases hE:(E == 1)<;>
   (go_wp2_with fail;go_ret;exact⟨D.o _,trivial⟩)
 |false=>
  have F5:=C8.o rfl;cases hE:(E != 0) with
  |true=>
   go_wp2_with fail
   apply D0.m;rintro e wz⟨rfl,X⟩;subst X;cases MK<;>
    (go_wp2_with fail;go_ret;exact⟨D.o _,trivial⟩)
  |false=>
   by_cases F6:(2*(key.size:Int)+1)<(cs.length:Int)
   .go_wp2;go_ret;exact⟨D.o _,trivial⟩
   generalize hN:cs.length=N at*;go_wp2;go_loopg [9] N (λg r wr=>∃k:Nat,g=N - k/\k<=N/\r=i6 k/\wr=wx)
   .exact⟨0,rfl,by omega,rfl,rfl⟩
   obtain⟨k,I,F4,rfl,rfl⟩:=hrel;have HG:=aa I;clear I;by_cases E2:k<N
   .obtain⟨c,g,o,rfl,cc,H⟩:=B9.o k E2;have E0:(k:Int)<(N:Int):=by omega
    by_cases F0:(693:Int)<(c.size:Int)
    .go_wp2;go_ret;exact⟨D.o _,trivial⟩
    go_wp2;go_roundg (N - (k+1))
    .exact⟨k+1,rfl,by omega,by go_num,rfl⟩
    have:=HG.o;omega
   obtain rfl:k=N:=by omega
   have E0:¬(k:Int)<(k:Int):=by omega
   have D4:=aa (D5.o _ _ D2.o);go_wp2_with fail
   apply D4.m;rintro e w2⟨rfl,B7⟩;have D6:yH (yC 46 #[sV RT,sV key,lV a k cap] w2 λe w3=>e=rV (tV #[sV (e8 RT key cs),i6 (gR RT key cs)])/\gP l L w {B with t:=BT} s q i (lV a k cap) cs w3):=D7.o _ a cap w2 rfl B7;clear B7 d1;go_wp2_with fail
   apply D6.m;rintro e w3⟨rfl,J⟩;obtain⟨_,d2,_,_,_,A7,_⟩:=J.cells;have A4:=aa J;have C5:=aa (C6.o w3 A7);have C2:yH (∀b,Q (rV (bV b)) w3):=λb=>M.o b _ J.to
   clear J A7;simp only at d2;go_wp2_with fail
   apply C5.m;rintro e K⟨rfl,E5⟩;subst E5;generalize bD B.m key=HV at*;generalize e8 RT key cs=VS at*;generalize gR RT key cs=VC at*;have F3:cs.length<=81:=by omega
   obtain⟨l1,F,A0,b0,y⟩:=id A4.o;have D1:=aa y.row;have F1:=y.hi;have B8:yH (gP l L w {B with t:=BT} s q i (lV a k cap) cs (K.alloc (.cells #[sV bf] 9))):=A4.o.below ((Un _ _).alloc (Ug _) _);clear y;cases hvc:(VC == 0)<;>cases hvs:(VS.toList == HV.toList)
   all_goals
    go_wp2_with (at_builtin;refine U0 _ rfl (.tmp 87) (.tmp 88) 63 rfl b0 9 i0 (sV ⟨#[]⟩) 1 16 underlying63 D9 E6 E7 E8 rfl (by decide) _ cs.length (cs.map Value.string) rfl (D1.o.alloc _) ⟨K.heap.size,0,none⟩ 1 1 [sV bf] rfl rfl (Vx _ _ _) (by first|rfl| (intro v z;simp at z;subst z;rfl)) (by omega) (by unfold maxLen;omega) (by omega) (by first|omega| (simp;omega)) _ rfl ?_)
    first
    |go_ret
     exact⟨C2.o _,trivial⟩
    |intro g8 A6 w8 B6 B5 D8 E3
     obtain⟨T8,B4⟩:=C4.o _ _ w8 B8.o B5;have E1:(cs++[bf]).length=k+1:=by rw[Uq,hN];rfl
     have B2:gQ w8 (lV (qA g8) (k+1) A6) (cs++[bf]):=qd (base:=b0) (by rw[E1,Vl];exact B6);have A8:=C0.o w8 _ (cs++[bf]) T8 B2 (by rw[Uq,Vm];omega) (λp j=>by
      rcases UA.1 j with j|j
      .have:=A1.o p j;unfold maxLen;omega
      rw[Uo.1 j];decide)
     have C3:=aa B4;generalize bY (cs++[bf]) (cs++[bf]).length=CK at*;have C1:=aa A8;clear B6 B5 D8 E3 B4 B2 A8 T8;go_wp2_with fail
     apply C1.m;rintro e w9⟨rfl,B3⟩;obtain⟨A9,f4,f0,f1⟩:=C3.o w9 B3;have A2:=aa A9;have C9:=aa (A3.o w9 VC f4 f0 f1);clear B3 A9;cases CK<;>
      (go_wp2_with fail;first
       |go_ret
        exact⟨A2.o _,trivial⟩
       |apply C9.m
        rintro e wz⟨rfl,X⟩;subst X;go_wp2;go_ret;exact⟨A2.o _,trivial⟩)
def QB(a:List (yB×yB))(B:yL->Prop)(c:yL):Prop:=B c/\ah a (ag (ae c))=some (ae c)
def Dl(a)(B:yL->Prop):sE (ah a) False (QB a B):=λ_ hc=>.inl hc.2
def dI(a:List (yB×yB))(B:yL->Prop)(t:Nd)(m:List (yB×yB)):Prop:=cT m/\∃F,fu m F/\Part (QB a B) t F
def cY(m:List (yB×yB)):yB:=ae (bQ (aR m 1))
def dI.opened{a B t m}(h:dI a B t m)(b:aA t 0)(key):(aG (ah a) t key).2=0/\dI a B (aG (ah a) t key).1 m:=by
 let⟨h0,F,h1,h2⟩:=h;let⟨k1,_,k3⟩:=Ou (Dl a B) 81 t F (aD key) 0 false h2 b h1.ok h1.loose h1.all (λh=>by cases h) (λh=>absurd h (Nat.lt_irrefl 0)) (b8 key);exact⟨k3.elim id λh=>h.1.elim,h0,F,h1,k1⟩
def dI.get{a B t m}(h:dI a B t m)(b:aA t 0){key:yB}(c:key.size<=40):cK (ah a) t key=0/\jn (ah a) t key=bD m key:=by
 let⟨k1,_,F,k2,k3⟩:=h.opened b key;unfold cK jn;rw[Ui (by omega),Ui (by omega),Uj k1];refine⟨k1,?_⟩;rw[k3.find (kA _ t key b c k1) (b8 key),k2.find _ (b8 key),ql];unfold ae;simp
def dI.Hx{a B t m}(h:dI a B t m)(b:aA t 0)(key):dI a B (bE (ah a) t key) m:=by
 unfold bE;split
 .exact h
 exact(h.opened b key).2
def dI.root{c B t m}(h:dI c B t m)(b:aA t 0):ae (bQ t)=cY m:=by
 let⟨h0,F,h1,h2⟩:=h;have a:=jV h0 1;unfold cY;rw[h2.root b.aK h1.ok.aK,(h1.one a (λ_=>True)).root h1.ok.aK a.ok.aK]
def dI.put{a B t m}(h:dI a B t m)(b:aA t 0){key value:yB}(c:key.size<=40)(h0:0<value.size)(e:value.size<=160):cH (ah a) t key value=0/\dI a B (fR (ah a) t key value) m/\dI a B (jx (ah a) t key value) (aL m key value):=by
 let⟨k1,f⟩:=h.opened b key;have d:¬(40<key.size\/160<value.size):=by omega
 unfold cH fR jx;rw[Ui d,Ui (by omega),Ui d,Ui (by omega)];let⟨k0,F,k2,k3⟩:=id f;have g:value.data.toList.length=value.size:=by simp
 exact⟨k1,f,rM k0 key value c e,_,CL k2 key value c h0 e,(Ow (jk _ t key b).aK k2.ok.aK k3 (kA _ t key b c k1) (b8 key) (by rw[g6];omega) (by omega)).1⟩
def dI.del{b B t m}(h:dI b B t m)(c:aA t 0)(n:bK t){key:yB}(e:key.size<=40):(bC (ah b) t key).2.2=0/\(bC (ah b) t key).2.1=decide ((bD m key).size≠0)/\dI b B (bC (ah b) t key).1 (aL m key ⟨#[]⟩):=by
 let⟨h0,k0,F,k2,k3⟩:=h.opened c key;have k:cT (aL m key ⟨#[]⟩):=rM k0 key _ e (by decide);have f:=kA _ t key c e h0;unfold bC;rw[Ui (by omega),Ui (by simpa using h0)];have d:=k3.find f (b8 key);have g:aM F (aD key)=(bD m key).data.toList:=(k2.find _ (b8 key)).trans (ql m key);have j:(bD m key).data.toList.length=(bD m key).size:=by simp
 by_cases a:aM (aG (ah b) t key).1 (aD key)=[]
 .rw[Uj a];refine⟨rfl,?_,k,F,CM k2 key (by rwa[<-d]),k3⟩;rw[d,g] at a;rw[a] at j;simp at j;exact(Uv (by omega)).symm
 rw[Ui a];have i:=px _ _ a;rcases EW (Dl b B) _ F (aD key) 0 k3 (jk _ t key c) k2.ok (oY _ t key c n) k2.loose k2.all f i (b8 key) (by rw[g6];omega) with⟨q,l,e1,e2,o⟩|⟨p,_⟩
 .rw[e1];refine⟨rfl,?_,k,l,CN k2 key e (Hw k3 f (b8 key) i) e2,o.1⟩;rw[d,g] at a;refine(Uw ?_).symm;intro e3;exact a (UH.1 (by omega))
 exact p.elim
def yn{Q}:∀(f:Nat) (t F) (p) (d:Nat),aO t->Part Q t F->dD t p->aw p->(d=0\/t.hash=F.hash)->dS f t p d=dS f F p d:=by
 have o:∀{t F:Nd} {d:Nat},aO t->Part Q t F->t.read->(d=0\/t.hash=F.hash)->dm t d=dm F d:=λ{t F d} g a hr i=>by
  unfold dm;rw[a.code g hr];rcases i with rfl|i
  .simp
  rw[i]
 intro f;induction f with
 |zero=>intros;rfl
 |succ f ih=>
  intro t F p d g a s u i;cases t with
  |nil=>rw[show F=.nil from a]
  |unread h=>exact s.elim
  |leaf h q v=>have l:=o g a trivial i;obtain⟨b,rfl⟩:=id a;show(if _ then _ else dm _ _++_)=(if _ then _ else dm _ _++_);rw[l];rfl
  |ext h q k=>
   have l:=o g a trivial i;obtain⟨b,n,rfl,h1,h2⟩:=id a;show(if _ then _ else dm _ _++dS f (ay (.ext h q k) p d).1 (ay (.ext h q k) p d).2.1 (ay (.ext h q k) p d).2.2.1)=(if _ then _ else dm _ _++dS f (ay (.ext b q n) p d).1 (ay (.ext b q n) p d).2.1 (ay (.ext b q n) p d).2.2.1);rw[l,Ui (by simp[Nd.isNil]),Ui (by simp[Nd.isNil])];unfold ay;dsimp only;congr 1;by_cases e:aF q p=q.length
   .rw[Uj e,Uj e];exact ih k n _ _ g.2.2.2.2 h1 (s e) (λc j=>u c (List.mem_of_mem_drop j)) (.inr h2)
   rw[Ui e,Ui e]
  |branch h v ks=>
   have l:=o g a trivial i;obtain⟨b,m,rfl,h1⟩:=id a;show(if _ then _ else dm _ _++dS f (ay (.branch h v ks) p d).1 (ay (.branch h v ks) p d).2.1 (ay (.branch h v ks) p d).2.2.1)=(if _ then _ else dm _ _++dS f (ay (.branch b v m) p d).1 (ay (.branch b v m) p d).2.1 (ay (.branch b v m) p d).2.2.1);rw[l];cases p with
   |nil=>rfl
   |cons c r=>have j:=u c (Uk ..);show(if _ then _ else _++dS f (ks c.toNat) r (d+1))=(if _ then _ else _++dS f (m c.toNat) r (d+1));rw[ih (ks c.toNat) (m c.toNat) r (d+1) (g.2.2 _ j) (h1 _ j).1 s (λx w=>u x (Ul _ w)) (.inr (h1 _ j).2)];rfl
def dI.KW{d B t m}(h:dI d B t m)(a:aA t 0){key:yB}(c:key.size<=40):aQ (ah d) t key=aQ bj (aR m 1) key:=by
 let⟨h0,k0,F,k2,k3⟩:=h.opened a key;have b:=jV k0 1;rw[p8 b.all c];unfold aQ;rw[Ui (by omega),Uj h0,yn 81 _ F _ 0 (jk _ t key a).aK k3 (kA _ t key a c h0) (b8 key) (.inl rfl)];exact yn 81 F _ _ 0 k2.ok.aK (k2.one b (λ_=>True)) (nT k2.all (b8 key)) (b8 key) (.inl rfl)
def mL(a:List bH)(h:yB):List bH:=if fV a h=true then a.eraseIdx (dt a h) else a
def SN(w)(b sb m:Nat)(l)(f:Nat->List bH)(S:cX 3 w b sb m l f)(h:yB)(hs:0<h.size)(hn:(f (h[0]'hs).toNat).length<4000000000000):yC 130 #[pV (qA b),sV h] w λe w'=>e=rV (tV #[])/\
  (∃v',cX 3 w' b sb m (bd l (h[0]'hs).toNat v') (aS f (h[0]'hs).toNat (mL (f (h[0]'hs).toNat) h))/\v'.ownBlock=(l (h[0]'hs).toNat).ownBlock)/\aU (λk=>k=b\/(l (h[0]'hs).toNat).ownBlock=some k) w w':=by
 have v:(h[0]'hs).toNat<256:=(h[0]'hs).toNat_lt;obtain⟨a,cap,u,A⟩:=S.lK _ v;have A6:=aa (DC w b h hs a cap _ A (by omega));have A8:yH (fV (f (h[0]'hs).toNat) h=true->dt (f (h[0]'hs).toNat) h<(f (h[0]'hs).toNat).length):=Hf;have HS:=aa S;have D7:(0:Int)<(h.size:Int):=by omega
 have T:yH (mL (f (h[0]'hs).toNat) h=if fV (f (h[0]'hs).toNat) h=true then(f (h[0]'hs).toNat).eraseIdx (dt (f (h[0]'hs).toNat) h) else f (h[0]'hs).toNat):=rfl;clear S A u;generalize mL (f (h[0]'hs).toNat) h=CE at*;generalize fV (f (h[0]'hs).toNat) h=hit at*;generalize dt (f (h[0]'hs).toNat) h=i at*;generalize hcc:(h[0]'hs).toNat=c at*;have D3:(c:Int)<256:=by omega
 go_enter func130,ntmps130
 go_wp2_with fail
 apply A6.m;rintro e w1⟨rfl,n1,A3⟩;have o:yH (w1.heap=w.heap/\w1.os=w.os/\w1.tape=w.tape/\w1.output=w.output):=by rw[A3];exact⟨rfl,rfl,rfl,rfl⟩
 have B4:yH (aU (λq=>q=b\/(l c).ownBlock=some q) w w1.drew):=⟨o.o.2.1,o.o.2.2.1,o.o.2.2.2,by show _<=w1.heap.size;rw[o.o.1];exact Ug _,λq _ _=>by show w1.heap[q]? =_;rw[o.o.1]⟩
 have y:=HS.o.same o.o.1;clear A3;cases hit
 .have G:yH (cX 3 w1 b sb m (bd l c (l c)) (aS f c CE)/\aU (λq=>q=b\/(l c).ownBlock=some q) w w1):=by
   have eV:bd l c (l c)=l:=by funext d;by_cases t:d=c<;>simp[bd,t]
   have eS:aS f c CE=f:=by rw[T.o,Ui Bool.false_ne_true];funext d;by_cases t:d=c<;>simp[aS,t]
   refine⟨by rw[eV,eS];exact y,⟨o.o.2.1,o.o.2.2.1,o.o.2.2.2,by rw[o.o.1];exact Ug _,λq _ _=>by rw[o.o.1]⟩⟩
  clear y;go_wp2;(try simp only[Exit.inBlock,Exit.then])
  refine UB (results_none rfl _ _ _) rfl ?_;exact⟨rfl,⟨_,G.o.1,rfl⟩,G.o.2⟩
 have hi:=A8.o rfl;obtain⟨a1,s,u,A⟩:=y.lK c v;have A1:(f c)[i]? =some ((f c)[i]'hi):=Uh hi;obtain⟨g,rfl,C0,C1⟩:=A.at_ i _ A1;obtain⟨L,C⟩:=yX (f c);obtain⟨N,D⟩:∃N,L.length=N+1:=⟨L.length - 1,by rw[C];omega⟩
 have x:(l c).ownBlock=some g:=by rw[u];rfl
 have I:(f c).length=N+1:=by rw[<-C];exact D
 rw[I] at u;have z:=aa D;have H:=aa x;have C3:=aa u;have V:yH (cX 3 w1.drew b sb m l (aS f c (eD L i 0))):=by
  show cX _ _ _ _ _ _ _;have e:aS f c (eD L i 0)=f:=by funext d;by_cases t:d=c<;>simp[aS,t,eD,C]
  rw[e];exact y.same rfl
 have A5:yH (((eD L i (N - i)).set N (⟨#[]⟩,none)).take N=CE):=by
  have:=Sf L i N (⟨#[]⟩,none) D (by omega);rw[T.o,Uj rfl];rw[C] at this⊢;exact this
 have U:yH (∀W k,cX 3 W b sb m l (aS f c (eD L i k))->W.cell? ⟨b,2+c,none⟩=some (lV (qA g) (N+1) s)/\W.frozen? ⟨b,2+c,none⟩=false/\∀j p,(eD L i k)[j]? =some p->W.cell? ⟨g,j*2,none⟩=some (sV p.1)/\W.cell? ⟨g,j*2+1,none⟩=some (pV p.2)/\W.frozen? ⟨g,j*2,none⟩=false/\W.frozen? ⟨g,j*2+1,none⟩=false):=λW k h=>by
  have E:=h.own c v;simp only[aS,U5] at E;refine⟨by rw[Ur W b (2+c) _ _ _ h.ai,tB _ _ _ _ v,u],US W b (2+c) _ _ h.ai,λj p O=>?_⟩;obtain⟨p1,p2⟩:=vL _ j p O;exact⟨fc E x _ _ p1,fc E x _ _ p2,kZ E x _,kZ E x _⟩
 have B1:yH (∀W k p,L[i+k+1]? =some p->cX 3 W b sb m l (aS f c (eD L i k))->cX 3 ((W.setCell ⟨g,(i+k)*2,none⟩ (sV p.1)).setCell ⟨g,(i+k)*2+1,none⟩ (pV p.2)) b sb m l (aS f c (eD L i (k+1)))):=λW k p O h=>by
  have:=h.put c v g x (i+k) p;have e:aS (aS f c (eD L i k)) c ((aS f c (eD L i k) c).set (i+k) p)=aS f c (eD L i (k+1)):=by
   funext d
   by_cases t:d=c
   .simp only[aS,t,U5];show(eD L i k).set (i+k) p=(eD L i k).set (i+k) (L.getD (i+k+1) _);rw[Up,O];rfl
   simp only[aS,t,UT]
  rw[e] at this;exact this
 have A7:yH (∀W,cX 3 W b sb m l (aS f c (eD L i (N - i)))->cX 3 (((W.setCell ⟨g,N*2,none⟩ (sV ⟨#[]⟩)).setCell ⟨g,N*2+1,none⟩ (pV none)).drew.setCell ⟨b,2+c,none⟩ (lV (qA g) N s)) b sb m (bd l c (lV (qA g) N s)) (aS f c CE)):=λW h=>by
  have h1:=h.put c v g x N (⟨#[]⟩,none);have A0:(aS (aS f c (eD L i (N - i))) c ((aS f c (eD L i (N - i)) c).set N (⟨#[]⟩,none)) c).length=N+1:=by
   simp only[aS,U5];rw[Vh,qD];exact D
  have h2:=(h1.same (w':=((W.setCell ⟨g,N*2,none⟩ (sV ⟨#[]⟩)).setCell ⟨g,N*2+1,none⟩ (pV none)).drew) rfl).cut c v g s N (by rw[A0];exact u) (by rw[A0];omega);have e:aS (aS (aS f c (eD L i (N - i))) c ((aS f c (eD L i (N - i)) c).set N (⟨#[]⟩,none))) c ((aS (aS f c (eD L i (N - i))) c ((aS f c (eD L i (N - i)) c).set N (⟨#[]⟩,none)) c).take N)=aS f c CE:=by
   funext d
   by_cases t:d=c
   .simp only[aS,t,U5];exact A5.o
   simp only[aS,t,UT]
  rw[e] at h2;exact h2
 have B9:=y.fL c g v x;have C2:=aa B9;have D4:N+1<=s:=by
  obtain⟨a',C4,e1,e2,_⟩:=dM (y.own c v);rw[u,I] at e1;cases e1;rw[I] at e2;exact e2
 have D5:i<=N:=by omega
 have D1:N<4000000000000:=by omega
 obtain⟨d0,_,_⟩:=U.o w1.drew 0 V.o;have B6:=d0;have A4:yH (∀W,cX 3 W b sb m (bd l c (lV (qA g) N s)) (aS f c CE)->∃v',cX 3 W b sb m (bd l c v') (aS f c CE)/\v'.ownBlock=(l c).ownBlock):=λW h=>⟨_,h,by rw[u];rfl⟩
 clear C0 C1 d0;clear y A A1 C D x u I hi hn;go_wp2;go_region
 go_wp2;clear B6;go_loopg [8] (N - i) (λq r wr=>∃k:Nat,q=N - i - k/\k<=N - i/\r=i6 ((i:Int)+(k:Int))/\yH (cX 3 wr b sb m l (aS f c (eD L i k)))/\yH (aU (λq=>q=b\/(l c).ownBlock=some q) w wr))
 .exact⟨0,rfl,by omega,by go_num,V,B4⟩
 obtain⟨k,hg,hk,rfl,J,X⟩:=hrel;have HG:=aa hg;clear hg;obtain⟨e0,C5,B⟩:=U.o wr k J.o;by_cases D6:k<N - i
 .obtain⟨M,K⟩:=yX (i+k);obtain⟨Q,Y⟩:=yX (i+k+1);have B8:(i:Int)+(k:Int)=(M:Int):=by omega
  have C9:(M:Int)+1=(Q:Int):=by omega
  have P:L[i+k+1]? =some (L[i+k+1]'(by rw[z.o];omega)):=Uh _;have A2:(eD L i k)[i+k+1]? =L[i+k+1]? :=Bl L i k _ (.inr (by omega));have F:(eD L i k)[i+k]? =some ((eD L i k)[i+k]'(by rw[qD,z.o];omega)):=Uh _;obtain⟨s1,s2,_,_⟩:=B _ _ (A2.trans P);obtain⟨t1,t2,t3,t4⟩:=B _ _ F;have R:=B1.o wr k _ P J.o;generalize L[i+k+1]'(by rw[z.o];omega)=p at*;generalize (eD L i k)[i+k]'(by rw[qD,z.o];omega)=pu at*;rw[<-K] at t1 t2 t3 t4 R;rw[<-Y] at s1 s2;rw[B8];have B0:=aa R;have C7:(M:Int)<(N:Int):=by omega
  have C8:(M:Int)<(N:Int)+1:=by omega
  have D2:(Q:Int)<(N:Int)+1:=by omega
  have D8:IntKind.i64.wrap (Q:Int)=(Q:Int):=by rw[UY];omega
  have D9:IntKind.i64.wrap (M:Int)=(M:Int):=by rw[UY];omega
  have A9:=aa K;have B5:yH (aU (λq=>q=b\/(l c).ownBlock=some q) w ((wr.setCell ⟨g,M*2,none⟩ (sV p.1)).setCell ⟨g,M*2+1,none⟩ (pV p.2))):=
   aU.set (w':=wr.setCell ⟨g,M*2,none⟩ (sV p.1)) (aU.set (w':=wr) X.o ⟨g,M*2,none⟩ _ (.inl (.inr H.o))) ⟨g,M*2+1,none⟩ _ (.inl (.inr H.o))
  have B2:yH (Q=i+(k+1)):=by show _=_;omega
  clear P A2 F R B Y K;go_wp2;go_roundg (N - i - (k+1))
  .exact⟨k+1,rfl,by omega,by have:=A9.o;have:=B2.o;go_num,B0,B5⟩
  have:=HG.o;omega
 obtain rfl:k=N - i:=by omega
 have B7:(i:Int)+((N - i:Nat):Int)=(N:Int):=by omega
 rw[B7];have C6:¬(N:Int)<(N:Int):=by omega
 have F:(eD L i (N - i))[N]? =some ((eD L i (N - i))[N]'(by rw[qD,z.o];omega)):=Uh _;obtain⟨t1,t2,t3,t4⟩:=B _ _ F;have Z:=A7.o wr J.o;have G:=aa Z;have D0:(N:Int)<(N:Int)+1:=by omega
 have B3:yH (aU (λq=>q=b\/(l c).ownBlock=some q) w (((wr.setCell ⟨g,N*2,none⟩ (sV ⟨#[]⟩)).setCell ⟨g,N*2+1,none⟩ (pV none)).drew.setCell ⟨b,2+c,none⟩ (lV (qA g) N s))):=by
  have h2:=aU.set (w':=wr.setCell ⟨g,N*2,none⟩ (sV ⟨#[]⟩)) (aU.set (w':=wr) X.o ⟨g,N*2,none⟩ (sV ⟨#[]⟩) (.inl (.inr H.o))) ⟨g,N*2+1,none⟩ (pV none) (.inl (.inr H.o));exact aU.set (w':=((wr.setCell ⟨g,N*2,none⟩ (sV ⟨#[]⟩)).setCell ⟨g,N*2+1,none⟩ (pV none)).drew) ⟨h2.os,h2.tape,h2.output,h2.size,h2.block⟩ ⟨b,2+c,none⟩ _ (.inl (.inl rfl))
 clear Z F B;generalize (eD L i (N - i))[N]'(by rw[qD,z.o];omega)=pu at*;go_wp2;go_region
 all_goals
  go_end0;exact⟨rfl,A4.o _ G.o,B3.o⟩
def mg(e:bH):Nat:=match e.2 with
 |some a=>a.block
 |none=>0
def eK(e:bH):yB×yB:=(e.1,ae (List.replicate (mg e) 0))
def tP(h):∀ps:List bH,aZ (ps.map eK) h=dt ps h
 | []=>rfl
 |p::t=>by
  show(if cD p.1 h then aZ (t.map eK) h+1 else 0)=(if cD p.1 h then dt t h+1 else 0)
  rw[tP h t]
def ux(a:List bH)(h):ew (a.map eK) h=fV a h:=by
 unfold ew fV;rw[tP,UK];cases a[dt a h]?<;>rfl
def kz(L:List bH)(h:yB):Option Nat:=(ah (L.map eK) h).map ByteArray.size
def Pc{L:List bH}{h}(r:eN (L.map eK))(b:fV L h=true){e}(a:L[dt L h]? =some e):kz L h=some (mg e):=by
 unfold kz;rw[r.Ad (q:=eK e) (by rw[ux];exact b) (by rw[tP,UK,a];rfl)];show some (ae _).size=_;rw[aN,List.length_replicate]
def Pa{L:List bH}{h}(r:eN (L.map eK))(a:fV L h=false):kz L h=none:=by
 unfold kz;rw[r.Aa (by rw[ux];exact a)];rfl
def GV{L:List bH}{h}(r:eN (L.map eK))(b:fV L h=false)(a:Nat):(L.take (dt L h)++[((h,some ⟨a,0,none⟩):bH)]++L.drop (dt L h)).map eK=fp (L.map eK) h (ae (List.replicate a 0)):=by
 unfold fp;rw[r.zD (by rw[ux];exact b),tP,Vl,Vl,List.map_take,List.map_drop];rfl
def Pb{L:List bH}{h}(r:eN (L.map eK))(b:fV L h=false)(a:Nat)(x):kz (L.take (dt L h)++[((h,some ⟨a,0,none⟩):bH)]++L.drop (dt L h)) x=if x=h then some a else kz L x:=by
 unfold kz;rw[GV r b,uf];split
 .show some (ae _).size=_;rw[aN,List.length_replicate]
 rfl
def Gb{α β:Type}(f:α->β):∀(L:List α) (k:Nat),(L.map f).eraseIdx k=(L.eraseIdx k).map f
 | [],_=>rfl
 | _::_,0=>rfl
 |a::L,k+1=>by
  show f a::(L.map f).eraseIdx k=f a::(L.eraseIdx k).map f
  rw[Gb f L k]
def Jk{L:List bH}{h}(r:eN (L.map eK)):(mL L h).map eK=others (L.map eK) h:=by
 unfold mL;cases hh:fV L h with
 |true=>rw[Uj rfl,<-r.Bf (by rw[ux];exact hh),tP,Gb]
 |false=>rw[Ui (by simp),r.zD (by rw[ux];exact hh)]
def Pd{L:List bH}{h}(r:eN (L.map eK))(x):kz (mL L h) x=if x=h then none else kz L x:=by
 unfold kz;rw[Jk r,ue];split<;>rfl
def zG:∀{L h a},kz L h=some a->∃(k:Nat)(e:bH),L[k]? =some e/\e.1=h/\mg e=a
 | [],h,a,hh=>by cases hh
 |p::t,h,a,hh=>by
  unfold kz at hh
  rw[show ah ((p::t).map eK) h=if(p.1.toList == h.toList) then some (eK p).2 else ah (t.map eK) h from rfl,dV] at hh
  by_cases e:p.1=h
  .rw[Uw e,Uj rfl] at hh
   refine⟨0,p,rfl,e,?_⟩
   have:=Option.some.inj hh
   rw[<-this]
   show _=(ae _).size
   rw[aN,List.length_replicate]
  rw[Uv e,Ui (by simp)] at hh
  let⟨k,e,h1,h2⟩:=zG (L:=t) hh
  exact⟨k+1,e,h1,h2⟩
structure Kn where
 ok:Prop
 B:yL->Prop
structure Gh where
 g:Nat->List (yB×yB)
 o:yB->Option Nat
abbrev GP:=Gh->Nd->Prop
def aj(X:Gh):GP:=λY _=>Y=X
def aE{α:Type}(f:Nat->α)(a:Nat)(v:α):Nat->α:=λx=>if x=a then v else f x
def cF{α:Type}(f:Nat->α)(a:Nat)(v:α):aE f a v a=v:=by simp[aE]
def cl{α:Type}(f:Nat->α){a x}(v:α)(h:x≠a):aE f a v x=f x:=by simp[aE,h]
def l7{α:Type}(f:Nat->α)(a:Nat):aE f a (f a)=f:=by
 funext x
 by_cases h:x=a
 .rw[h,cF]
 rw[cl _ _ h]
def nU(a:Nat->List bH)(h:yB):Option Nat:=if hs:0<h.size then kz (a (h[0]'hs).toNat) h else none
def oX(a:Nat->List bH){h:yB}(hs:0<h.size):nU a h=kz (a (h[0]'hs).toNat) h:=by unfold nU;rw[dif_pos hs]
structure kO(k:Kn)(ps:List (yB×yB))(X:Gh)(tw:Nat)(D:List Nat)(sh:Nat->List bH)(tr:Nat->Nd):Prop where
 fB:∀c,c<256->eN ((sh c).map eK)
 o:X.o=nU sh
 tw:∀(c j:Nat) (e:bH),c<256->(sh c)[j]? =some e->mg e≠tw
 iG:k.ok->∀tb∈D,dI ps k.B (tr tb) (X.g tb)
def kO.mU{k c X l D f j}(h:kO k c X l D f j)(b:Nat)(i a)(m:k.ok->dI c k.B i a):kO k c ⟨aE X.g b a,X.o⟩ l D f (aE j b i):=
 ⟨h.fB,h.o,h.tw,λd x n=>by
  by_cases e:x=b
  .subst e
   show dI _ _ _ (aE X.g x a x)
   rw[cF,cF];exact m d
  show dI _ _ _ (aE X.g b a x)
  rw[cl _ _ e,cl _ _ e];exact h.iG d x n⟩
def rj(a:Nat->List bH)(c:Nat)(l:List bH)(d:Nat):aS a c l d=if d=c then l else a d:=rfl
def kO.opens{k u X r l D m C}(h:kO k u X r D m C){a:yB}(hs:0<a.size)(v:fV (m (a[0]'hs).toNat) a=false)(w:∀d,d∈D->d≠l)(E:l≠r)(A t)(f:k.ok->dI u k.B A t):kO k u ⟨aE X.g l t,λx=>if x=a then some l else X.o x⟩ r (l::D) (aS m (a[0]'hs).toNat ((m (a[0]'hs).toNat).take (dt (m (a[0]'hs).toNat) a)++[(a,some ⟨l,0,none⟩)]++(m (a[0]'hs).toNat).drop (dt (m (a[0]'hs).toNat) a))) (aE C l A):=by
 have q:(a[0]'hs).toNat<256:=(a[0]'hs).toNat_lt;refine⟨λc s=>?_,?_,λc j e s n=>?_,λy x b=>?_⟩
 .rw[rj];split
  .rw[GV (h.fB _ q) v];exact(h.fB _ q).laid _ _
  exact h.fB c s
 .funext x
  show(if x=a then some l else X.o x)=_;by_cases b:0<x.size
  .rw[oX _ b,rj];by_cases p:(x[0]'b).toNat=(a[0]'hs).toNat
   .rw[Uj p,Pb (h.fB _ q) v,h.o,oX _ b,p]
   rw[Ui p,Ui (λe=>p (by subst e;rfl)),h.o,oX _ b]
  rw[Ui (λe=>b (by rw[e];exact hs)),h.o];unfold nU;rw[dif_neg b,dif_neg b]
 .rw[rj] at n;split at n
  .have f:=UQ n;simp only[UA,Uo] at f;have z:∀e,e∈m (a[0]'hs).toNat->mg e≠r:=λe n=>by
    let⟨i,hi⟩:=List.getElem?_of_mem n;exact h.tw _ i e q hi
   rcases f with(f|f) |f
   .exact z e (List.mem_of_mem_take f)
   .rw[f];exact E
   exact z e (List.mem_of_mem_drop f)
  exact h.tw c j e s n
 show dI _ _ _ (aE X.g l t x);rcases UC.1 b with rfl|b
 .rw[cF,cF];exact f y
 rw[cl _ _ (w x b),cl _ _ (w x b)];exact h.iG y x b
def kO.SJ{k q X s D n r}(h:kO k q X s D n r){a:yB}(hs:0<a.size):kO k q ⟨X.g,λx=>if x=a then none else X.o x⟩ s D (aS n (a[0]'hs).toNat (mL (n (a[0]'hs).toNat) a)) r:=by
 have f:(a[0]'hs).toNat<256:=(a[0]'hs).toNat_lt;refine⟨λc p=>?_,?_,λc j e p l=>?_,h.iG⟩
 .rw[rj];split
  .rw[Jk (h.fB _ f)];exact(h.fB _ f).others _
  exact h.fB c p
 .funext x
  show(if x=a then none else X.o x)=_;by_cases b:0<x.size
  .rw[oX _ b,rj];by_cases d:(x[0]'b).toNat=(a[0]'hs).toNat
   .rw[Uj d,Pd (h.fB _ f),h.o,oX _ b,d]
   rw[Ui d,Ui (λe=>d (by subst e;rfl)),h.o,oX _ b]
  rw[Ui (λe=>b (by rw[e];exact hs)),h.o];unfold nU;rw[dif_neg b,dif_neg b]
 rw[rj] at l;split at l
 .have m:=UQ l;unfold mL at m;have:e∈n (a[0]'hs).toNat:=by
   split at m
   .exact List.mem_of_mem_eraseIdx m
   exact m
  let⟨i,hi⟩:=List.getElem?_of_mem this;exact h.tw _ i e f hi
 exact h.tw c j e p l
def pr(a b:Nat):Nat:=2 ^ a*(2*b+1)
def tL(b:Nat):pr 0 b=2*b+1:=by unfold pr;rw[Nat.pow_zero,Nat.one_mul]
def tM(a b:Nat):pr (a+1) b=2*pr a b:=by unfold pr;rw[Nat.pow_succ,Nat.mul_comm (2 ^ a) 2,Nat.mul_assoc]
def iu:∀(a b:Nat),0<pr a b
 | 0,b=>by rw[tL];omega
 |a+1,b=>by rw[tM];have:=iu a b;omega
def fS:∀{a b c d},pr a b=pr c d->a=c/\b=d:=by
 intro a;induction a with
 |zero=>
  intro b c d h;cases c with
  |zero=>rw[tL,tL] at h;omega
  |succ c=>rw[tL,tM] at h;omega
 |succ a ih=>
  intro b c d h;cases c with
  |zero=>rw[tL,tM] at h;omega
  |succ c=>rw[tM,tM] at h;have:=ih (b:=b) (c:=c) (d:=d) (by omega);omega
def Of(a:Nat)(x:Nat):Prop:=∃b,x=pr a b
def mr(a:Nat):¬Of a 0:=λ⟨b,h⟩=>by have:=iu a b;omega
def lN{a c d}(h:a≠c):¬Of a (pr c d):=λ⟨_,e⟩=>h (fS e).1.symm
structure qN(l:Nat->Nat)(w:World)(sp sb tb:Nat)(t:Nd)(S:Nat->Prop):Prop where
 tr:eX w tb (qA sb) S t
 loose:bK t
 lt:l tb=pr sp (tb+1)
 lS:∀x,S x->l x=pr sp (tb+1)
def qN.move{T l l' w w' b sb c t S}(h:qN l w b sb c t S)(m:Mv T l l' w w')(e:¬T (pr b (c+1))):qN l' w' b sb c t S:=
 {tr:=h.tr.same m.size λx a d=>m.kept d (by rcases a with rfl|a;exact h.lt;exact h.lS x a) e
  loose:=h.loose
  lt:=(m.bt _ h.tr.lt).trans h.lt
  lS:=λx a=>(m.bt x (h.tr.own x a).2.2).trans (h.lS x a)}
structure jX(l:Nat->Nat)(w:World)(sp sb tw:Nat)(D:List Nat)(vs:Nat->Value)(sh:Nat->List bH)(tr:Nat->Nd)(Ss:Nat->Nat->Prop):Prop where
 ai:cX 3 w sp sb tw vs sh
 jA:l sp=pr sp 0
 jB:∀c g,c<256->(vs c).ownBlock=some g->l g=pr sp 0
 ie:∀(c k:Nat) (e:bH),c<256->(sh c)[k]? =some e->∃tb,e.2=some ⟨tb,0,none⟩/\tb∈D
 gI:∀(c k d j:Nat) (e f:bH),c<256->d<256->(sh c)[k]? =some e->(sh d)[j]? =some f->e.2=f.2->c=d/\k=j
 dJ:tw∈D
 lO:D.Nodup
 gy:∀tb,tb∈D->qN l w sp sb tb (tr tb) (Ss tb)
def cX.lt{base w b sb c d a}(h:cX base w b sb c d a):b<w.heap.size:=(Um.1 h.ai).1
def cX.kept{base}{w w':World}{b sb f a e}(h:cX base w b sb f a e)(i:w'.heap[b]? =w.heap[b]?)(k:∀c g,c<256->(a c).ownBlock=some g->w'.heap[g]? =w.heap[g]?):cX base w' b sb f a e:=
 ⟨i.trans h.ai,λc d=>cM (h.own c d) λg j=>k c g d j,h.sep,h.fL⟩
def jX.move{T l l' w w' f sb n D o j k i}(h:jX l w f sb n D o j k i)(m:Mv T l l' w w')(e:∀b,¬T (pr f b)):jX l' w' f sb n D o j k i:=
 {ai:=h.ai.kept (m.kept h.ai.lt h.jA (e 0)) λc g a d=>m.kept ((h.ai.own c a).lt g d).2 (h.jB c g a d) (e 0)
  jA:=(m.bt _ h.ai.lt).trans h.jA
  jB:=λc g a d=>(m.bt g ((h.ai.own c a).lt g d).2).trans (h.jB c g a d)
  ie:=h.ie
  gI:=h.gI
  dJ:=h.dJ
  lO:=h.lO
  gy:=λq p=>(h.gy q p).move m (e _)}
def jX.mU{l w w' i sb t a D u r s k q}(h:jX l w i sb t D u r s k)(n:a∈D)(y:gF w a (qA sb) (k a) q w')(v:bK q):∃l' S',Mv (Of i) l l' w w'/\jX l' w' i sb t D u r (aE s a q) (aE k a S'):=by
 have j:=h.gy a n;let⟨l',S',m,h1,h2⟩:=ys j.lS j.lt y;have o:∀b,b≠a+1->pr i b≠pr i (a+1):=λb n e=>n (fS e).2
 refine⟨l',S',m.mono λx p=>⟨_,p⟩,?_⟩;exact
  {ai:=h.ai.kept (m.kept h.ai.lt h.jA (o 0 (by omega))) λc g d f=>m.kept ((h.ai.own c d).lt g f).2 (h.jB c g d f) (o 0 (by omega))
   jA:=(m.bt _ h.ai.lt).trans h.jA
   jB:=λc g d f=>(m.bt g ((h.ai.own c d).lt g f).2).trans (h.jB c g d f)
   ie:=h.ie
   gI:=h.gI
   dJ:=h.dJ
   lO:=h.lO
   gy:=λx p=>by
    by_cases e:x=a
    .subst e;rw[cF,cF];exact⟨h1,v,(m.bt _ j.tr.lt).trans j.lt,h2⟩
    rw[cl _ _ e,cl _ _ e];exact(h.gy x p).move m (o _ (by omega))}
def dy(f:Nat->Nat):List Nat->Nat
 | []=>0
 |x::r=>f x+dy f r
def Dm{f g a k}(b:∀x,x≠a->g x=f x)(c:g a<=f a+k):∀(D:List Nat),D.Nodup->dy g D<=dy f D+k
 | [],_=>UD _
 |x::r,hd=>by
  let⟨h1,h2⟩:=List.nodup_cons.1 hd
  unfold dy
  by_cases e:x=a
  .subst e
   have:dy g r=dy f r:=by
    clear hd h2;induction r with
    |nil=>rfl
    |cons y r ih=>unfold dy;rw[b y (λe=>h1 (by rw[e];exact Uk ..)),ih λd=>h1 (Ul _ d)]
   omega
  have:=Dm b c r h2;rw[b x e];omega
def Dn(f):∀{D a},a∈D->dy f D=f a+dy f (D.erase a)
 | [],a,h=>by cases h
 |x::r,a,h=>by
  by_cases e:x=a
  .subst e;rw[List.erase_cons_head];rfl
  have b:a∈r:=by rcases UC.1 h with h|h;exact absurd h.symm e;exact h
  rw[List.erase_cons_tail (by simpa using e)]
  unfold dy
  rw[Dn f b]
  omega
def yI(f):∀{A D:List Nat},A.Nodup->(∀x∈A,x∈D)->dy f A<=dy f D
 | [],_,_,_=>UD _
 |a::r,D,hd,hs=>by
  let⟨h1,h2⟩:=List.nodup_cons.1 hd
  have c:=hs a (Uk ..)
  rw[Dn f c]
  have:=yI f (A:=r) (D:=D.erase a) h2 λx b=>(List.mem_erase_of_ne (λe:x=a=>h1 (by rwa[<-e]))).2 (hs x (Ul _ b))
  show f a+dy f r<=_
  omega
def gh(a:List (yB×yB))(c:yL):Bool:=(ah a (ag (ae c))).isNone
def gg(a:List (yB×yB))(b:Nat->Nd)(x:Nat):Nat:=cS (gh a) (b x)+1
structure SX(l:Nat->Nat)(w:World)(sp sb tw:Nat)(D:List Nat)(N:Nat)(us:Nat->Value)(ps:List (yB×yB))(k:Kn)(P:GP):Prop where
 st:∃vs sh tr Ss X,jX l w sp sb tw D vs sh tr Ss/\dy (gg ps tr) D<=N/\kO k ps X tw D sh tr/\P X (tr tw)
 jw:fv w sb us ps
 ls:∀x,cy sb us x->l x=pr sb 0
 bz:aB w
 l3:∀k,k<3->l k=0
 ne:sp≠sb
def oF(l:Nat->Nat)(w:World)(a sb c:Nat)(D:List Nat)(N:Nat)(d:Nat->Value)(b:List (yB×yB))(k:Kn)(P:GP)(K:Nat)(w':World):Prop:=∃l' D',Mv (Of a) l l' w w'/\(∀x∈D,x∈D')/\SX l' w' a sb c D' (N+K) d b k P
def SX.rest{l l' w w' f sb g D N c e k P T}(h:SX l w f sb g D N c e k P)(m:Mv T l l' w w')(h0:¬T 0)(hs:¬T (pr sb 0)):fv w' sb c e/\(∀x,cy sb c x->l' x=pr sb 0)/\aB w'/\∀k,k<3->l' k=0:=
 ⟨h.jw.kept λx a=>m.kept (h.jw.st.eM x a) (h.ls x a) hs,λx a=>(m.bt x (h.jw.st.eM x a)).trans (h.ls x a),h.bz.mv m λk b d=>by rw[h.l3 k b] at d;exact h0 d,λk b=>(m.bt k (by have:=h.bz.size;omega)).trans (h.l3 k b)⟩
def SX.move{l l' w w' a sb d D N e c k P T}(h:SX l w a sb d D N e c k P)(m:Mv T l l' w w')(h0:¬T 0)(hs:¬T (pr sb 0))(j:∀b,¬T (pr a b)):SX l' w' a sb d D N e c k P:=by
 let⟨p,n,o,f,X,h1,h2,g,i⟩:=h.st;let⟨r1,r2,r3,r4⟩:=h.rest m h0 hs;exact⟨⟨p,n,o,f,X,h1.move m j,h2,g,i⟩,r1,r2,r3,r4,h.ne⟩
def SX.more{l w b sb c D N d a k P}(h:SX l w b sb c D N d a k P)(K:Nat):SX l w b sb c D (N+K) d a k P:=by
 let⟨m,i,j,e,X,h1,h2,f,g⟩:=h.st;exact⟨⟨m,i,j,e,X,h1,by omega,f,g⟩,h.jw,h.ls,h.bz,h.l3,h.ne⟩
def SX.below{l w w' b sb c D N d a k P}(h:SX l w b sb c D N d a k P)(e:yW w w'):SX (gv l w.heap.size) w' b sb c D N d a k P:=
 h.move (Mv.below (λ_=>False) l e) id id λ_=>id
def SX.go{l w w' c sb d D N e b k P}(h:SX l w c sb d D N e b k P)(a:yW w w')(K:Nat):oF l w c sb d D N e b k P K w':=
 ⟨_,D,(Mv.below (λ_=>False) l a).mono λ_ hx=>hx.elim,λ_ hx=>hx,(h.below a).more K⟩
def oF.below{l w w1 w2 d sb e D N K f c k P}(h:oF l w d sb e D N f c k P K w1)(b:yW w1 w2):oF l w d sb e D N f c k P K w2:=by
 let⟨l',g,m,i,a⟩:=h;exact⟨_,g,m.trans ((Mv.below (λ_=>False) l' b).mono λ_ a=>a.elim),i,a.below b⟩
def oF.trans{l l1 w w1 w2 b sb f D c N K d g e k P}(m:Mv (Of b) l l1 w w1)(j:∀x∈D,x∈c)(h:oF l1 w1 b sb f c (N+K) g e k P d w2):oF l w b sb f D N g e k P (K+d) w2:=by
 let⟨l2,i,m2,n,a⟩:=h;exact⟨l2,i,m.trans m2,λx a=>n x (j x a),by rwa[<-Nat.add_assoc]⟩
def oF.mono{l w w1 b sb c D N K K' d a k P}(h:oF l w b sb c D N d a k P K w1)(i:K<=K'):oF l w b sb c D N d a k P K' w1:=by
 let⟨l',e,m,f,g⟩:=h;refine⟨l',e,m,f,?_⟩;have:=g.more (K' - K);rwa[show N+K+(K' - K)=N+K' by omega] at this
def SX.over{l w d sb n a D N f m k P t r s g}(h:SX l w d sb n D N f m k P)(o:jX l w d sb n D t r s g)(p:a∈D):lX (cy sb f) w (qA sb) (ah m) (g a)/\¬cy sb f a:=by
 have i:=o.gy a p;have j:∀b,pr d b≠pr sb 0:=λb e=>h.ne (fS e).1
 exact⟨h.jw.over h.bz λx q c=>j _ ((i.lS x q).symm.trans (h.ls x c)),λc=>j _ (i.lt.symm.trans (h.ls _ c))⟩
def SX.ev{l w c sb d D N e b k P a}(h:SX l w c sb d D N e b k P)(j:∀X r,P X r->a X r):SX l w c sb d D N e b k a:=by
 let⟨o,m,n,f,X,h1,h2,g,i⟩:=h.st;exact⟨⟨o,m,n,f,X,h1,h2,g,j _ _ i⟩,h.jw,h.ls,h.bz,h.l3,h.ne⟩
def SX.fix{l w b sb c D N d a k P}(h:SX l w b sb c D N d a k P):∃X t,P X t/\SX l w b sb c D N d a k λY s=>Y=X/\ae (bQ s)=ae (bQ t):=by
 let⟨m,i,j,e,X,h1,h2,f,g⟩:=h.st;exact⟨X,_,g,⟨m,i,j,e,X,h1,h2,f,rfl,rfl⟩,h.jw,h.ls,h.bz,h.l3,h.ne⟩
def SX.now{l w w' i sb j c D N K v b k P s y q e t X d}(h:SX l w i sb j D N v b k P)(u:jX l w i sb j D y q e t)(hs:dy (gg b e) D<=N)(z:kO k b X j D q e)(G:c∈D)(E:gF w c (qA sb) (t c) d w')(C:bK d)(I:cS (gh b) d<=cS (gh b) (e c)+K)(p)(H:k.ok->dI b k.B d p)(F:∀r,s ⟨aE X.g c p,X.o⟩ r):oF l w i sb j D N v b k s K w':=by
 let⟨l',S',m,A⟩:=u.mU G E C;let⟨r1,r2,r3,r4⟩:=h.rest m (mr i) (lN h.ne);refine⟨l',D,m,λ_ n=>n,⟨⟨y,q,_,_,_,A,?_,z.mU c d p H,F _⟩,r1,r2,r3,r4,h.ne⟩⟩;have:=Dm (f:=gg b e) (g:=gg b (aE e c d)) (a:=c) (k:=K) (λx n=>by unfold gg;rw[cl _ _ n]) (by unfold gg;rw[cF];omega) D u.lO;omega
def kj(G:yB->Option yB):∀(f:Nat) (t) (p) (dep:Nat) (bl:Bool),dD t p->dc G f t p dep bl=(t,0):=by
 intro f;induction f with
 |zero=>intro t p dep bl _;rfl
 |succ f ih=>
  intro t p dep bl a;show lG t (λt1=>gj (dc G f) t1 p dep) (dG G t dep bl)=_;cases t with
  |nil=>rfl
  |unread _=>exact a.elim
  |leaf _ _ _=>rfl
  |ext h q k=>
   show gj (dc G f) (.ext h q k) p dep=_;simp only[gj];split
   .next e=>rw[ih k (p.drop q.length) (dep+q.length) true (a e)]
   rfl
  |branch h v ks=>
   cases p with
   |nil=>rfl
   |cons c r=>show gj (dc G f) (.branch h v ks) (c::r) dep=_;simp only[gj];rw[ih (ks c.toNat) r (dep+1) false a,Lh]
def sk{G t}{key:yB}(b:aA t 0)(c:key.size<=40)(h:cK G t key=0):cK G (bE G t key) key=0/\aQ G (bE G t key) key=aQ G t key:=by
 have n40:¬40<key.size:=by omega
 unfold cK at h;rw[Ui n40] at h;have e:=kj G 81 _ (aD key) 0 false (kA G t key b c h);have a:aG G (aG G t key).1 key=((aG G t key).1,0):=e;unfold cK bE aQ;rw[Ui n40,Ui n40,Ui n40,Ui n40,a,Uj rfl,Uj h];exact⟨rfl,rfl⟩
def Wc(a:List (yB×yB))(t:Nd)(key:yB)(cs:List yB):Prop:=cK (ah a) t key=0/\(aQ (ah a) t key).map ae=cs
def SX.nowT{l w w' j sb i c D N K u b k P r v q e s X d}(h:SX l w j sb i D N u b k P)(t:jX l w j sb i D v q e s)(hs:dy (gg b e) D<=N)(y:kO k b X i D q e)(F:c∈D)(C:gF w c (qA sb) (s c) d w')(A:bK d)(H:cS (gh b) d<=cS (gh b) (e c)+K)(p)(G:k.ok->dI b k.B d p)(E:r ⟨aE X.g c p,X.o⟩ (aE e c d i)):oF l w j sb i D N u b k r K w':=by
 let⟨l',S',m,z⟩:=t.mU F C A;let⟨r1,r2,r3,r4⟩:=h.rest m (mr j) (lN h.ne);refine⟨l',D,m,λ_ n=>n,⟨⟨v,q,_,_,_,z,?_,y.mU c d p G,E⟩,r1,r2,r3,r4,h.ne⟩⟩;have:=Dm (f:=gg b e) (g:=gg b (aE e c d)) (a:=c) (k:=K) (λx n=>by unfold gg;rw[cl _ _ n]) (by unfold gg;rw[cF];omega) D t.lO;omega
def AB(X:Gh)(a:Nat)(r):aj X ⟨aE X.g a (X.g a),X.o⟩ r:=by
 show _=_;rw[l7]
def SX.get{l w n sb o b D N p m k X}(h:SX l w n sb o D N p m k (aj X))(d:b∈D)(key:yB)(t:key.size<=40):yC 36 #[pV (qA b),sV key] w λe w'=>∃(v:yB)(c:Nat),e=rV (tV #[sV v,i6 c])/\v.size<=160/\(k.ok->c=0/\v=bD (X.g b) key)/\oF l w n sb o D N p m k (aj X) 250 w':=by
 obtain⟨z,x,y,u,X,i,hs,f,rfl⟩:=h.st;have a:=i.gy b d;let⟨r,_⟩:=h.over i d;refine(Ka a.tr r key (by unfold maxLen;omega)).mono ?_;rintro e w'⟨s,q⟩;exact⟨_,_,s,Rp _ _ _ a.tr.ok,λj=>(f.iG j b d).get a.tr.ok t,h.now i hs f d q (uB a.tr.ok a.loose) (Ut (Fw _ _ _ _ a.tr.ok) (by omega)) _ (λj=>(f.iG j b d).Hx a.tr.ok key) (AB X b)⟩
def SX.put{l w q sb r a D N s p k X}(h:SX l w q sb r D N s p k (aj X))(d:a∈D)(key value:yB)(m:key.size<=40)(h0:0<value.size)(n:value.size<=160):yC 30 #[pV (qA a),sV key,sV value] w λe w'=>∃c:Nat,e=rV (i6 c)/\(k.ok->c=0)/\oF l w q sb r D N s p k (aj ⟨aE X.g a (aL (X.g a) key value),X.o⟩) 250 w':=by
 obtain⟨A,y,z,x,X,i,hs,f,rfl⟩:=h.st;have b:=i.gy a d;let⟨u,_⟩:=h.over i d;refine(BP b.tr u key value (by unfold maxLen;omega) (by unfold maxLen;omega)).mono ?_;rintro e w'⟨v,t⟩;exact⟨_,v,λj=>((f.iG j a d).put b.tr.ok m h0 n).1,h.now i hs f d t (zn b.tr.ok b.loose) (Ut (Pw _ _ _ _ _ b.tr.ok) (by omega)) _ (λj=>by
  let⟨h1,_,h3⟩:=(f.iG j a d).put b.tr.ok m h0 n;unfold b6;rwa[Uj h1]) λ_=>rfl⟩
def Nz{G t key value}(b:aA t 0)(a:bK t):bK (fR G t key value):=by
 unfold fR;split
 .exact a
 split
 .exact a
 exact oY G t key b a
def SX.zf{l w p sb q b D N s o k X}(h:SX l w p sb q D N s o k (aj X))(d:b∈D)(key value:yB)(m:key.size<=40)(h0:0<value.size)(n:value.size<=160):yC 131 #[pV (qA b),sV key,sV value] w λe w'=>∃(r:yB)(c:Nat),e=rV (tV #[sV r,i6 c])/\r.size<=32/\(c=0->r.size=32)/\(k.ok->c=0/\r=cY (aL (X.g b) key value))/\oF l w p sb q D N s o k (aj X) 250 w':=by
 obtain⟨A,y,z,x,X,i,hs,f,rfl⟩:=h.st;have a:=i.gy b d;let⟨u,_⟩:=h.over i d;refine(T5 a.tr u key value (by unfold maxLen;omega) (by unfold maxLen;omega)).mono ?_;rintro e w'⟨v,t⟩;refine⟨_,_,v,?_,λh0=>?_,λj=>?_,h.now i hs f d t (Nz a.tr.ok a.loose) (Ut (Fv _ _ _ _ _ a.tr.ok) (by omega)) _ (λj=>((f.iG j b d).put a.tr.ok m h0 n).2.1) (AB X b)⟩
 .split
  .next h0=>rw[aN,oS (ry a.tr.ok h0).aK];exact Ug _
  exact UD _
 .rw[Uj h0,aN,oS (ry a.tr.ok h0).aK]
 let⟨h1,_,h3⟩:=(f.iG j b d).put a.tr.ok m h0 n;exact⟨h1,by rw[Uj h1];exact h3.root (ry a.tr.ok h1)⟩
def SX.del{l w q sb r d D N s p k X}(h:SX l w q sb r D N s p k (aj X))(f:d∈D)(key:yB)(n:key.size<=40):yC 34 #[pV (qA d),sV key] w λe w'=>∃(b:Bool)(c:Nat),e=rV (tV #[bV b,i6 c])/\(k.ok->c=0)/\oF l w q sb r D N s p k (aj ⟨aE X.g d (aL (X.g d) key ⟨#[]⟩),X.o⟩) 250 w':=by
 obtain⟨B,z,A,y,X,j,hs,i,rfl⟩:=h.st;have a:=j.gy d f;let⟨u,x⟩:=h.over j f;refine(Ck a.tr a.loose u x key (by unfold maxLen;omega)).mono ?_;rintro e w'⟨v,t⟩;exact⟨_,_,v,λm=>((i.iG m d f).del a.tr.ok a.loose n).1,h.now j hs i f t (Bi a.tr.ok a.loose) (Ut (Py _ _ _ _ a.tr.ok a.loose) (by omega)) _ (λm=>((i.iG m d f).del a.tr.ok a.loose n).2.2) λ_=>rfl⟩
def SX.root{l w p sb f a D N q o k P}(h:SX l w p sb f D N q o k P)(b:a∈D):yC 37 #[pV (qA a)] w λe w'=>∃(r:yB)(X:Gh)(s:Nd),e=rV (sV r)/\r.size=32/\P X s/\(a=f->r=ae (bQ s))/\(k.ok->r=cY (X.g a)/\cT (X.g a))/\yW w w':=by
 let⟨y,v,x,t,X,i,hs,c,m⟩:=h.st;let⟨⟨u,h1,h2⟩,h3,_⟩:=(i.gy a b).tr;refine(qQ w a _ u _ _ h1 h2 h3.aK h.bz).mono ?_;rintro e w'⟨n,j⟩;exact⟨_,X,_,n,by rw[aN,oS h3.aK],m,λe=>by rw[e],λd=>⟨(c.iG d a b).root h3,(c.iG d a b).1⟩,j⟩
def SX.prove{l w o sb p a D N q j k X}(h:SX l w o sb p D N q j k (aj X))(d:a∈D)(key:yB)(n:key.size<=40):yC 44 #[pV (qA a),sV key] w λe w'=>∃(v:Value)(c:Nat)(cs:List yB)(w1:World),e=rV (tV #[v,i6 c])/\oF l w o sb p D N q j k (aj X) 250 w1/\yW w1 w'/\w'.ownsRow w1.heap.size 9 1 v cs.length (cs.map Value.string)/\cs.length<=81/\(∀x∈cs,x.size<=4096)/\(k.ok->c=0/\cT (X.g a)/\cs=(aQ bj (aR (X.g a) 1) key).map ae):=by
 obtain⟨F,E,B,C,X,m,hs,f,rfl⟩:=h.st;have b:=m.gy a d;let⟨s,_⟩:=h.over m d;refine(BR b.tr s key (by unfold maxLen;omega)).mono ?_;rintro e w'⟨v,w1,y,r,t,z,_⟩;let⟨f1,f2⟩:=wj (G:=ah j) b.tr.ok key;refine⟨v,_,(aQ (ah j) (B a) key).map ae,w1,y,h.now m hs f d r (uB b.tr.ok b.loose) (Ut (Fw _ _ _ _ b.tr.ok) (by omega)) _ (λi=>(f.iG i a d).Hx b.tr.ok key) (AB X a),t,by rwa[UM,<-vA],by rwa[UM],λx A=>?_,λi=>⟨((f.iG i a d).get b.tr.ok n).1,(f.iG i a d).1,by rw[(f.iG i a d).KW b.tr.ok n]⟩⟩;obtain⟨c,u,rfl⟩:=UO.1 A;rw[aN];exact f2 c u
def SX.proveW{l w o sb a D N p j k X}(h:SX l w o sb a D N p j k (aj X))(key:yB)(n:key.size<=40):yC 44 #[pV (qA a),sV key] w λe w'=>∃(v:Value)(c:Nat)(cs:List yB)(w1:World),e=rV (tV #[v,i6 c])/\oF l w o sb a D N p j k (λY t=>Y=X/\(c=0->Wc j t key cs)) 250 w1/\yW w1 w'/\w'.ownsRow w1.heap.size 9 1 v cs.length (cs.map Value.string)/\cs.length<=81/\(∀x∈cs,x.size<=4096)/\(k.ok->c=0/\cT (X.g a)/\cs=(aQ bj (aR (X.g a) 1) key).map ae):=by
 obtain⟨F,E,B,C,X,m,hs,f,rfl⟩:=h.st;have d:=m.dJ;have b:=m.gy a d;let⟨r,_⟩:=h.over m d;refine(BR b.tr r key (by unfold maxLen;omega)).mono ?_;rintro e w'⟨v,w1,y,q,s,z,_⟩;let⟨f1,f2⟩:=wj (G:=ah j) b.tr.ok key;refine⟨v,_,(aQ (ah j) (B a) key).map ae,w1,y,h.nowT m hs f d q (uB b.tr.ok b.loose) (Ut (Fw _ _ _ _ b.tr.ok) (by omega)) _ (λi=>(f.iG i a d).Hx b.tr.ok key) ⟨AB X a (.nil),λh0=>?_⟩,s,by rwa[UM,<-vA],by rwa[UM],λx A=>?_,λi=>⟨((f.iG i a d).get b.tr.ok n).1,(f.iG i a d).1,by rw[(f.iG i a d).KW b.tr.ok n]⟩⟩
 .let⟨r1,r2⟩:=sk b.tr.ok n h0;rw[cF];exact⟨r1,by rw[r2]⟩
 obtain⟨c,u,rfl⟩:=UO.1 A;rw[aN];exact f2 c u
def SX.proveR{l w m sb b D N n g k X key cs}(h:SX l w m sb b D N n g k (λY t=>Y=X/\Wc g t key cs))(B:key.size<=40):yC 44 #[pV (qA b),sV key] w λe w'=>∃(v:Value)(w1:World),e=rV (tV #[v,i6 0])/\oF l w m sb b D N n g k (aj X) 250 w1/\yW w1 w'/\w'.ownsRow w1.heap.size 9 1 v cs.length (cs.map Value.string)/\cs.length<=81/\(∀x∈cs,x.size<=4096):=by
 obtain⟨F,C,E,A,X,d,hs,i,rfl,h0,s⟩:=h.st;have f:=d.dJ;have a:=d.gy b f;let⟨p,_⟩:=h.over d f;subst s;refine(BR a.tr p key (by unfold maxLen;omega)).mono ?_;rintro e w'⟨v,w1,j,o,q,u,_⟩;let⟨f1,f2⟩:=wj (G:=ah g) a.tr.ok key;rw[h0] at j;refine⟨v,w1,j,h.now d hs i f o (uB a.tr.ok a.loose) (Ut (Fw _ _ _ _ a.tr.ok) (by omega)) _ (λz=>(i.iG z b f).Hx a.tr.ok key) (AB X b),q,by rwa[UM,<-vA],by rwa[UM],λx y=>?_⟩;obtain⟨c,r,rfl⟩:=UO.1 y;rw[aN];exact f2 c r
end Go.Proofs.YteaodagofkcgbaaGreatDoor
