import Derived.Test.YteaodagofkcgbaaGreatDoorM
import Derived.Test.YteaodagofkcgbaaGreatDoorN
open Go.Proofs.Tryz
open Go.Proofs.Tryz renaming prog→yP
open Go.Value renaming string→sV,pointer→pV,int→iV,slice→lV,bool→bV,tuple→tV,agg→gV
open Go.Ending renaming returned→rV
namespace Go.Proofs.YteaodagofkcgbaaGreatDoor
open Go.RowKit
set_option maxRecDepth 100000
set_option maxHeartbeats 0
set_option linter.all false
def DV:∀(a b),aF a b=a.length->aF a b=b.length->a=b
 | [],[],_,_=>rfl
 | [],y::b,_,h=>by simp[aF] at h
 |x::a,[],h,_=>by simp[aF] at h
 |x::a,y::b,h1,h2=>by
  simp only[aF] at h1 h2
  by_cases e:x=y
  .rw[Uj e] at h1 h2
   rw[e,DV a b (by simp at h1;omega) (by simp at h2;omega)]
  rw[Ui e] at h1;simp at h1
def Dy(w)(t:Nd)(path v:yL)(S u)(c:t.kind=1\/t.kind=2)(f:aw path)(d:path.length<=80)(j:v.length<=160)(b:aO t)(a:At w t S (pV u))(T:aB w)(h:aw t.path) (i:t.path.length<=80) (g:t.path≠path):yC 136 #[pV u,sV (ae path),sV (ae v),i6 ((aF t.path path:Nat):Int)] w (Made w S (gi t path v (aF t.path path))):=by
 let⟨h1,h2⟩:=iN t.path path;refine Md w t path v _ S u c f d j b a T ?_ h i;by_cases e:aF t.path path=t.path.length/\aF t.path path=path.length
 .exact absurd (DV _ _ e.1 e.2) g
 omega
def KH(h q x):oC (.leaf h q x):=by
 intro w S u p v hA hF _ hn hl hv T;have A3:yH (q≠p->∀W,yW w W->yC 136 #[pV u,sV (ae p),sV (ae v),i6 ((aF q p:Nat):Int)] W (Made w S (gi (.leaf h q x) p v (aF q p)))):=λA6 W hW=>
  (Dy W (.leaf h q x) p v S u (.inl rfl) hn hl hv hF (hA.below hW) (T.below hW) hF.2.1 hF.2.2.1 A6).mono λe w' hm=>hm.after hW
 have HL:yH (∀W,yW w W->yC 132 #[sV (ae p),sV (ae v)] W (Made w S (dw p v))):=λW hW=>
  (qh W p v ⟨.inl rfl,hn,hl,hv⟩ (ov _ _ _ hl hv) (T.below hW)).mono λe w' h=>(h.mono λx hx=>hx.elim).after hW
 have A2:=hF.2.2.1;have HS:yH (∀w:World,yC 134 #[sV (ae q),sV (ae p)] w λe w'=>e=rV (i6 ((aF q p:Nat):Int))/\∃n,w'=w.drewN n):=λw=>by
  have:=tD (ae q) (ae p) (by rw[aN];unfold maxLen;omega) (by rw[aN];unfold maxLen;omega) w;rw[eU,eU] at this;exact this
 have HR:yH (bR (.leaf h q x) p v=if q=p then dw p v else gi (.leaf h q x) p v (aF q p)):=rfl;obtain⟨b,hu,hs,B⟩:=hA;cases hu;have c0:yc w b 0 (i6 1):=B.c0;have c2:yc w b 2 (sV (ae q)):=B.c2;have A4:=pX q p;have A8:(ae p).size<=80:=by rw[aN];exact hl
 have A9:(ae q).size<=80:=by rw[aN];exact A2
 have A7:=B.lt;obtain⟨m,hm⟩:=yX (aF q p);rw[<-hm] at HS A3 HR;by_cases e:q=p
 .have A1:yH (bR (.leaf h q x) p v=dw p v):=by show _=_;rw[HR.o,Uj e]
  rw[A1.o];rw[Uw e] at A4;clear hn T hl hv B hF A2 hm e;generalize dw p v=R at*;generalize ae p=P at*;generalize ae q=Q at*;generalize ae v=V at*;go_enter func109,ntmps109
  go_wp2_with fail
  refine(HS.o _).mono ?_;rintro e1 w1⟨rfl,n1,rfl⟩;go_wp2_with fail
  refine(HL.o _ (Below.drewN (Un _ _) _)).mono ?_;rintro e1 w1⟨u1,rfl,A0⟩;have HF:yH _:=A0;clear A0;go_wp2;go_ret;exact⟨u1,rfl,HF.o⟩
 have A1:yH (bR (.leaf h q x) p v=gi (.leaf h q x) p v m):=by show _=_;rw[HR.o,Ui e]
 rw[A1.o];rw[Uv e] at A4;have A5:=aa (A3.o e);clear hn T hl hv B hF A2 hm e;generalize gi (.leaf h q x) p v m=R at*;generalize ae p=P at*;generalize ae q=Q at*;generalize ae v=V at*;go_enter func109,ntmps109
 go_wp2_with fail
 refine(HS.o _).mono ?_;rintro e1 w1⟨rfl,n1,rfl⟩;go_wp2_with fail
 refine(A5.o _ (Below.drewN (Un _ _) _)).mono ?_;rintro e1 w1⟨u1,rfl,A0⟩;have HF:yH _:=A0;clear A0;go_wp2;go_ret;exact⟨u1,rfl,HF.o⟩
def KI(h q k w S u)(p v:yL)(hA:At w (.ext h q k) S (pV u))(hF:aO (.ext h q k))(hn:aw p)(hl:p.length<=80)(hv:v.length<=160)(T:aB w)(A0:aF q p≠q.length):yC 109 #[pV u,sV (ae p),sV (ae v)] w (Made w S (gi (.ext h q k) p v (aF q p))):=by
 have A2:q≠p:=λe=>by subst e;apply A0;clear A0 hF hA;induction q with
  |nil=>rfl
  |cons a l ih=>simp only[aF,U5,UJ];rw[ih (λx hx=>hn x (Ul _ hx)) (by simp at hl;omega)]
 have A3:yH (∀W,yW w W->yC 136 #[pV u,sV (ae p),sV (ae v),i6 ((aF q p:Nat):Int)] W (Made w S (gi (.ext h q k) p v (aF q p)))):=λW hW=>
  (Dy W (.ext h q k) p v S u (.inr rfl) hn hl hv hF (hA.below hW) (T.below hW) hF.2.1 hF.2.2.1 A2).mono λe w' hm=>hm.after hW
 have A4:=hF.2.2.1;have HS:yH (∀w:World,yC 134 #[sV (ae q),sV (ae p)] w λe w'=>e=rV (i6 ((aF q p:Nat):Int))/\∃n,w'=w.drewN n):=λw=>by
  have:=tD (ae q) (ae p) (by rw[aN];unfold maxLen;omega) (by rw[aN];unfold maxLen;omega) w;rw[eU,eU] at this;exact this
 obtain⟨b,kp,S1,hu,hs,B,hr⟩:=hA;cases hu;have c0:yc w b 0 (i6 2):=B.c0;have c2:yc w b 2 (sV (ae q)):=B.c2;have A6:(((aF q p:Nat):Int) == ((ae q).size:Int))=false:=Vd.2 (by rw[aN];omega);have A5:=B.lt;clear hn T hl hv B hF A4 hr A2 A0;generalize gi (.ext h q k) p v (aF q p)=R at*;generalize aF q p=m at*;generalize ae p=P at*;generalize ae q=Q at*;generalize ae v=V at*;go_enter func109,ntmps109
 go_wp2_with fail
 refine(HS.o _).mono ?_;rintro e1 w1⟨rfl,n1,rfl⟩;go_wp2_with fail
 refine(A3.o _ (Below.drewN (Un _ _) _)).mono ?_;rintro e1 w1⟨u1,rfl,A1⟩;have HF:yH _:=A1;clear A1;go_wp2;go_ret;exact⟨u1,rfl,HF.o⟩
def KJ(h q k)(ih:oC k)(w S u)(p v:yL)(hA:At w (.ext h q k) S (pV u))(hF:aO (.ext h q k))(hn:aw p)(hl:p.length<=80)(hv:v.length<=160)(T:aB w)(A5:aF q p=q.length)(ho:dD k (p.drop q.length)):yC 109 #[pV u,sV (ae p),sV (ae v)] w (Made w S (gm q (bR k (p.drop q.length) v))):=by
 obtain⟨b,kp,S1,hu,hs,B,A7,hK⟩:=hA;cases hu;obtain⟨uk,rfl⟩:=hK.ptr;have A1:=hF.2.2.1;have HS:yH (∀w:World,yC 134 #[sV (ae q),sV (ae p)] w λe w'=>e=rV (i6 ((ae q).size:Int))/\∃n,w'=w.drewN n):=λw=>by
  have:=tD (ae q) (ae p) (by rw[aN];unfold maxLen;omega) (by rw[aN];unfold maxLen;omega) w;rw[eU,eU,A5] at this;rw[aN];exact this
 have c0:yc w b 0 (i6 2):=B.c0;have c2:yc w b 2 (sV (ae q)):=B.c2;have c4:yc w b 4 (pV uk):=B.c4;have B1:=B.lt;have HW:yH (∀W,yW w W->yC 109 #[pV uk,sV ((ae p).extract (ae q).size (ae p).size),sV (ae v)] W (Made w S (bR k (p.drop q.length) v))):=λW hW=>by
  rw[aN q,rf];exact(ih W S1 uk _ v (hK.below hW) hF.2.2.2.2 ho (da hn _) (by rw[Uu];omega) hv (T.below hW)).mono λe w' hm=>(hm.mono λx hx=>(A7 x hx).1).after hW
 have A3:=uF hF.2.2.2.2 ho (da hn q.length) (by rw[Uu];omega) hv;have B0:=yl (v:=v) hF.2.2.2.1 ho;have HE:yH (∀W u1,yW w W->At W (bR k (p.drop q.length) v) (λx=>S x\/w.heap.size<=x) (pV u1)->yC 135 #[sV (ae q),pV u1] W (Made w S (gm q (bR k (p.drop q.length) v)))):=λW u1 hW h1=>
  (zU W q _ _ u1 h1 ⟨.inl rfl,hF.2.1,A1,A3.lL⟩ (uN _ _ _ A1 A3) (T.below hW)).mono λe w' hm=>by
   obtain⟨u2,e1,e2,e3⟩:=hm;exact⟨u2,e1,e2.mono λx hx=>hx.elim id (λh=>.inr (Ut hW.size h)),hW.trans (e3.mono hW.size)⟩
 have A4:=(iN q p).2;rw[A5] at A4;have B2:(ae q).size<=(ae p).size:=by rw[aN,aN];exact A4
 have B3:((ae q).size:Int)<=((ae p).size:Int):=by omega
 have B4:(ae q).size<=80:=by rw[aN];exact A1
 clear hn T hl hv B hF A1 A5 ho hK A7 A4 A3 B0;generalize gm q (bR k (p.drop q.length) v)=R at*;generalize bR k (p.drop q.length) v=RK at*;generalize ae p=P at*;generalize ae q=Q at*;generalize ae v=V at*;go_enter func109,ntmps109
 go_wp2_with fail
 refine(HS.o _).mono ?_;rintro e1 w1⟨rfl,n1,rfl⟩;go_upto_region 7 with fail
 go_cut [8] (λr wx=>∃u1,r=pV u1/\At wx RK (λx=>S x\/w.heap.size<=x) (pV u1)/\yW w wx)
 .go_region_with (go_at_call 109;refine(HW.o _ (by first|exact Below.drewN (Un _ _) _ |exact(Below.drewN (Un _ _) _).drew)).mono ?_;rintro e1 w1⟨u1,rfl,A0⟩;have A9:yH _:=A0;clear A0)
  all_goals
   go_wp2;go_meet;exact⟨u1,rfl,A9.o⟩
 obtain⟨u1,rfl,A0,A2⟩:=hcut;have d2:=(A2.cell (p:=⟨b,2,none⟩) B1).trans c2;have A8:=aa (HE.o wc u1 A2 A0);clear A0 A2 c0 c2 c4;go_wp2_with fail
 apply A8.m;rintro e1 w1⟨u2,rfl,A6⟩;have HF:yH _:=A6;clear A6;go_wp2;go_ret;exact⟨u2,rfl,HF.o⟩
def KM(h q k)(i:oC k):oC (.ext h q k):=by
 intro w S u p v a b g d c f T;simp only[bR];by_cases e:aF q p=q.length
 .rw[Uj e];exact KJ h q k i w S u p v a b d c f T e (g e)
 rw[Ui e];exact KI h q k w S u p v a b d c f T e
def KQ:∀t:Nd,oC t:=by
 intro t;induction t with
 |nil=>exact KG
 |unread h=>intro w S u p v _ _ a;exact a.elim
 |leaf h q x=>exact KH h q x
 |ext h q k ih=>exact KM h q k ih
 |branch h x ks ih=>exact KO h x ks λw S u p v=>Te h x ks (λi _=>ih i) w S u p v
def bM:yL:=fe [128]
def Bh(w)(T:aB w):yC 73 #[] w λe w'=>e=rV (sV (ae bM))/\yW w w':=by
 have c:yH (yC 23 #[sV ⟨#[128]⟩] w λe w'=>e=rV (sV (ae bM))/\yW w w'):=by
  have:=ja ⟨#[128]⟩ (by decide) w T;show yC 23 _ w _;unfold bM;rw[mX];exact this
 clear T;generalize ae bM=R at*;go_enter func73,ntmps73
 go_wp2_with fail
 apply c.m;rintro e w1⟨rfl,a⟩;have b:=aa a;clear a;go_wp2;go_ret;exact⟨rfl,b.o⟩
def bQ:Nd->yL
 | .nil=>bM
 |t=>if t.hash=[] then fe t.code else t.hash
def nQ{t:Nd}(h:t.some):bQ t=if t.hash=[] then fe t.code else t.hash:=by cases t<;>first|exact h.elim|rfl
def Em(w t S u)(c:At w t S (pV u))(d:aO t)(T:aB w):yC 80 #[pV u] w λe w'=>e=rV (sV (ae (bQ t)))/\yW w w':=by
 by_cases hs:t.some
 .rw[nQ hs];by_cases a:t.hash=[]
  .have h:t.read:=by
    cases t with
    |nil=>exact hs.elim
    |unread x=>have:x.length=32:=d;rw[show x=[] from a] at this;cases this
    |leaf _ _ _=>trivial
    |ext _ _ _=>trivial
    |branch _ _ _=>trivial
   rw[Uj a];have g:=d.ow h;have n:yH (yC 115 #[pV u] w λe w'=>e=rV (sV (ae t.code))/\yW w w'):=xH w t S _ c d.lL h g;have p:yH (∀W,yW w W->yC 23 #[sV (ae t.code)] W λe w'=>e=rV (sV (ae (fe t.code)))/\yW W w'):=λW r=>by
    have:=ja (ae t.code) (by rw[aN];unfold maxLen;have:=g.2;omega) W (T.below r);rw[mX];exact this
   obtain⟨b,s,v,i,_,B⟩:=c.ai hs;cases i;have c1:w.cell? ⟨b,1,none⟩=some (sV ⟨#[]⟩):=by rw[B.c1,a];rfl
   clear c d T B hs a h g;generalize ae t.code=C at*;generalize ae (fe t.code)=R at*;go_enter func80,ntmps80
   go_wp2_with fail
   apply n.m;rintro e w1⟨rfl,f⟩;have q:yH (yC 23 #[sV C] w1 λe w'=>e=rV (sV R)/\yW w1 w'):=p.o w1 f;have j:yH (yW w w1):=f;clear f;go_wp2_with fail
   apply q.m;rintro e w2⟨rfl,k⟩;have m:yH (yW w w2):=j.o.trans (k.mono j.o.size);clear k;go_wp2;go_ret;exact⟨rfl,m.o⟩
  rw[Ui a];obtain⟨b,s,v,i,_,B⟩:=c.ai hs;cases i;have c1:=B.c1;have y:(ae t.hash).toList.isEmpty=false:=by rw[ke];simp[a]
  clear c d T B hs a;generalize ae t.hash=H at*;go_enter func80,ntmps80
  go_wp2;go_ret;exact⟨rfl,Un _ _⟩
 cases t with
 |nil=>
  cases c;have o:yH (yC 73 #[] w λe w'=>e=rV (sV (ae (bQ .nil)))/\yW w w'):=Bh w T;clear T d hs;generalize ae (bQ .nil)=R at*;go_enter func80,ntmps80
  go_wp2_with fail
  apply o.m;rintro e w1⟨rfl,f⟩;have l:yH (yW w w1):=f;clear f;go_wp2;go_ret;exact⟨rfl,l.o⟩
 |unread _=>exact absurd trivial hs
 |leaf _ _ _=>exact absurd trivial hs
 |ext _ _ _=>exact absurd trivial hs
 |branch _ _ _=>exact absurd trivial hs
def FP(w h):yC 74 #[sV (ae h)] w (Made w (λ_=>False) (.unread h)):=by
 have a:yH (bU (w.alloc (.cells (fG 0 (ae h) ⟨#[]⟩ ⟨#[]⟩ cN (λ_=>cN)) 167)) w.heap.size (.unread h) cN (λ_=>cN)):=rN w _ _ _ _ _ rfl rfl;generalize hH:ae h=H at*;go_enter func74,ntmps74
 go_wp2;go_ret;exact⟨_,rfl,⟨_,rfl,.inr (Ug _),a.o⟩,(Un _ _).alloc (Ug _) _⟩
def bP(r:yL):Nd:=if r=bM then .nil else .unread r
def CQ(w r)(T:aB w):yC 29 #[sV (ae r)] w (Made w (λ_=>False) (bP r)):=by
 have c:=aa (Bh w T);have f:=pX r bM;by_cases e:r=bM
 .have b:yH (bP r=.nil):=by show _=_;unfold bP;rw[Uj e]
  rw[b.o];rw[Uw e] at f;clear e T;generalize ae bM=E at*;generalize ae r=R at*;go_enter func29,ntmps29
  go_wp2_with fail
  apply c.m;rintro e w1⟨rfl,a⟩;have g:=aa a;clear a;go_wp2;go_ret;exact⟨none,rfl,rfl,g.o⟩
 have b:yH (bP r=.unread r):=by show _=_;unfold bP;rw[Ui e]
 rw[b.o];rw[Uv e] at f;have j:yH (∀W,yW w W->yC 74 #[sV (ae r)] W (Made w (λ_=>False) (.unread r))):=λW l=>(FP W r).mono λe w' h=>h.after l
 clear e T;generalize ae bM=E at*;generalize hR:ae r=R at*;go_enter func29,ntmps29
 go_wp2_with fail
 apply c.m;rintro e w1⟨rfl,a⟩;have k:=aa (j.o w1 a);clear a;go_wp2_with fail
 apply k.m;rintro e1 w2⟨u1,rfl,d⟩;have i:yH _:=d;clear d;go_wp2;go_ret;exact⟨u1,rfl,i.o⟩
def Nd.isNil:Nd->Bool
 | .nil=>true
 | _=>false
def jC(a:Tree->Nat->Bool->Option Nd)(x:Tree)(dep:Nat)(below:Bool):Option Nd:=match x with
 | .lit (.string t)=>if t=[] then some .nil else if t.length≠32\/80<dep then none else some (.unread t)
 |x=>if ff x≠0\/32<=(ft x).size then none else a x dep below
def nx(t:yL):Bool:=decide (t≠[]) && (decide ((hi (t.getD 0 0)).toNat<=3) && (decide ((hi (t.getD 0 0)).toNat % 2≠0) || decide ((lo (t.getD 0 0)).toNat=0)))
def uC(t):nx t=true↔jT t:=by
 unfold nx jT;simp only[Vr,Bool.or_eq_true,VJ];constructor
 .rintro ⟨h1,h2,h3⟩;exact⟨h1,h2,λh=>h3.elim (λa=>absurd h a) id⟩
 rintro ⟨h1,h2,h3⟩;refine⟨h1,h2,?_⟩;by_cases h:(hi (t.getD 0 0)).toNat % 2=0
 .exact .inr (h3 h)
 exact .inl h
def jy(b:Tree->Nat->Bool->Option Nd)(first a:Tree)(dep:Nat):Option Nd:=match first with
 | .lit (.string t)=>
  if nx t=false\/80<dep+(bm t).length then none
  else if fT t=true then match a with
   | .lit (.string v)=>if v=[]\/160<v.length then none else some (.leaf [] (bm t) v)
   | _=>none
  else match jC b a (dep+(bm t).length) true with
   |some k=>if k.isNil=true\/bm t=[] then none else some (.ext [] (bm t) k)
   |none=>none
 | _=>none
def gW(a:Tree->Nat->Bool->Option Nd)(ks:List Tree)(dep i:Nat):Option Nd:=jC a (ks.getD i (ak [])) (dep+1) false
def kD(a:Tree->Nat->Bool->Option Nd)(ks:List Tree)(dep:Nat):Nat->Bool
 | 0=>true
 |i+1=>kD a ks dep i && (gW a ks dep i).isSome
def iH(a:Tree->Nat->Bool->Option Nd)(ks:List Tree)(dep:Nat)(v:yL):Nat->Nat
 | 0=>if v=[] then 0 else 1
 |i+1=>iH a ks dep v i+(if((gW a ks dep i).getD .nil).isNil=true then 0 else 1)
def iI(a:Tree->Nat->Bool->Option Nd)(ks:List Tree)(dep:Nat):Option Nd:=match ks.getD 16 (ak []) with
 | .lit (.string v)=>if 160<v.length then none else if kD a ks dep 16=true/\2<=iH a ks dep v 16 then some (.branch [] v (λi=>(gW a ks dep i).getD .nil)) else none
 | _=>none
def a6:Nat->Tree->Nat->Bool->Option Nd
 |d+1,.slice ks _,dep,below=>if ks.length=2/\below=false then jy (a6 d) (ks.getD 0 (ak [])) (ks.getD 1 (ak [])) dep else if ks.length=17 then iI (a6 d) ks dep else none
 | _,_,_,_=>none
def iL(w:World)(r:Option Nd)(e:Ending)(w':World):Prop:=match r with
 |none=>e=rV (pV none)/\yW w w'
 |some n=>∃b,e=rV (pV (qA b))/\At w' n (λx=>w.heap.size<=x) (pV (qA b))/\yW w w'
def sP(w:World)(r:Option Nd)(e:Ending)(w':World):Prop:=match r with
 |none=>e=rV (tV #[pV none,bV false])/\yW w w'
 |some n=>∃u,e=rV (tV #[pV u,bV true])/\At w' n (λx=>w.heap.size<=x) (pV u)/\yW w w'
def BW(d:Nat):Prop:=∀(w:World) (S:Nat->Prop) (v0 v1 v2:Value) (x:Tree) (dep:Nat) (bl:Bool),bg d w S [v0,v1,v2] x->dep+d<=4096->
 yC 139 #[gV #[v0,v1,v2],iV .i64 (dep:Int),bV bl] w (iL w (a6 d x dep bl))
def Cd(d:Nat):Prop:=∀(w:World) (S:Nat->Prop) (v0 v1 v2:Value) (x:Tree) (dep:Nat) (bl:Bool),bg d w S [v0,v1,v2] x->dep+d<=4096->
 yC 160 #[gV #[v0,v1,v2],iV .i64 (dep:Int),bV bl] w (sP w (jC (a6 d) x dep bl))
def bg.more{w S}:∀(d:Nat) (cs:List Value) (x:Tree),bg d w S cs x->bg (d+1) w S cs x:=by
 intro d;induction d with
 |zero=>intro cs x h;exact .inl h
 |succ d ih=>
  intro cs x h;rcases h with h|⟨t,k,ks,a,h1,h2,h3,h4,h5⟩
  .exact .inl h
  exact .inr ⟨t,k,ks,a,h1,h2,h3,h4,λi hi=>ih _ _ (h5 i hi)⟩
def bg.upto {w : World} {S : Nat → Prop} (d e : Nat) (h : d ≤ e) (cs : List Value) (x : Tree) (hx : bg d w S cs x) : bg e w S cs x := by
  induction e with
  | zero => obtain rfl : d = 0 := by omega
            exact hx
  | succ e ih =>
    by_cases h1 : d = e + 1
    · rw [← h1]; exact hx
    · exact bg.more e cs x (ih (by omega))
def pQ(d:Nat)(x:Tree)(dep:Nat)(below:Bool):Option Nd:=if ff x≠0\/32<=(ft x).size then none else a6 d x dep below
def RX(x:Tree):(ft x).size<=4096:=by
 unfold ft;split
 .unfold iE;split
  .next h=>rw[aN];unfold fH at h;exact of_decide_eq_true h
  exact UD _
 exact UD _
def R3(x:Tree):ff x=0\/ff x=1\/ff x=8:=by
 unfold ff;split
 .split
  .exact .inl rfl
  exact .inr (.inl rfl)
 exact .inr (.inr rfl)
def KE(d:Nat)(D:d<=6)(A:BW d)(w S)(v0:Bool)(v1 j)(l k:Nat)(x:Tree)(dep:Nat)(bl:Bool)(o:bg d w S [bV v0,sV v1,lV j l k] x)(F:dep+d<=4096):yC 162 #[gV #[bV v0,sV v1,lV j l k],i6 (dep:Int),bV bl] w (sP w (pQ d x dep bl)):=by
 have p:yH (∀W,yW w W->yC 128 #[gV #[bV v0,sV v1,lV j l k]] W λe w'=>e=rV (tV #[sV (ft x),i6 (ff x)])/\yW W w'):=λW t=>uH W S _ _ _ x ((bg.upto d 6 D _ _ o).below t)
 have u:yH (∀W,yW w W->yC 139 #[gV #[bV v0,sV v1,lV j l k],i6 (dep:Int),bV bl] W (iL W (a6 d x dep bl))):=λW t=>A W S _ _ _ x dep bl (o.below t) F
 have H:=RX x;have h3:=R3 x;obtain⟨R,s⟩:=yX (pQ d x dep bl);rw[<-s];have v:=aa s;have z:yW w (w.alloc (.cells #[bV v0,sV v1,lV j l k] 155)):=(Un _ _).alloc (Ug _) _;have f:=aa z;clear o A s z;by_cases g:ff x≠0\/32<=(ft x).size
 .have q:yH (R=none):=by show _=_;rw[v.o];unfold pQ;rw[Uj g]
  generalize ff x=E at*;generalize ft x=O at*;by_cases i:E=0
  .subst i;have B:32<=O.size:=g.elim (λh=>absurd rfl h) id;have C:(32:Int)<=(O.size:Int):=by omega
   clear g h3;go_enter func162,ntmps162
   go_wp2_with fail
   refine(p.o _ f.o).mono ?_;rintro e w1⟨rfl,c⟩;have a:=aa (f.o.trans (c.mono f.o.size));clear c;go_wp2;go_ret2;rw[q.o];exact⟨rfl,a.o⟩
  have G:(E != 0)=true:=by simp[i]
  clear g h3 i;go_enter func162,ntmps162
  go_wp2_with fail
  refine(p.o _ f.o).mono ?_;rintro e w1⟨rfl,c⟩;have a:=aa (f.o.trans (c.mono f.o.size));clear c;go_wp2;go_ret2;rw[q.o];exact⟨rfl,a.o⟩
 have q:yH (R=a6 d x dep bl):=by show _=_;rw[v.o];unfold pQ;rw[Ui g]
 have i:ff x=0:=Va λh=>g (.inl h)
 have B:¬32<=(ft x).size:=λh=>g (.inr h)
 rw[i] at p;clear g h3 i;generalize ft x=O at*;have C:¬(32:Int)<=(O.size:Int):=by omega
 rw[<-q.o] at u;go_enter func162,ntmps162
 go_wp2_with fail
 refine(p.o _ f.o).mono ?_;rintro e w1⟨rfl,c⟩;have a:=aa (f.o.trans (c.mono f.o.size));have I:w.heap.size<w1.heap.size:=by have:=c.size;simp at this;omega
 obtain⟨k0,k1,k2,_,_,_⟩:=iB c;clear c;go_wp2_with fail
 refine(u.o _ a.o).mono ?_;cases R with
 |none=>rintro e w2⟨rfl,m⟩;have r:=aa (a.o.trans (m.mono a.o.size));clear m;go_wp2;go_ret2;exact⟨rfl,r.o⟩
 |some n=>
  rintro e w2⟨b,rfl,y,m⟩;have r:yH (At w2 n (λx=>w.heap.size<=x) (pV (qA b))/\yW w w2):=⟨y.mono λx o=>Ut a.o.size o,a.o.trans (m.mono a.o.size)⟩
  clear m y;go_wp2;go_ret2;exact⟨_,rfl,r.o⟩
def QH(d:Nat)(G:d<=6)(p:BW d):Cd d:=by
 intro w S v0 v1 v2 x dep bl f H;rcases lp f with⟨t,rfl,rfl,rfl,L⟩|⟨e,t,ks,M,K,rfl,rfl,rfl,A,F,J⟩
 .have i:yH (jC (a6 d) (ak t.data.toList) dep bl=if t.data.toList=[] then some .nil else if t.data.toList.length≠32\/80<dep then none else some (.unread t.data.toList)):=rfl;obtain⟨R,v⟩:=yX (jC (a6 d) (ak t.data.toList) dep bl);rw[<-v] at i⊢;have k:t.data.toList.length=t.size:=by simp
  clear f p v;by_cases h0:t.size=0
  .have j:yH (R=some .nil):=by show _=_;rw[i.o,Uj (UH.1 (by omega))]
   have I:t.toList.isEmpty=true:=by rw[g7];exact h0
   clear k h0;go_enter func160,ntmps160
   go_wp2;go_ret2;rw[j.o];exact⟨none,rfl,rfl,(Un _ _).alloc (Ug _) _⟩
  have m:t.data.toList≠[]:=λh=>h0 (by rw[<-k,h];rfl)
  have I:t.toList.isEmpty=false:=by rw[iv];omega
  by_cases b:t.size≠32\/80<dep
  .have j:yH (R=none):=by show _=_;rw[i.o,Ui m,Uj (by rw[k];exact b)]
   clear k h0 m;by_cases h32:t.size=32
   .have h80:(80:Int)<(dep:Int):=by have:=b.elim (λh=>absurd h32 h) id;omega
    have q:((t.size:Int) != 32)=false:=by rw[h32];rfl
    clear b h32;go_enter func160,ntmps160
    go_wp2;go_ret2;rw[j.o];exact⟨rfl,(Un _ _).alloc (Ug _) _⟩
   have q:((t.size:Int) != 32)=true:=by simp;omega
   clear b h32;go_enter func160,ntmps160
   go_wp2;go_ret2;rw[j.o];exact⟨rfl,(Un _ _).alloc (Ug _) _⟩
  have j:yH (R=some (.unread t.data.toList)):=by show _=_;rw[i.o,Ui m,Ui (by rw[k];exact b)]
  have h32:t.size=32:=Va λh=>b (.inl h)
  have h80:decide ((80:Int)<(dep:Int))=false:=by have:¬80<dep:=λh=>b (.inr h);simp;omega
  have q:((t.size:Int) != 32)=false:=by rw[h32];rfl
  have C:yH (∀W:World,yC 74 #[sV t] W (Made W (λ_=>False) (.unread t.data.toList))):=λW=>by
   have:=FP W t.data.toList;rw[gA] at this;exact this
  clear k h0 m b h32;go_enter func160,ntmps160
  go_wp2_with fail
  refine(C.o _).mono ?_;rintro e1 w1⟨u1,rfl,r,y⟩;have B:yH (At w1 (.unread t.data.toList) (λx=>w.heap.size<=x) (pV u1)/\yW w w1):=⟨r.mono λx f=>f.elim (λh=>h.elim) (λh=>Ut (Nat.le_succ _) (by simpa using h)),((Un w.heap.size w).alloc (Ug _) _).trans (y.mono (by simp))⟩
  clear r y;go_wp2;go_ret2;rw[j.o];exact⟨u1,rfl,B.o⟩
 obtain⟨a,c,rfl⟩:=A.slice;have D:yH (∀W,yW w W->yC 162 #[gV #[bV true,sV t,lV a ks.length c],i6 (dep:Int),bV bl] W (sP W (pQ d (bJ ks) dep bl))):=λW E=>KE d G p W S true t a _ c _ dep bl (f.below E) H
 have i:yH (jC (a6 d) (bJ ks) dep bl=pQ d (bJ ks) dep bl):=rfl;rw[i.o];have z:yW w (w.alloc (.cells #[bV true,sV t,lV a ks.length c] 155)):=(Un _ _).alloc (Ug _) _;have g:=aa z;clear f p A F J z;generalize pQ d (bJ ks) dep bl=R at*;go_enter func160,ntmps160
 go_wp2_with fail
 refine(D.o _ g.o).mono ?_;cases R with
 |none=>rintro e2 w2⟨rfl,l⟩;have o:=aa (g.o.trans (l.mono g.o.size));clear l;go_wp2;go_ret2;exact⟨rfl,o.o⟩
 |some n=>
  rintro e2 w2⟨u,rfl,s,l⟩;have o:yH (At w2 n (λx=>w.heap.size<=x) (pV u)/\yW w w2):=⟨s.mono λx f=>Ut g.o.size f,g.o.trans (l.mono g.o.size)⟩
  clear l s;go_wp2;go_ret2;exact⟨_,rfl,o.o⟩
end Go.Proofs.YteaodagofkcgbaaGreatDoor
