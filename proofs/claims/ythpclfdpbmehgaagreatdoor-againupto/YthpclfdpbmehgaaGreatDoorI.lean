import Derived.Test.YthpclfdpbmehgaaGreatDoorG
import Derived.Test.YthpclfdpbmehgaaGreatDoorH
open Go.Proofs.Tryz
open Go.Proofs.Tryz renaming prog→yP
open Go.Value renaming string→sV,pointer→pV,int→iV,slice→lV,bool→bV,tuple→tV,agg→gV
open Go.Ending renaming returned→rV
namespace Go.Proofs.YthpclfdpbmehgaaGreatDoor
open Go.RowKit
set_option maxRecDepth 100000
set_option maxHeartbeats 0
set_option linter.all false
def DV:∀(a b),aF a b=a.length->aF a b=b.length->a=b
 | [],[],_,_=>rfl
 | [],y::b,_,h=>by simp[aF] at h
 |x::a,[],h,_=>by simp[aF] at h
 |x::a,y::b,h1,h2=>by
  simp only[aF] at h1 h2
  by_cases e:x=y
  ·rw[Uj e] at h1 h2
   rw[e,DV a b (by simp at h1;omega) (by simp at h2;omega)]
  ·rw[Ui e] at h1;simp at h1
def Dy(w)(t:Nd)(path v:yL)(S u)(c:t.kind=1\/t.kind=2)(f:aw path)(d:path.length<=80)(j:v.length<=160)(b:aO t)(a:At w t S (pV u))(T:aB w)
 (h:aw t.path) (i:t.path.length<=80) (g:t.path≠path):
 yC 139 #[pV u,sV (ae path),sV (ae v),i6 ((aF t.path path:Nat):Int)] w (Made w S (gi t path v (aF t.path path))):=by
 let⟨h1,h2⟩:=iN t.path path;refine Md w t path v _ S u c f d j b a T ?_ h i;by_cases e:aF t.path path=t.path.length/\aF t.path path=path.length
 ·exact absurd (DV _ _ e.1 e.2) g
 ·omega
def KH(h q x):oC (.leaf h q x):=by
 intro w S u p v hA hF _ hn hl hv T;have A3:yH (q≠p->∀W,yW w W->yC 139 #[pV u,sV (ae p),sV (ae v),i6 ((aF q p:Nat):Int)] W (Made w S (gi (.leaf h q x) p v (aF q p)))):=fun A6 W hW=>
  (Dy W (.leaf h q x) p v S u (.inl rfl) hn hl hv hF (hA.below hW) (T.below hW) hF.2.1 hF.2.2.1 A6).mono fun e w' hm=>hm.after hW
 have HL:yH (∀W,yW w W->yC 136 #[sV (ae p),sV (ae v)] W (Made w S (dw p v))):=fun W hW=>
  (qh W p v ⟨.inl rfl,hn,hl,hv⟩ (ov _ _ _ hl hv) (T.below hW)).mono fun e w' h=>(h.mono fun x hx=>hx.elim).after hW
 have A2:=hF.2.2.1;have HS:yH (∀w:World,yC 116 #[sV (ae q),sV (ae p)] w fun e w'=>e=rV (i6 ((aF q p:Nat):Int))/\∃n,w'=w.drewN n):=fun w=>by
  have:=tD (ae q) (ae p) (by rw[aN];unfold maxLen;omega) (by rw[aN];unfold maxLen;omega) w;rw[eU,eU] at this;exact this
 have HR:yH (bR (.leaf h q x) p v=if q=p then dw p v else gi (.leaf h q x) p v (aF q p)):=rfl;obtain⟨b,hu,hs,B⟩:=hA;cases hu
 have c0:yc w b 0 (i6 1):=B.c0;have c2:yc w b 2 (sV (ae q)):=B.c2;have A4:=pX q p;have A8:(ae p).size<=80:=by rw[aN];exact hl
 have A9:(ae q).size<=80:=by rw[aN];exact A2
 have A7:=B.lt;obtain⟨m,hm⟩:=yX (aF q p)
 rw[<-hm] at HS A3 HR;by_cases e:q=p
 ·have A1:yH (bR (.leaf h q x) p v=dw p v):=by show _=_;rw[HR.o,Uj e]
  rw[A1.o];rw[Uw e] at A4;clear hn T hl hv B hF A2 hm e;generalize dw p v=R at*;generalize ae p=P at*;generalize ae q=Q at*;generalize ae v=V at*;go_enter func106,ntmps106
  go_wp2_with fail
  refine(HS.o _).mono ?_;rintro e1 w1 ⟨rfl,n1,rfl⟩;go_wp2_with fail
  refine(HL.o _ (Below.drewN (Un _ _) _)).mono ?_;rintro e1 w1 ⟨u1,rfl,A0⟩;have HF:yH _:=A0;clear A0;go_wp2
  go_ret
  exact⟨u1,rfl,HF.o⟩
 ·have A1:yH (bR (.leaf h q x) p v=gi (.leaf h q x) p v m):=by show _=_;rw[HR.o,Ui e]
  rw[A1.o];rw[Uv e] at A4;have A5:=aa (A3.o e);clear hn T hl hv B hF A2 hm e;generalize gi (.leaf h q x) p v m=R at*;generalize ae p=P at*;generalize ae q=Q at*;generalize ae v=V at*;go_enter func106,ntmps106
  go_wp2_with fail
  refine(HS.o _).mono ?_;rintro e1 w1 ⟨rfl,n1,rfl⟩;go_wp2_with fail
  refine(A5.o _ (Below.drewN (Un _ _) _)).mono ?_;rintro e1 w1 ⟨u1,rfl,A0⟩;have HF:yH _:=A0;clear A0;go_wp2
  go_ret
  exact⟨u1,rfl,HF.o⟩
def KI(h q k w S u)(p v:yL)(hA:At w (.ext h q k) S (pV u))(hF:aO (.ext h q k))(hn:aw p)(hl:p.length<=80)(hv:v.length<=160)(T:aB w)(A0:aF q p≠q.length):
 yC 106 #[pV u,sV (ae p),sV (ae v)] w (Made w S (gi (.ext h q k) p v (aF q p))):=by
 have A2:q≠p:=fun e=>by subst e;apply A0;clear A0 hF hA;induction q with
  |nil=>rfl
  |cons a l ih=>simp only[aF,U5,UJ];rw[ih (fun x hx=>hn x (Ul _ hx)) (by simp at hl;omega)]
 have A3:yH (∀W,yW w W->yC 139 #[pV u,sV (ae p),sV (ae v),i6 ((aF q p:Nat):Int)] W (Made w S (gi (.ext h q k) p v (aF q p)))):=fun W hW=>
  (Dy W (.ext h q k) p v S u (.inr rfl) hn hl hv hF (hA.below hW) (T.below hW) hF.2.1 hF.2.2.1 A2).mono fun e w' hm=>hm.after hW
 have A4:=hF.2.2.1;have HS:yH (∀w:World,yC 116 #[sV (ae q),sV (ae p)] w fun e w'=>e=rV (i6 ((aF q p:Nat):Int))/\∃n,w'=w.drewN n):=fun w=>by
  have:=tD (ae q) (ae p) (by rw[aN];unfold maxLen;omega) (by rw[aN];unfold maxLen;omega) w;rw[eU,eU] at this;exact this
 obtain⟨b,kp,S1,hu,hs,B,hr⟩:=hA;cases hu
 have c0:yc w b 0 (i6 2):=B.c0;have c2:yc w b 2 (sV (ae q)):=B.c2;have A6:(((aF q p:Nat):Int) == ((ae q).size:Int))=false:=Vd.2 (by rw[aN];omega);have A5:=B.lt;clear hn T hl hv B hF A4 hr A2 A0;generalize gi (.ext h q k) p v (aF q p)=R at*;generalize aF q p=m at*;generalize ae p=P at*;generalize ae q=Q at*;generalize ae v=V at*;go_enter func106,ntmps106
 go_wp2_with fail
 refine(HS.o _).mono ?_;rintro e1 w1 ⟨rfl,n1,rfl⟩;go_wp2_with fail
 refine(A3.o _ (Below.drewN (Un _ _) _)).mono ?_;rintro e1 w1 ⟨u1,rfl,A1⟩;have HF:yH _:=A1;clear A1;go_wp2
 go_ret
 exact⟨u1,rfl,HF.o⟩
def KJ(h q k)(ih:oC k)(w S u)(p v:yL)(hA:At w (.ext h q k) S (pV u))(hF:aO (.ext h q k))(hn:aw p)(hl:p.length<=80)(hv:v.length<=160)(T:aB w)(A5:aF q p=q.length)(ho:dD k (p.drop q.length)):
 yC 106 #[pV u,sV (ae p),sV (ae v)] w (Made w S (gm q (bR k (p.drop q.length) v))):=by
 obtain⟨b,kp,S1,hu,hs,B,A7,hK⟩:=hA;cases hu
 obtain⟨uk,rfl⟩:=hK.ptr;have A1:=hF.2.2.1;have HS:yH (∀w:World,yC 116 #[sV (ae q),sV (ae p)] w fun e w'=>e=rV (i6 ((ae q).size:Int))/\∃n,w'=w.drewN n):=fun w=>by
  have:=tD (ae q) (ae p) (by rw[aN];unfold maxLen;omega) (by rw[aN];unfold maxLen;omega) w;rw[eU,eU,A5] at this;rw[aN];exact this
 have c0:yc w b 0 (i6 2):=B.c0;have c2:yc w b 2 (sV (ae q)):=B.c2;have c4:yc w b 4 (pV uk):=B.c4;have B1:=B.lt;have HW:yH (∀W,yW w W->yC 106 #[pV uk,sV ((ae p).extract (ae q).size (ae p).size),sV (ae v)] W (Made w S (bR k (p.drop q.length) v))):=fun W hW=>by
  rw[aN q,rf];exact(ih W S1 uk _ v (hK.below hW) hF.2.2.2.2 ho (da hn _) (by rw[Uu];omega) hv (T.below hW)).mono fun e w' hm=>(hm.mono fun x hx=>(A7 x hx).1).after hW
 have A3:=uF hF.2.2.2.2 ho (da hn q.length) (by rw[Uu];omega) hv;have B0:=yl (v:=v) hF.2.2.2.1 ho;have HE:yH (∀W u1,yW w W->At W (bR k (p.drop q.length) v) (fun x=>S x\/w.heap.size<=x) (pV u1)->yC 138 #[sV (ae q),pV u1] W (Made w S (gm q (bR k (p.drop q.length) v)))):=fun W u1 hW h1=>
  (zU W q _ _ u1 h1 ⟨.inl rfl,hF.2.1,A1,A3.lL⟩ (uN _ _ _ A1 A3) (T.below hW)).mono fun e w' hm=>by
   obtain⟨u2,e1,e2,e3⟩:=hm;exact⟨u2,e1,e2.mono fun x hx=>hx.elim id (fun h=>.inr (Ut hW.size h)),hW.trans (e3.mono hW.size)⟩
 have A4:=(iN q p).2;rw[A5] at A4;have B2:(ae q).size<=(ae p).size:=by rw[aN,aN];exact A4
 have B3:((ae q).size:Int)<=((ae p).size:Int):=by omega
 have B4:(ae q).size<=80:=by rw[aN];exact A1
 clear hn T hl hv B hF A1 A5 ho hK A7 A4 A3 B0;generalize gm q (bR k (p.drop q.length) v)=R at*;generalize bR k (p.drop q.length) v=RK at*;generalize ae p=P at*;generalize ae q=Q at*;generalize ae v=V at*;go_enter func106,ntmps106
 go_wp2_with fail
 refine(HS.o _).mono ?_;rintro e1 w1 ⟨rfl,n1,rfl⟩;go_upto_region 7 with fail
 go_cut [8] (fun r wx=>∃u1,r=pV u1/\At wx RK (fun x=>S x\/w.heap.size<=x) (pV u1)/\yW w wx)
 case first=>
  go_region_with (go_at_call 106;refine(HW.o _ (by first|exact Below.drewN (Un _ _) _ |exact(Below.drewN (Un _ _) _).drew)).mono ?_;rintro e1 w1 ⟨u1,rfl,A0⟩;have A9:yH _:=A0;clear A0)
  all_goals
   go_wp2
   go_meet
   exact⟨u1,rfl,A9.o⟩
 case rest=>
  obtain⟨u1,rfl,A0,A2⟩:=hcut;have d2:=(A2.cell (p:=⟨b,2,none⟩) B1).trans c2;have A8:=aa (HE.o wc u1 A2 A0);clear A0 A2 c0 c2 c4;go_wp2_with fail
  refine A8.m ?_;rintro e1 w1 ⟨u2,rfl,A6⟩;have HF:yH _:=A6;clear A6;go_wp2
  go_ret
  exact⟨u2,rfl,HF.o⟩
def KM(h q k)(i:oC k):oC (.ext h q k):=by
 intro w S u p v a b g d c f T;simp only[bR];by_cases e:aF q p=q.length
 ·rw[Uj e];exact KJ h q k i w S u p v a b d c f T e (g e)
 ·rw[Ui e];exact KI h q k w S u p v a b d c f T e
def KQ:∀t:Nd,oC t:=by
 intro t;induction t with
 |nil=>exact KG
 |unread h=>intro w S u p v _ _ a;exact a.elim
 |leaf h q x=>exact KH h q x
 |ext h q k ih=>exact KM h q k ih
 |branch h x ks ih=>exact KO h x ks fun w S u p v=>Te h x ks (fun i _=>ih i) w S u p v
def bM:yL:=fe [128]
def Bh(w)(T:aB w):yC 59 #[] w fun e w'=>e=rV (sV (ae bM))/\yW w w':=by
 have c:yH (yC 16 #[sV ⟨#[128]⟩] w fun e w'=>e=rV (sV (ae bM))/\yW w w'):=by
  have:=ja ⟨#[128]⟩ (by decide) w T;show yC 16 _ w _;unfold bM;rw[mX];exact this
 clear T;generalize ae bM=R at*;go_enter func59,ntmps59
 go_wp2_with fail
 refine c.m ?_;rintro e w1 ⟨rfl,a⟩;have b:=aa a;clear a;go_wp2
 go_ret
 exact⟨rfl,b.o⟩
def bQ:Nd->yL
 | .nil=>bM
 |t=>if t.hash=[] then fe t.code else t.hash
def nQ{t:Nd}(h:t.some):bQ t=if t.hash=[] then fe t.code else t.hash:=by cases t<;>first|exact h.elim|rfl
def Em(w t S u)(c:At w t S (pV u))(d:aO t)(T:aB w):
 yC 36 #[pV u] w fun e w'=>e=rV (sV (ae (bQ t)))/\yW w w':=by
 by_cases hs:t.some
 ·rw[nQ hs];by_cases a:t.hash=[]
  ·have h:t.read:=by
    cases t with
    |nil=>exact hs.elim
    |unread x=>have:x.length=32:=d;rw[show x=[] from a] at this;cases this
    |leaf _ _ _=>trivial
    |ext _ _ _=>trivial
    |branch _ _ _=>trivial
   rw[Uj a];have g:=d.ow h;have n:yH (yC 70 #[pV u] w fun e w'=>e=rV (sV (ae t.code))/\yW w w'):=xH w t S _ c d.lL h g;have p:yH (∀W,yW w W->yC 16 #[sV (ae t.code)] W fun e w'=>e=rV (sV (ae (fe t.code)))/\yW W w'):=fun W r=>by
    have:=ja (ae t.code) (by rw[aN];unfold maxLen;have:=g.2;omega) W (T.below r);rw[mX];exact this
   obtain⟨b,s,v,i,_,B⟩:=c.ai hs;cases i
   have c1:w.cell? ⟨b,1,none⟩=some (sV ⟨#[]⟩):=by rw[B.c1,a];rfl
   clear c d T B hs a h g;generalize ae t.code=C at*;generalize ae (fe t.code)=R at*;go_enter func36,ntmps36
   go_wp2_with fail
   refine n.m ?_;rintro e w1 ⟨rfl,f⟩;have q:yH (yC 16 #[sV C] w1 fun e w'=>e=rV (sV R)/\yW w1 w'):=p.o w1 f;have j:yH (yW w w1):=f;clear f;go_wp2_with fail
   refine q.m ?_;rintro e w2 ⟨rfl,k⟩;have m:yH (yW w w2):=j.o.trans (k.mono j.o.size);clear k;go_wp2
   go_ret
   exact⟨rfl,m.o⟩
  ·rw[Ui a];obtain⟨b,s,v,i,_,B⟩:=c.ai hs;cases i
   have c1:=B.c1;have y:(ae t.hash).toList.isEmpty=false:=by rw[ke];simp[a]
   clear c d T B hs a;generalize ae t.hash=H at*;go_enter func36,ntmps36
   go_wp2
   go_ret
   exact⟨rfl,Un _ _⟩
 ·cases t with
  |nil=>
   cases c
   have o:yH (yC 59 #[] w fun e w'=>e=rV (sV (ae (bQ .nil)))/\yW w w'):=Bh w T;clear T d hs;generalize ae (bQ .nil)=R at*;go_enter func36,ntmps36
   go_wp2_with fail
   refine o.m ?_;rintro e w1 ⟨rfl,f⟩;have l:yH (yW w w1):=f;clear f;go_wp2
   go_ret
   exact⟨rfl,l.o⟩
  |unread _=>exact absurd trivial hs
  |leaf _ _ _=>exact absurd trivial hs
  |ext _ _ _=>exact absurd trivial hs
  |branch _ _ _=>exact absurd trivial hs
def FP(w h):yC 60 #[sV (ae h)] w (Made w (fun _=>False) (.unread h)):=by
 have a:yH (bU (w.alloc (.cells (fG 0 (ae h) ⟨#[]⟩ ⟨#[]⟩ cN (fun _=>cN)) 133)) w.heap.size (.unread h) cN (fun _=>cN)):=rN w _ _ _ _ _ rfl rfl;generalize hH:ae h=H at*;go_enter func60,ntmps60
 go_wp2
 go_ret
 exact⟨_,rfl,⟨_,rfl,.inr (Ug _),a.o⟩,(Un _ _).alloc (Ug _) _⟩
def bP(r:yL):Nd:=if r=bM then .nil else .unread r
def CQ(w r)(T:aB w):yC 28 #[sV (ae r)] w (Made w (fun _=>False) (bP r)):=by
 have c:=aa (Bh w T);have f:=pX r bM;by_cases e:r=bM
 ·have b:yH (bP r=.nil):=by show _=_;unfold bP;rw[Uj e]
  rw[b.o];rw[Uw e] at f;clear e T;generalize ae bM=E at*;generalize ae r=R at*;go_enter func28,ntmps28
  go_wp2_with fail
  refine c.m ?_;rintro e w1 ⟨rfl,a⟩;have g:=aa a;clear a;go_wp2
  go_ret
  exact⟨none,rfl,rfl,g.o⟩
 ·have b:yH (bP r=.unread r):=by show _=_;unfold bP;rw[Ui e]
  rw[b.o];rw[Uv e] at f;have j:yH (∀W,yW w W->yC 60 #[sV (ae r)] W (Made w (fun _=>False) (.unread r))):=fun W l=>(FP W r).mono fun e w' h=>h.after l
  clear e T;generalize ae bM=E at*;generalize hR:ae r=R at*;go_enter func28,ntmps28
  go_wp2_with fail
  refine c.m ?_;rintro e w1 ⟨rfl,a⟩;have k:=aa (j.o w1 a);clear a;go_wp2_with fail
  refine k.m ?_;rintro e1 w2 ⟨u1,rfl,d⟩;have i:yH _:=d;clear d;go_wp2
  go_ret
  exact⟨u1,rfl,i.o⟩
def Nd.isNil:Nd->Bool
 | .nil=>true
 | _=>false
def jC(a:Tree->Nat->Bool->Option Nd)(x:Tree)(dep:Nat)(below:Bool):Option Nd:=match x with
 | .lit (.string t)=>if t=[] then some .nil else if t.length≠32\/80<dep then none else some (.unread t)
 |x=>if ff x≠0\/32<=(ft x).size then none else a x dep below
def nx(t:yL):Bool:=decide (t≠[]) && (decide ((hi (t.getD 0 0)).toNat<=3) && (decide ((hi (t.getD 0 0)).toNat % 2≠0) || decide ((lo (t.getD 0 0)).toNat=0)))
def uC(t):nx t=true↔jT t:=by
 unfold nx jT;simp only[Vr,Bool.or_eq_true,VJ];constructor
 ·rintro ⟨h1,h2,h3⟩;exact⟨h1,h2,fun h=>h3.elim (fun a=>absurd h a) id⟩
 ·rintro ⟨h1,h2,h3⟩;refine⟨h1,h2,?_⟩;by_cases h:(hi (t.getD 0 0)).toNat % 2=0
  ·exact .inr (h3 h)
  ·exact .inl h
def jy(b:Tree->Nat->Bool->Option Nd)(first a:Tree)(dep:Nat):Option Nd:=match first with
 | .lit (.string t)=>
  if nx t=false\/80<dep+(bm t).length then none
  else if fT t=true then match a with
   | .lit (.string v)=>if v=[]\/160<v.length then none else some (.leaf [] (bm t) v)
   | _=>none
  else match jC b a (dep+(bm t).length) true with
   |some k=>if k.isNil=true\/bm t=[] then none else some (.ext [] (bm t) k)
   |none=>none
 | _=>none
def gW(a:Tree->Nat->Bool->Option Nd)(ks:List Tree)(dep i:Nat):Option Nd:=jC a (ks.getD i (ak [])) (dep+1) false
def kD(a:Tree->Nat->Bool->Option Nd)(ks:List Tree)(dep:Nat):Nat->Bool
 | 0=>true
 |i+1=>kD a ks dep i && (gW a ks dep i).isSome
def iH(a:Tree->Nat->Bool->Option Nd)(ks:List Tree)(dep:Nat)(v:yL):Nat->Nat
 | 0=>if v=[] then 0 else 1
 |i+1=>iH a ks dep v i+(if((gW a ks dep i).getD .nil).isNil=true then 0 else 1)
def iI(a:Tree->Nat->Bool->Option Nd)(ks:List Tree)(dep:Nat):Option Nd:=match ks.getD 16 (ak []) with
 | .lit (.string v)=>if 160<v.length then none else if kD a ks dep 16=true/\2<=iH a ks dep v 16 then some (.branch [] v (fun i=>(gW a ks dep i).getD .nil)) else none
 | _=>none
def a6:Nat->Tree->Nat->Bool->Option Nd
 |d+1,.slice ks _,dep,below=>if ks.length=2/\below=false then jy (a6 d) (ks.getD 0 (ak [])) (ks.getD 1 (ak [])) dep else if ks.length=17 then iI (a6 d) ks dep else none
 | _,_,_,_=>none
def iL(w:World)(r:Option Nd)(e:Ending)(w':World):Prop:=match r with
 |none=>e=rV (pV none)/\yW w w'
 |some n=>∃b,e=rV (pV (qA b))/\At w' n (fun x=>w.heap.size<=x) (pV (qA b))/\yW w w'
def sP(w:World)(r:Option Nd)(e:Ending)(w':World):Prop:=match r with
 |none=>e=rV (tV #[pV none,bV false])/\yW w w'
 |some n=>∃u,e=rV (tV #[pV u,bV true])/\At w' n (fun x=>w.heap.size<=x) (pV u)/\yW w w'
def BW(d:Nat):Prop:=∀(w:World) (S:Nat->Prop) (v0 v1 v2:Value) (x:Tree) (dep:Nat) (bl:Bool),bg d w S [v0,v1,v2] x->dep+d<=4096->
 yC 147 #[gV #[v0,v1,v2],iV .i64 (dep:Int),bV bl] w (iL w (a6 d x dep bl))
def Cd(d:Nat):Prop:=∀(w:World) (S:Nat->Prop) (v0 v1 v2:Value) (x:Tree) (dep:Nat) (bl:Bool),bg d w S [v0,v1,v2] x->dep+d<=4096->
 yC 162 #[gV #[v0,v1,v2],iV .i64 (dep:Int),bV bl] w (sP w (jC (a6 d) x dep bl))
def bg.more{w S}:∀(d:Nat) (cs:List Value) (x:Tree),bg d w S cs x->bg (d+1) w S cs x:=by
 intro d;induction d with
 |zero=>intro cs x h;exact .inl h
 |succ d ih=>
  intro cs x h;rcases h with h|⟨t,k,ks,a,h1,h2,h3,h4,h5⟩
  ·exact .inl h
  ·exact .inr ⟨t,k,ks,a,h1,h2,h3,h4,fun i hi=>ih _ _ (h5 i hi)⟩
def bg.upto {w : World} {S : Nat → Prop} (d e : Nat) (h : d ≤ e) (cs : List Value) (x : Tree) (hx : bg d w S cs x) : bg e w S cs x := by
  induction e with
  | zero => obtain rfl : d = 0 := by omega
            exact hx
  | succ e ih =>
    by_cases h1 : d = e + 1
    · rw [← h1]; exact hx
    · exact bg.more e cs x (ih (by omega))
def pQ(d:Nat)(x:Tree)(dep:Nat)(below:Bool):Option Nd:=if ff x≠0\/32<=(ft x).size then none else a6 d x dep below
def RX(x:Tree):(ft x).size<=4096:=by
 unfold ft;split
 ·unfold iE;split
  ·next h=>rw[aN];unfold fH at h;exact of_decide_eq_true h
  ·exact UD _
 ·exact UD _
def R3(x:Tree):ff x=0\/ff x=1\/ff x=8:=by
 unfold ff;split
 ·split
  ·exact .inl rfl
  ·exact .inr (.inl rfl)
 ·exact .inr (.inr rfl)
def KE(d:Nat)(D:d<=6)(A:BW d)(w S)(v0:Bool)(v1 j)(l k:Nat)(x:Tree)(dep:Nat)(bl:Bool)(o:bg d w S [bV v0,sV v1,lV j l k] x)(F:dep+d<=4096):
 yC 163 #[gV #[bV v0,sV v1,lV j l k],i6 (dep:Int),bV bl] w (sP w (pQ d x dep bl)):=by
 have p:yH (∀W,yW w W->yC 63 #[gV #[bV v0,sV v1,lV j l k]] W fun e w'=>e=rV (tV #[sV (ft x),i6 (ff x)])/\yW W w'):=fun W t=>uH W S _ _ _ x ((bg.upto d 6 D _ _ o).below t)
 have u:yH (∀W,yW w W->yC 147 #[gV #[bV v0,sV v1,lV j l k],i6 (dep:Int),bV bl] W (iL W (a6 d x dep bl))):=fun W t=>A W S _ _ _ x dep bl (o.below t) F
 have H:=RX x;have h3:=R3 x;obtain⟨R,s⟩:=yX (pQ d x dep bl)
 rw[<-s];have v:=aa s;have z:yW w (w.alloc (.cells #[bV v0,sV v1,lV j l k] 120)):=(Un _ _).alloc (Ug _) _;have f:=aa z;clear o A s z;by_cases g:ff x≠0\/32<=(ft x).size
 ·have q:yH (R=none):=by show _=_;rw[v.o];unfold pQ;rw[Uj g]
  generalize ff x=E at*;generalize ft x=O at*;by_cases i:E=0
  ·subst i;have B:32<=O.size:=g.elim (fun h=>absurd rfl h) id;have C:(32:Int)<=(O.size:Int):=by omega
   clear g h3;go_enter func163,ntmps163
   go_wp2_with fail
   refine(p.o _ f.o).mono ?_;rintro e w1 ⟨rfl,c⟩;have a:=aa (f.o.trans (c.mono f.o.size));clear c;go_wp2
   go_ret2
   rw[q.o];exact⟨rfl,a.o⟩
  ·have G:(E != 0)=true:=by simp[i]
   clear g h3 i;go_enter func163,ntmps163
   go_wp2_with fail
   refine(p.o _ f.o).mono ?_;rintro e w1 ⟨rfl,c⟩;have a:=aa (f.o.trans (c.mono f.o.size));clear c;go_wp2
   go_ret2
   rw[q.o];exact⟨rfl,a.o⟩
 ·have q:yH (R=a6 d x dep bl):=by show _=_;rw[v.o];unfold pQ;rw[Ui g]
  have i:ff x=0:=Va fun h=>g (.inl h)
  have B:¬32<=(ft x).size:=fun h=>g (.inr h)
  rw[i] at p;clear g h3 i;generalize ft x=O at*;have C:¬(32:Int)<=(O.size:Int):=by omega
  rw[<-q.o] at u;go_enter func163,ntmps163
  go_wp2_with fail
  refine(p.o _ f.o).mono ?_;rintro e w1 ⟨rfl,c⟩;have a:=aa (f.o.trans (c.mono f.o.size));have I:w.heap.size<w1.heap.size:=by have:=c.size;simp at this;omega
  obtain⟨k0,k1,k2,_,_,_⟩:=iB c;clear c;go_wp2_with fail
  refine(u.o _ a.o).mono ?_;cases R with
  |none=>
   rintro e w2 ⟨rfl,m⟩;have r:=aa (a.o.trans (m.mono a.o.size));clear m;go_wp2
   go_ret2
   exact⟨rfl,r.o⟩
  |some n=>
   rintro e w2 ⟨b,rfl,y,m⟩;have r:yH (At w2 n (fun x=>w.heap.size<=x) (pV (qA b))/\yW w w2):=⟨y.mono fun x o=>Ut a.o.size o,a.o.trans (m.mono a.o.size)⟩
   clear m y;go_wp2
   go_ret2
   exact⟨_,rfl,r.o⟩
def QH(d:Nat)(G:d<=6)(p:BW d):Cd d:=by
 intro w S v0 v1 v2 x dep bl f H;rcases lp f with⟨t,rfl,rfl,rfl,L⟩|⟨e,t,ks,M,K,rfl,rfl,rfl,A,F,J⟩
 ·have i:yH (jC (a6 d) (ak t.data.toList) dep bl=if t.data.toList=[] then some .nil else if t.data.toList.length≠32\/80<dep then none else some (.unread t.data.toList)):=rfl;obtain⟨R,v⟩:=yX (jC (a6 d) (ak t.data.toList) dep bl)
  rw[<-v] at i⊢;have k:t.data.toList.length=t.size:=by simp
  clear f p v;by_cases h0:t.size=0
  ·have j:yH (R=some .nil):=by show _=_;rw[i.o,Uj (UH.1 (by omega))]
   have I:t.toList.isEmpty=true:=by rw[g7];exact h0
   clear k h0;go_enter func162,ntmps162
   go_wp2
   go_ret2
   rw[j.o];exact⟨none,rfl,rfl,(Un _ _).alloc (Ug _) _⟩
  ·have m:t.data.toList≠[]:=fun h=>h0 (by rw[<-k,h];rfl)
   have I:t.toList.isEmpty=false:=by rw[iv];omega
   by_cases b:t.size≠32\/80<dep
   ·have j:yH (R=none):=by show _=_;rw[i.o,Ui m,Uj (by rw[k];exact b)]
    clear k h0 m;by_cases h32:t.size=32
    ·have h80:(80:Int)<(dep:Int):=by have:=b.elim (fun h=>absurd h32 h) id;omega
     have q:((t.size:Int) != 32)=false:=by rw[h32];rfl
     clear b h32;go_enter func162,ntmps162
     go_wp2
     go_ret2
     rw[j.o];exact⟨rfl,(Un _ _).alloc (Ug _) _⟩
    ·have q:((t.size:Int) != 32)=true:=by simp;omega
     clear b h32;go_enter func162,ntmps162
     go_wp2
     go_ret2
     rw[j.o];exact⟨rfl,(Un _ _).alloc (Ug _) _⟩
   ·have j:yH (R=some (.unread t.data.toList)):=by show _=_;rw[i.o,Ui m,Ui (by rw[k];exact b)]
    have h32:t.size=32:=Va fun h=>b (.inl h)
    have h80:decide ((80:Int)<(dep:Int))=false:=by have:¬80<dep:=fun h=>b (.inr h);simp;omega
    have q:((t.size:Int) != 32)=false:=by rw[h32];rfl
    have C:yH (∀W:World,yC 60 #[sV t] W (Made W (fun _=>False) (.unread t.data.toList))):=fun W=>by
     have:=FP W t.data.toList;rw[gA] at this;exact this
    clear k h0 m b h32;go_enter func162,ntmps162
    go_wp2_with fail
    refine(C.o _).mono ?_;rintro e1 w1 ⟨u1,rfl,r,y⟩;have B:yH (At w1 (.unread t.data.toList) (fun x=>w.heap.size<=x) (pV u1)/\yW w w1):=⟨r.mono fun x f=>f.elim (fun h=>h.elim) (fun h=>Ut (Nat.le_succ _) (by simpa using h)),((Un w.heap.size w).alloc (Ug _) _).trans (y.mono (by simp))⟩
    clear r y;go_wp2
    go_ret2
    rw[j.o];exact⟨u1,rfl,B.o⟩
 ·obtain⟨a,c,rfl⟩:=A.slice;have D:yH (∀W,yW w W->yC 163 #[gV #[bV true,sV t,lV a ks.length c],i6 (dep:Int),bV bl] W (sP W (pQ d (bJ ks) dep bl))):=fun W E=>KE d G p W S true t a _ c _ dep bl (f.below E) H
  have i:yH (jC (a6 d) (bJ ks) dep bl=pQ d (bJ ks) dep bl):=rfl;rw[i.o];have z:yW w (w.alloc (.cells #[bV true,sV t,lV a ks.length c] 120)):=(Un _ _).alloc (Ug _) _;have g:=aa z;clear f p A F J z;generalize pQ d (bJ ks) dep bl=R at*;go_enter func162,ntmps162
  go_wp2_with fail
  refine(D.o _ g.o).mono ?_;cases R with
  |none=>
   rintro e2 w2 ⟨rfl,l⟩;have o:=aa (g.o.trans (l.mono g.o.size));clear l;go_wp2
   go_ret2
   exact⟨rfl,o.o⟩
  |some n=>
   rintro e2 w2 ⟨u,rfl,s,l⟩;have o:yH (At w2 n (fun x=>w.heap.size<=x) (pV u)/\yW w w2):=⟨s.mono fun x f=>Ut g.o.size f,g.o.trans (l.mono g.o.size)⟩
   clear l s;go_wp2
   go_ret2
   exact⟨_,rfl,o.o⟩
def JV(d:Nat):Prop:=∀(w:World) (S:Nat->Prop) (f0 f1 f2 s0 s1 s2:Value) (x y:Tree) (dep:Nat),bg d w S [f0,f1,f2] x->bg d w S [s0,s1,s2] y->dep+d<=4096->
 yC 157 #[gV #[f0,f1,f2],gV #[s0,s1,s2],iV .i64 (dep:Int)] w (iL w (jy (a6 d) x y dep))
def uu{d w S v0 v1 v2 x}(h:bg d w S [v0,v1,v2] x):∃l t,v0=bV l/\v1=sV t:=by
 rcases lp h with⟨t,rfl,rfl,_⟩|⟨e,t,ks,a,_,rfl,rfl,_⟩
 ·exact⟨false,t,rfl,rfl⟩
 ·exact⟨true,t,rfl,rfl⟩
def Oh(w:World)(f1:yB)(f2:Value)(s0:Bool)(s1:yB)(s2:Value)(dep:Nat):
 yC 157 #[gV #[bV true,sV f1,f2],gV #[bV s0,sV s1,s2],i6 (dep:Int)] w (iL w none):=by
 go_enter func157,ntmps157
 go_wp2
 go_ret
 exact⟨rfl,qJ w _ _⟩
def EP(w:World)(t:yB)(f2:Value)(s0:Bool)(s1:yB)(s2:Value)(dep:Nat)(ht:t.size<=maxLen)(hb:4096<t.size\/¬jT t.data.toList):
 yC 157 #[gV #[bV false,sV t,f2],gV #[bV s0,sV s1,s2],i6 (dep:Int)] w (iL w none):=by
 obtain⟨E,hE⟩:∃E:Int,E=if 4096<t.size then 1 else 7:=⟨_,rfl⟩
 have HU:yH (∀W:World,yC 161 #[sV t] W fun e w'=>e=rV (tV #[sV ByteArray.empty,bV false,i6 E])/\w'=W):=fun W=>by
  rw[hE];exact Lk t ht hb W
 have A0:(E != 0)=true:=by rw[hE];split<;>rfl
 clear hb ht hE;go_enter func157,ntmps157
 go_wp2_with fail
 refine(HU.o _).mono ?_;rintro e w1 ⟨rfl,rfl⟩;go_wp2
 go_ret
 exact⟨rfl,qJ w _ _⟩
def rn{w w1:World}{o x y z T}(a:Below ((w.alloc o).alloc (.cells #[x,y,z] T)).heap.size ((w.alloc o).alloc (.cells #[x,y,z] T)) w1):
 yc w1 (w.heap.size+1) 0 x/\yc w1 (w.heap.size+1) 1 y/\yc w1 (w.heap.size+1) 2 z/\yW w w1/\w.heap.size+1<w1.heap.size:=by
 let⟨h0,h1,h2,_⟩:=iB (w:=w.alloc o) a;have e:(w.alloc o).heap.size=w.heap.size+1:=by simp
 rw[e] at h0 h1 h2;refine⟨h0,h1,h2,(qJ w _ _).trans (a.mono (by simp;omega)),?_⟩;have:=a.size;simp at this;omega
def Ol(w:World)(t:yB)(f2:Value)(s0:Bool)(s1:yB)(s2:Value)(dep:Nat)(k:dep<=4096)(f:t.size<=4096)(c:jT t.data.toList)(i:80<dep+(bm t.data.toList).length)(d:(bm t.data.toList).length<=8192):
 yC 157 #[gV #[bV false,sV t,f2],gV #[bV s0,sV s1,s2],i6 (dep:Int)] w (iL w none):=by
 have h:=aa (vz t f c);have l:(ae (bm t.data.toList)).size<=8192:=by rw[aN];exact d
 have j:(80:Int)<(dep:Int)+((ae (bm t.data.toList)).size:Int):=by rw[aN];omega
 clear f c i d;generalize ae (bm t.data.toList)=P at*;generalize fT t.data.toList=L at*;go_enter func157,ntmps157
 go_wp2_with fail
 refine(h.o _).mono ?_;rintro e w1 ⟨rfl,a⟩;obtain⟨_,_,_,b,_⟩:=rn a;have g:=aa b;clear a b;go_wp2
 go_ret
 exact⟨rfl,g.o⟩
def EO(w:World)(t:yB)(f2:Value)(s0:Bool)(s1:yB)(s2:Value)(dep:Nat)(j:t.size<=4096)(g:jT t.data.toList)(l:dep+(bm t.data.toList).length<=80)(i:fT t.data.toList=true)
 (d:s0=true\/s1.size=0\/160<s1.size):
 yC 157 #[gV #[bV false,sV t,f2],gV #[bV s0,sV s1,s2],i6 (dep:Int)] w (iL w none):=by
 have f:yH (∀W:World,yC 161 #[sV t] W fun e w'=>e=rV (tV #[sV (ae (bm t.data.toList)),bV true,i6 0])/\yW W w'):=fun W=>by have:=vz t j g W;rw[i] at this;exact this
 have o:(ae (bm t.data.toList)).size<=80:=by rw[aN];omega
 have m:¬(80:Int)<(dep:Int)+((ae (bm t.data.toList)).size:Int):=by rw[aN];omega
 have n:dep<=80:=by omega
 clear j g l i;generalize ae (bm t.data.toList)=P at*;cases s0 with
 |true=>
  go_enter func157,ntmps157
  go_wp2_with fail
  refine(f.o _).mono ?_;rintro e w1 ⟨rfl,a⟩;obtain⟨k0,k1,_,b,_⟩:=rn a;have c:=aa b;clear a b d;go_wp2
  go_ret
  exact⟨rfl,c.o⟩
 |false=>
  by_cases h0:s1.size=0
  ·have k:s1.toList.isEmpty=true:=by rw[g7];exact h0
   clear d h0;go_enter func157,ntmps157
   go_wp2_with fail
   refine(f.o _).mono ?_;rintro e w1 ⟨rfl,a⟩;obtain⟨k0,k1,_,b,_⟩:=rn a;have c:=aa b;clear a b;go_wp2
   go_ret
   exact⟨rfl,c.o⟩
  ·have h160:(160:Int)<(s1.size:Int):=by
    have:160<s1.size:=by rcases d with h|h|h;cases h;exact absurd h h0;exact h
    omega
   have k:s1.toList.isEmpty=false:=by rw[iv];omega
   clear d h0;go_enter func157,ntmps157
   go_wp2_with fail
   refine(f.o _).mono ?_;rintro e w1 ⟨rfl,a⟩;obtain⟨k0,k1,_,b,_⟩:=rn a;have c:=aa b;clear a b;go_wp2
   go_ret
   exact⟨rfl,c.o⟩
def Oj(w:World)(t:yB)(f2:Value)(s1:yB)(s2:Value)(dep:Nat)(g:t.size<=4096)(d:jT t.data.toList)(j:dep+(bm t.data.toList).length<=80)(f:fT t.data.toList=true)
 (h0:s1.size≠0) (h1:s1.size<=160):
 yC 157 #[gV #[bV false,sV t,f2],gV #[bV false,sV s1,s2],i6 (dep:Int)] w (iL w (some (.leaf [] (bm t.data.toList) s1.data.toList))):=by
 have i:yH (∀W:World,yC 161 #[sV t] W fun e w'=>e=rV (tV #[sV (ae (bm t.data.toList)),bV true,i6 0])/\yW W w'):=fun W=>by have:=vz t g d W;rw[f] at this;exact this
 have h:yH (∀W:World,bU (W.alloc (.cells (fG 1 ⟨#[]⟩ (ae (bm t.data.toList)) s1 cN (fun _=>cN)) 133)) W.heap.size (.leaf [] (bm t.data.toList) s1.data.toList) cN (fun _=>cN)):=fun W=>rN W _ _ _ _ _ rfl (by show _=Obj.cells (fG 1 _ _ (ae s1.data.toList) _ _) 133;rw[gA];rfl)
 have n:(ae (bm t.data.toList)).size<=80:=by rw[aN];omega
 have k:¬(80:Int)<(dep:Int)+((ae (bm t.data.toList)).size:Int):=by rw[aN];omega
 have l:dep<=80:=by omega
 have h160:¬(160:Int)<(s1.size:Int):=by omega
 have m:s1.toList.isEmpty=false:=by rw[iv];omega
 clear g d j f h0 h1;generalize hPP:bm t.data.toList=PP at*;generalize hSP:ae PP=P at*;go_enter func157,ntmps157
 go_wp2_with fail
 refine(i.o _).mono ?_;rintro e w1 ⟨rfl,b⟩;obtain⟨k0,k1,_,c,o⟩:=rn b;have a:=aa c;clear b c;go_wp2
 go_ret
 exact⟨_,rfl,⟨_,rfl,a.o.size,h.o w1⟩,a.o.alloc a.o.size _⟩
def se(p:yL)(r:Option Nd):Option Nd:=match r with
 |some k=>if k.isNil=true\/p=[] then none else some (.ext [] p k)
 |none=>none
def Be(p k):se p (some k)=if k.isNil=true\/p=[] then none else some (.ext [] p k):=rfl
def GS(k:Nd):k.isNil=true↔k=.nil:=by cases k<;>simp[Nd.isNil]
def Ok(w:World)(t:yB)(f2:Value)(s0:Bool)(s1:yB)(s2:Value)(dep:Nat)(R:Option Nd)(v:t.size<=4096)(p:jT t.data.toList)(D:dep+(bm t.data.toList).length<=80)(r:fT t.data.toList=false)
 (q:∀W,yW w W->yC 162 #[gV #[bV s0,sV s1,s2],i6 ((dep+(bm t.data.toList).length:Nat):Int),bV true] W (sP W R)):
 yC 157 #[gV #[bV false,sV t,f2],gV #[bV s0,sV s1,s2],i6 (dep:Int)] w (iL w (se (bm t.data.toList) R)):=by
 have B:yH (∀W:World,yC 161 #[sV t] W fun e w'=>e=rV (tV #[sV (ae (bm t.data.toList)),bV false,i6 0])/\yW W w'):=fun W=>by have:=vz t v p W;rw[r] at this;exact this
 have s:(ae (bm t.data.toList)).toList.isEmpty=decide (bm t.data.toList=[]):=ke _;have z:yH (∀W,yW w W->yC 162 #[gV #[bV s0,sV s1,s2],i6 ((dep:Int)+((ae (bm t.data.toList)).size:Int)),bV true] W (sP W R)):=fun W C=>by
  have:=q W C;rw[aN];rw[show(((dep+(bm t.data.toList).length:Nat)):Int)=(dep:Int)+((bm t.data.toList).length:Int) by omega] at this;exact this
 have G:(ae (bm t.data.toList)).size<=80:=by rw[aN];omega
 have E:¬(80:Int)<(dep:Int)+((ae (bm t.data.toList)).size:Int):=by rw[aN];omega
 have F:dep<=80:=by omega
 clear v p D r q;generalize hPP:bm t.data.toList=PP at*;have A:yH (∀(W:World) (k:Nd) (u:Option Addr),bU (W.alloc (.cells (fG 2 ⟨#[]⟩ (ae PP) ⟨#[]⟩ (pV u) (fun _=>cN)) 133)) W.heap.size (.ext [] PP k) (pV u) (fun _=>cN)):=fun W k u=>rN W _ _ _ _ _ rfl rfl
 generalize hSP:ae PP=P at*;clear hPP;go_enter func157,ntmps157
 go_wp2_with fail
 refine(B.o _).mono ?_;rintro e w1 ⟨rfl,n⟩;obtain⟨k0,k1,k2,o,H⟩:=rn n;have f:=aa o;clear n o;go_wp2_with fail
 refine(z.o _ f.o).mono ?_;cases R with
 |none=>
  rintro e w2 ⟨rfl,d⟩;have a:=aa (f.o.trans (d.mono f.o.size));clear d;go_wp2
  go_ret
  exact⟨rfl,a.o⟩
 |some k=>
  rintro e w2 ⟨u,rfl,c,d⟩;have a:=aa (f.o.trans (d.mono f.o.size));by_cases j:k=.nil
  ·have m:Value.pointer u=pV none:=by rw[j] at c;exact c
   cases m
   have i:yH (se PP (some k)=none):=by show _=_;rw[Be,Uj (.inl ((GS k).2 j))]
   clear d c;go_wp2
   go_ret
   rw[i.o];exact⟨rfl,a.o⟩
  ·obtain⟨b,I,J,m,_,_⟩:=c.ai (by cases k<;>first|exact absurd rfl j|trivial);cases m
   by_cases g:PP=[]
   ·have i:yH (se PP (some k)=none):=by show _=_;rw[Be,Uj (.inr g)]
    rw[Uw g] at s;clear d c g;go_wp2
    go_ret
    rw[i.o];exact⟨rfl,a.o⟩
   ·have i:yH (se PP (some k)=some (.ext [] PP k)):=by show _=_;rw[Be,Ui (by rw[GS];exact fun h=>h.elim j g)]
    have y:yH (At w2 k (fun x=>w.heap.size<=x/\x<w2.heap.size) (pV (qA b))):=c.cut.mono fun x l=>⟨Ut f.o.size l.1,l.2⟩
    rw[Uv g] at s;clear d c g;go_wp2
    go_ret
    rw[i.o];exact⟨_,rfl,⟨_,_,fun x=>w.heap.size<=x/\x<w2.heap.size,rfl,a.o.size,A.o w2 k _,fun x l=>⟨l.1,by omega⟩,y.o.below ((Un _ _).alloc (Ug _) _)⟩,a.o.alloc a.o.size _⟩
def On(l)(h:l≠[]):2*(l.length - 1)<=(bm l).length/\(bm l).length<=2*l.length:=by
 unfold bm;rw[Uq,py,Uu];have:l.length≠0:=fun e=>h (UH.1 e)
 split<;>simp<;>omega
def Om(d:Nat)(p:Cd d)(r:d<=6):JV d:=by
 intro w S f0 f1 f2 s0 s1 s2 x y dep o l s;obtain⟨c,a,rfl,rfl⟩:=uu l;rcases lp o with⟨t,rfl,rfl,rfl,B⟩|⟨e,t,ks,q,_,rfl,rfl,rfl,_⟩
 ·have u:t.data.toList.length=t.size:=by simp
  have m:jy (a6 d) (ak t.data.toList) y dep=if nx t.data.toList=false\/80<dep+(bm t.data.toList).length then none else if fT t.data.toList=true then(match y with| .lit (.string v)=>if v=[]\/160<v.length then none else some (.leaf [] (bm t.data.toList) v) | _=>none) else se (bm t.data.toList) (jC (a6 d) y (dep+(bm t.data.toList).length) true):=rfl;rw[m];by_cases b:jT t.data.toList
  ·have j:=(uC _).2 b;let⟨z,A⟩:=On _ b.1;by_cases i:80<dep+(bm t.data.toList).length
   ·rw[Uj (.inr i)];by_cases h4:4096<t.size
    ·exact EP w t f2 c a s2 dep (by unfold maxLen;omega) (.inl h4)
    ·exact Ol w t f2 c a s2 dep (by omega) (by omega) b i (by omega)
   ·have g:t.size<=4096:=by omega
    rw[Ui (by rw[j];exact fun h=>h.elim (fun h=>by cases h) i)];cases hlf:fT t.data.toList with
    |true=>
     rw[Uj rfl];rcases lp l with⟨v,h1,h2,rfl,C⟩|⟨e,v,ks,q,_,h1,h2,rfl,_⟩
     ·cases h1;cases h2
      have k:a.data.toList.length=a.size:=by simp
      show Calls _ _ _ _ (iL w (if a.data.toList=[]\/160<a.data.toList.length then none else some (.leaf [] (bm t.data.toList) a.data.toList)));by_cases f:a.size=0\/160<a.size
      ·rw[Uj (by rw[k];exact f.imp (fun h=>UH.1 (by omega)) id)];exact EO w t f2 false a s2 dep g b (by omega) hlf (.inr f)
      ·have h0:a.size≠0:=fun h=>f (.inl h)
       have h1:a.size<=160:=by have:¬160<a.size:=fun h=>f (.inr h);omega
       rw[Ui (by rw[k];exact fun h=>h.elim (fun h=>h0 (by rw[<-k,h];rfl)) (fun h=>by omega))];exact Oj w t f2 a s2 dep g b (by omega) hlf h0 h1
     ·cases h1;cases h2
      exact EO w t f2 true a s2 dep g b (by omega) hlf (.inl rfl)
    |false=>
     rw[Ui (by decide)];exact Ok w t f2 c a s2 dep _ g b (by omega) hlf fun W n=>p W S _ _ _ y _ true (l.below n) (by omega)
  ·have j:nx t.data.toList=false:=by
    cases h:nx t.data.toList with
    |false=>rfl
    |true=>exact absurd ((uC _).1 h) b
   rw[Uj (.inl j)];exact EP w t f2 c a s2 dep (by unfold maxLen;omega) (.inr b)
 ·exact Oh w t f2 c a s2 dep
def PF(k:Int)(h p v a b)(d:Nat)(x)(c:d<16):(fG k h p v a b).setIfInBounds (5+d) x=fG k h p v a (fun j=>if j=d then x else b j):=by
 apply Vw;intro j;rw[Vi];by_cases e:5+d=j
 ·subst e;rw[Uj rfl,Uj (by rw[rK];omega),tY _ _ _ _ _ _ d c,Uj rfl]
 ·rw[Ui e];by_cases f:j<5
  ·match j,f with
   | 0,_=>rfl
   | 1,_=>rfl
   | 2,_=>rfl
   | 3,_=>rfl
   | 4,_=>rfl
  ·by_cases g:j<21
   ·obtain⟨i,rfl⟩:∃i,j=5+i:=⟨j - 5,by omega⟩
    rw[tY _ _ _ _ _ _ i (by omega),tY _ _ _ _ _ _ i (by omega),Ui (by omega)]
   ·rw[UF (by rw[rK];omega),UF (by rw[rK];omega)]
def qp(f:Nat->Option Nd)(i:Nat):Nat->Nd:=fun j=>if j<i then(f j).getD .nil else .nil
def Qw(f:Nat->Option Nd)(i:Nat)(k)(h:f i=some k):qp f (i+1)=aJ (qp f i) i k:=by
 funext j
 unfold qp aJ;by_cases e:j=i
 ·subst e;rw[Uj (by omega),Uj rfl,h];rfl
 ·rw[Ui e];by_cases a:j<i
  ·simp only[a,U5];rw[Uj (by omega)]
  ·simp only[a,UT];rw[Ui (by omega)]
def GA(a:Tree->Nat->Bool->Option Nd)(ks:List Tree)(dep i:Nat)(h:gW a ks dep i=none):∀n,i<n->kD a ks dep n=false
 | 0,hi=>by omega
 |n+1,hi=>by
  show(kD a ks dep n && (gW a ks dep n).isSome)=false
  by_cases e:i=n
  ·subst e;rw[h];simp
  ·rw[GA a ks dep i h n (by omega)];rfl
def Ar(a:Tree->Nat->Bool->Option Nd)(ks:List Tree)(dep:Nat)(v):∀n,iH a ks dep v n<=n+1
 | 0=>by simp only[iH];split<;>omega
 |n+1=>by
  have:=Ar a ks dep v n
  simp only[iH]
  split<;>omega
def jZ(w:World)(g:Nat)(v:yB)(U:Nat->Option Addr):Prop:=w.heap[g]? =some (.cells (fG 3 ⟨#[]⟩ ⟨#[]⟩ v cN (fun j=>pV (U j))) 133 (0,0))
def jZ.lt{w g v U}(h:jZ w g v U):g<w.heap.size:=(Um.1 h).1
def jZ.cell{w g v U}(h:jZ w g v U)(i:Nat)(hi:i<16):w.cell? ⟨g,5+i,none⟩=some (pV (U i)):=by rw[Ur w g (5+i) _ _ _ h,tY _ _ _ _ _ _ i hi]
def jZ.free{w g v U}(h:jZ w g v U)(o:Nat):w.frozen? ⟨g,o,none⟩=false:=by simp[World.frozen?,show w.heap[g]? =_ from h]
def jZ.set{w g v U}(h:jZ w g v U)(i:Nat)(x)(hi:i<16):jZ (w.setCell ⟨g,5+i,none⟩ (pV x)) g v (gx U i x):=by
 unfold jZ;rw[Vo w g (5+i) _ _ _ h,PF _ _ _ _ _ _ i _ hi];congr 3;funext j
 unfold gx;split<;>rfl
def Ke(d:Nat):Prop:=∀(w:World) (S:Nat->Prop) (a:Option Addr) (c:Nat) (ks:List Tree) (b:List Value) (dep:Nat),ik w S (lV a 17 c) ks.length b->ks.length=17->(∀i,i<ks.length->bg d w S ((b.drop (3*i)).take 3) (ks.getD i (ak [])))->dep+d+1<=4096->
 yC 158 #[lV a 17 c,iV .i64 (dep:Int)] w (iL w (iI (a6 d) ks dep))
def Ju(w:World)(c:Nat)(dep:Nat)(g o:Nat)(l0:Bool)(l1 b)(e d:Nat)(c0:yc w g (o+48) (bV l0))(c1:yc w g (o+48+1) (sV l1))(c2:yc w g (o+48+2) (lV b e d))
 (a:l0=true\/160<l1.size):
 yC 158 #[lV (some ⟨g,o,none⟩) 17 c,i6 (dep:Int)] w (iL w none):=by
 cases l0 with
 |true=>
  go_enter func158,ntmps158
  go_wp2
  go_ret
  exact⟨rfl,(Un _ _).alloc (Ug _) _⟩
 |false=>
  have h160:(160:Int)<(l1.size:Int):=by have:=a.elim (fun h=>by cases h) id;omega
  clear a;go_enter func158,ntmps158
  go_wp2
  go_ret
  exact⟨rfl,(Un _ _).alloc (Ug _) _⟩
def Tl(d:Nat)(B6:Cd d):Ke d:=by
 intro w S a c ks xs dep hr hn hk A5;obtain⟨g,o,l0,l1,l2,ha,c0,c1,c2,O⟩:=tI (d:=d) (n:=17) hr hn.symm hk 16 (by omega);subst ha;obtain⟨l0,l1,rfl,rfl⟩:=uu O;obtain⟨la,ln,lc,rfl⟩:=rU O;have B0:yH (∀i,i<17->∃v0 v1 C E D,yc w g (o+i*3) (bV v0)/\yc w g (o+i*3+1) (sV v1)/\yc w g (o+i*3+2) (lV C E D)/\bg d w S [bV v0,sV v1,lV C E D] (ks.getD i (ak []))):=fun i hi=>by
  obtain⟨g',o',v0,v1,v2,B2,e0,e1,e2,A⟩:=tI (d:=d) (n:=17) hr hn.symm hk i hi;cases B2
  obtain⟨b0,t1,rfl,rfl⟩:=uu A;obtain⟨C,E,D,rfl⟩:=rU A;exact⟨b0,t1,C,E,D,e0,e1,e2,A⟩
 have A0:g<w.heap.size:=UE w _ c0;clear hr hk;rcases lp O with⟨t,h1,h2,M,_⟩|⟨e,t,C1,C2,_,h1,h2,M,_⟩
 ·cases h1;cases h2
  have s:iI (a6 d) ks dep=if 160<l1.data.toList.length then none else if kD (a6 d) ks dep 16=true/\2<=iH (a6 d) ks dep l1.data.toList 16 then some (.branch [] l1.data.toList (fun i=>(gW (a6 d) ks dep i).getD .nil)) else none:=by
   unfold iI;rw[M];rfl
  have A2:l1.data.toList.length=l1.size:=by simp
  by_cases h160:160<l1.size
  ·rw[s,Uj (by rw[A2];exact h160)];exact Ju w c dep g o false l1 la ln lc c0 c1 c2 (.inr h160)
  ·rw[Ui (by rw[A2];exact h160)] at s;obtain⟨R,Z⟩:=yX (iI (a6 d) ks dep)
   rw[<-Z];rw[<-Z] at s;have HB:=aa s;have B7:¬(160:Int)<(l1.size:Int):=by omega
   clear Z s M O A2 h160;obtain⟨F,L⟩:=yX (iH (a6 d) ks dep l1.data.toList 0)
   have A8:=aa L;have A9:=aa A5;have B8:(dep:Int)<5000:=by omega
   have hC:(l1.toList.isEmpty=true/\F=0)\/(l1.toList.isEmpty=false/\F=1):=by
    by_cases hz:l1.size=0
    ·refine .inl ⟨by rw[g7];exact hz,?_⟩;rw[L];simp only[iH];rw[Uj (UH.1 (by rw[Array.length_toList];exact hz))]
    ·refine .inr ⟨by rw[iv];omega,?_⟩;rw[L];simp only[iH];rw[Ui (fun h=>hz (by have:=congrArg List.length h;rw[Array.length_toList] at this;exact this))]
   clear L A5;rcases hC with⟨B3,rfl⟩|⟨B3,rfl⟩;all_goals
    go_enter func158,ntmps158
    go_wp2
    go_loopg [7,8] 16 (fun gk s7 s8 wr=>∃(i:Nat) (U:Nat->Option Addr) (G:Nat->Nat->Prop),gk=16 - i/\i<=16/\s7=i6 ((iH (a6 d) ks dep l1.data.toList i:Nat):Int)/\s8=i6 (i:Int)/\yH (kD (a6 d) ks dep i=true)/\
     yH (jZ wr (w.heap.size+1) l1 U)/\yH (Kids wr (qp (gW (a6 d) ks dep) i) (fun x=>w.heap.size+2<=x) U G)/\yH (yW w wr))
    case atStart=>
     refine⟨0,fun _=>none,fun _ _=>False,rfl,by omega,by rw[<-A8.o];rfl,rfl,rfl,?_,?_,?_⟩
     ·show jZ _ _ _ _;unfold jZ;rw[show w.heap.size+1=(w.alloc (.cells #[bV false,sV l1,lV la ln lc] 120)).heap.size from by simp,UG];rfl
     ·exact Kids.none _ _
     ·exact((Un _ _).alloc (Ug _) _).alloc (by simp) _
    case round=>
     obtain⟨i,U,G,hg,hi,rfl,rfl,I,r,k,f⟩:=hrel;have HG:=aa hg;clear hg;by_cases h16:i<16
     ·obtain⟨v0,v1,C,E,D,e0,e1,e2,A⟩:=B0.o i (by omega);have d0:=(f.o.cell (p:=⟨g,o+i*3,none⟩) A0).trans e0;have d1:=(f.o.cell (p:=⟨g,o+i*3+1,none⟩) A0).trans e1;have d2:=(f.o.cell (p:=⟨g,o+i*3+2,none⟩) A0).trans e2;have X:yH (∀W,yW w W->yC 162 #[gV #[bV v0,sV v1,lV C E D],i6 ((dep:Int)+1),bV false] W (sP W (gW (a6 d) ks dep i))):=fun W hW=>by
       have:=B6 W S _ _ _ _ (dep+1) false (A.below hW) (by have:=A9.o;omega);rw[show((dep+1:Nat):Int)=(dep:Int)+1 from by omega] at this;exact this
      have hI:(i:Int)<16:=by omega
      have H:=Ar (a6 d) ks dep l1.data.toList i;obtain⟨b,v⟩:=yX (iH (a6 d) ks dep l1.data.toList i)
      have A3:=aa v;rw[<-v] at H⊢;have A4:(b:Int)<=18:=by omega
      have B4:=r.o.lt;clear v A e0 e1 e2;obtain⟨Q,A1⟩:=yX (gW (a6 d) ks dep i)
      have z:=aa A1;rw[<-A1] at X;clear A1;cases Q with
      |none=>
       go_wp2_with fail
       refine(X.o _ f.o).mono ?_;rintro e w1 ⟨rfl,m⟩;have T:=aa (f.o.trans (m.mono f.o.size));clear m;go_wp2
       go_ret
       rw[HB.o,Ui (fun h=>by rw[GA _ _ _ i z.o.symm 16 h16] at h;cases h.1)];exact⟨rfl,T.o⟩
      |some n=>
       go_wp2_with fail
       refine(X.o _ f.o).mono ?_;rintro e w1 ⟨u,rfl,K,m⟩;have J:yH (jZ w1 (w.heap.size+1) l1 U):=(m.block _ B4).trans r.o;have m0:=J.o.cell i h16;have m1:=J.o.free (5+i);have B9:=J.o.lt;have B1:yH (Kids w1 (qp (gW (a6 d) ks dep) i) (fun x=>w.heap.size+2<=x) U (fun j x=>G j x/\x<wr.heap.size)):=k.o.cut.kept fun x _ B=>m.block x B
       have A6:=aa K;have T:=aa (f.o.trans (m.mono f.o.size));have l:yH (jZ (w1.setCell ⟨w.heap.size+1,5+i,none⟩ (pV u)) (w.heap.size+1) l1 (gx U i u)/\Kids (w1.setCell ⟨w.heap.size+1,5+i,none⟩ (pV u)) (qp (gW (a6 d) ks dep) (i+1)) (fun x=>w.heap.size+2<=x) (gx U i u) (fQ (fun j x=>G j x/\x<wr.heap.size) i (fun x=>wr.heap.size<=x))/\yW w (w1.setCell ⟨w.heap.size+1,5+i,none⟩ (pV u))/\kD (a6 d) ks dep (i+1)=true):=by
        refine⟨J.o.set i u h16,?_,T.o.setCell (by simp) _,?_⟩
        ·rw[Qw _ i n z.o.symm];refine B1.o.put (fun x B _=>Uy _ _ _ _ (by show x≠w.heap.size+1;have:w.heap.size+2<=x:=B;omega)) i n u _ (A6.o.kept fun x B _=>Uy _ _ _ _ (by show x≠w.heap.size+1;omega)) fun y hy=>⟨by omega,fun j _ _ h=>by omega⟩
        ·show(kD (a6 d) ks dep i && (gW (a6 d) ks dep i).isSome)=true;rw[I.o,<-z.o];rfl
       have P:=K.none;cases u with
       |none=>
        have V:yH (b=iH (a6 d) ks dep l1.data.toList (i+1)):=by
         show _=_;rw[P.1 rfl] at z;simp only[iH];rw[<-z.o,<-A3.o];rfl
        clear P K m k r I d0 d1 d2;go_wp2
        go_roundg (16 - (i+1))
        case measure=>have:=HG.o;omega
        case rel=>exact⟨i+1,_,_,rfl,by omega,by rw[<-V.o],by go_num,l.o.2.2.2,l.o.1,l.o.2.1,l.o.2.2.1⟩
       |some ub=>
        have V:yH (b+1=iH (a6 d) ks dep l1.data.toList (i+1)):=by
         show _=_;simp only[iH];rw[<-z.o,<-A3.o];have B5:n≠.nil:=fun h=>by cases P.2 h
         have:n.isNil=false:=by cases n<;>first|rfl|exact absurd rfl B5
         rw[Option.getD_some,this];rfl
        clear P K m k r I d0 d1 d2;go_wp2
        go_roundg (16 - (i+1))
        case measure=>have:=HG.o;omega
        case rel=>exact⟨i+1,_,_,rfl,by omega,by rw[<-V.o];go_num,by go_num,l.o.2.2.2,l.o.1,l.o.2.1,l.o.2.2.1⟩
     ·obtain rfl:i=16:=by omega
      have hI:¬((16:Nat):Int)<16:=by omega
      have A7:yH (At wr (.branch [] l1.data.toList (fun i=>(gW (a6 d) ks dep i).getD .nil)) (fun x=>w.heap.size<=x) (pV (some ⟨w.heap.size+1,0,none⟩))):=by
       refine⟨w.heap.size+1,fun j=>pV (U j),G,rfl,by omega,?_,fun j x N B=>?_,k.o.jf,fun j N=>?_⟩
       ·have:=r.o;unfold jZ at this;show _=_;rw[this];show _=some (Obj.cells (fG 3 (ae []) (ae []) (ae l1.data.toList) cN fun j=>pV (U j)) 133 (0,0));rw[gA];rfl
       ·have:=k.o.sub j x N B;exact⟨by omega,by omega⟩
       ·have:=k.o.at_ j N;unfold qp at this;rw[Uj N] at this;exact this
      obtain⟨b,v⟩:=yX (iH (a6 d) ks dep l1.data.toList 16)
      have q:=HB.o;rw[<-v] at q⊢;have H:=Ar (a6 d) ks dep l1.data.toList 16;rw[<-v] at H;clear v;by_cases h2:2<=b
      ·rw[Uj ⟨I.o,h2⟩] at q;have Y:=aa q;have A4:¬(b:Int)<2:=by omega
       clear q H h2 k r;go_wp2
       go_ret
       rw[Y.o];exact⟨_,rfl,A7.o,f.o⟩
      ·rw[Ui (fun h=>h2 h.2)] at q;have Y:=aa q;have A4:(b:Int)<2:=by omega
       clear q H h2 k r;go_wp2
       go_ret
       rw[Y.o];exact⟨rfl,f.o⟩
 ·cases h1;cases h2
  have s:iI (a6 d) ks dep=none:=by unfold iI;rw[M];rfl
  rw[s];exact Ju w c dep g o true l1 la ln lc c0 c1 c2 (.inl rfl)
end Go.Proofs.YthpclfdpbmehgaaGreatDoor
