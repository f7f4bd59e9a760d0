import Derived.Test.YtiimkkahmpmhdaaGreatDoorI
import Derived.Test.YtiimkkahmpmhdaaGreatDoorJ
open Go.Proofs.Tryz
open Go.Proofs.Tryz renaming prog→yP
open Go.Value renaming string→sV,pointer→pV,int→iV,slice→lV,bool→bV,tuple→tV,agg→gV
open Go.Ending renaming returned→rV
namespace Go.Proofs.YtiimkkahmpmhdaaGreatDoor
open Go.RowKit
set_option maxRecDepth 100000
set_option maxHeartbeats 0
set_option linter.all false
theorem BC:∀(a b),aF a b=a.length->aF a b=b.length->a=b
 | [],[],_,_=>rfl
 | [],y::b,_,h=>by simp[aF] at h
 |x::a,[],h,_=>by simp[aF] at h
 |x::a,y::b,h1,h2=>by
  simp only[aF] at h1 h2
  by_cases e:x=y
  ·rw[QX e] at h1 h2
   rw[e,BC a b (by simp at h1;omega) (by simp at h2;omega)]
  ·rw[QW e] at h1;simp at h1
theorem Bn(w)(t:Nd)(path v:yL)(S u)(c:t.kind=1\/t.kind=2)(f:ak path)(d:path.length<=80)(j:v.length<=160)(b:aI t)(a:At w t S (pV u))(T:az w)
 (h:ak t.path) (i:t.path.length<=80) (g:t.path≠path):
 Calls yP 137 #[pV u,sV (str path),sV (str v),iV .i64 ((aF t.path path:Nat):Int)] w (Made w S (eM t path v (aF t.path path))):=by
 obtain⟨h1,h2⟩:=g9 t.path path;refine split_x w t path v _ S u c f d j b a T ?_ h i;by_cases e:aF t.path path=t.path.length/\aF t.path path=path.length
 ·exact absurd (BC _ _ e.1 e.2) g
 ·omega
theorem Hw(h q x):nA (.leaf h q x):=by
 intro w S u p v hA hF _ hn hl hv T;have A2:Hid (q≠p->∀W,yW w W->Calls yP 137 #[pV u,sV (str p),sV (str v),iV .i64 ((aF q p:Nat):Int)] W (Made w S (eM (.leaf h q x) p v (aF q p)))):=fun A6 W hW=>
  (Bn W (.leaf h q x) p v S u (.inl rfl) hn hl hv hF (hA.below hW) (T.below hW) hF.2.1 hF.2.2.1 A6).mono fun e w' hm=>hm.after hW
 have HL:Hid (∀W,yW w W->Calls yP 133 #[sV (str p),sV (str v)] W (Made w S (da p v))):=fun W hW=>
  (pe W p v ⟨.inl rfl,hn,hl,hv⟩ (nt _ _ _ hl hv) (T.below hW)).mono fun e w' h=>(h.mono fun x hx=>hx.elim).after hW
 have A3:=hF.2.2.1;have HS:Hid (∀w:World,Calls yP 135 #[sV (str q),sV (str p)] w fun e w'=>e=rV (iV .i64 ((aF q p:Nat):Int))/\∃n,w'=w.drewN n):=fun w=>by
  have:=rW (str q) (str p) (by rw[aH];unfold maxLen;omega) (by rw[aH];unfold maxLen;omega) w;rw[dV,dV] at this;exact this
 have HR:Hid (bF (.leaf h q x) p v=if q=p then da p v else eM (.leaf h q x) p v (aF q p)):=rfl;obtain⟨b,hu,hs,B⟩:=hA;cases hu
 have c0:w.cell? ⟨b,0,none⟩=some (iV .i64 1):=B.c0;have c2:w.cell? ⟨b,2,none⟩=some (sV (str q)):=B.c2;have A5:=oT q p;have A8:(str p).size<=80:=by rw[aH];exact hl
 have A9:(str q).size<=80:=by rw[aH];exact A3
 have A7:=B.lt;obtain⟨m,hm⟩:=yX (aF q p)
 rw[<-hm] at HS A2 HR;by_cases e:q=p
 ·have A0:Hid (bF (.leaf h q x) p v=da p v):=by show _=_;rw[HR.out,QX e]
  rw[A0.out];rw[Ra e] at A5;clear hn T hl hv B hF A2 HR A3 hm e A0;generalize da p v=R at*;generalize str p=P at*;generalize str q=Q at*;generalize str v=V at*;go_enter func110,ntmps110
  go_wp2_with fail
  refine(HS.out _).mono ?_;rintro e1 w1 ⟨rfl,n1,rfl⟩;clear HS;go_wp2_with fail
  refine(HL.out _ (Below.drewN (Q1 _ _) _)).mono ?_;rintro e1 w1 ⟨u1,rfl,A1⟩;have HF:Hid _:=A1;clear A1 HL;go_wp2_with fail
  go_ret
  exact⟨u1,rfl,HF.out⟩
 ·have A0:Hid (bF (.leaf h q x) p v=eM (.leaf h q x) p v m):=by show _=_;rw[HR.out,QW e]
  rw[A0.out];rw[Q9 e] at A5;have A4:=aa (A2.out e);clear hn T hl hv B hF A2 HR A3 hm e A0 HL;generalize eM (.leaf h q x) p v m=R at*;generalize str p=P at*;generalize str q=Q at*;generalize str v=V at*;go_enter func110,ntmps110
  go_wp2_with fail
  refine(HS.out _).mono ?_;rintro e1 w1 ⟨rfl,n1,rfl⟩;clear HS;go_wp2_with fail
  refine(A4.out _ (Below.drewN (Q1 _ _) _)).mono ?_;rintro e1 w1 ⟨u1,rfl,A1⟩;have HF:Hid _:=A1;clear A1 A4;go_wp2_with fail
  go_ret
  exact⟨u1,rfl,HF.out⟩
theorem Hx(h q k w S u)(p v:yL)(hA:At w (.ext h q k) S (pV u))(hF:aI (.ext h q k))(hn:ak p)(hl:p.length<=80)(hv:v.length<=160)(T:az w)(A0:aF q p≠q.length):
 Calls yP 110 #[pV u,sV (str p),sV (str v)] w (Made w S (eM (.ext h q k) p v (aF q p))):=by
 have A3:q≠p:=fun e=>by subst e;apply A0;clear A0 hF hA;induction q with
  |nil=>rfl
  |cons a l ih=>simp only[aF,RJ,Ro];rw[ih (fun x hx=>hn x (QZ _ hx)) (by simp at hl;omega)]
 have A1:Hid (∀W,yW w W->Calls yP 137 #[pV u,sV (str p),sV (str v),iV .i64 ((aF q p:Nat):Int)] W (Made w S (eM (.ext h q k) p v (aF q p)))):=fun W hW=>
  (Bn W (.ext h q k) p v S u (.inr rfl) hn hl hv hF (hA.below hW) (T.below hW) hF.2.1 hF.2.2.1 A3).mono fun e w' hm=>hm.after hW
 have A4:=hF.2.2.1;have HS:Hid (∀w:World,Calls yP 135 #[sV (str q),sV (str p)] w fun e w'=>e=rV (iV .i64 ((aF q p:Nat):Int))/\∃n,w'=w.drewN n):=fun w=>by
  have:=rW (str q) (str p) (by rw[aH];unfold maxLen;omega) (by rw[aH];unfold maxLen;omega) w;rw[dV,dV] at this;exact this
 obtain⟨b,kp,S1,hu,hs,B,hr⟩:=hA;cases hu
 have c0:w.cell? ⟨b,0,none⟩=some (iV .i64 2):=B.c0;have c2:w.cell? ⟨b,2,none⟩=some (sV (str q)):=B.c2;have A6:(((aF q p:Nat):Int) == ((str q).size:Int))=false:=RW.2 (by rw[aH];omega);have A5:=B.lt;clear hn T hl hv B hF A4 hr A3 A0;generalize eM (.ext h q k) p v (aF q p)=R at*;generalize aF q p=m at*;generalize str p=P at*;generalize str q=Q at*;generalize str v=V at*;go_enter func110,ntmps110
 go_wp2_with fail
 refine(HS.out _).mono ?_;rintro e1 w1 ⟨rfl,n1,rfl⟩;clear HS;go_wp2_with fail
 refine(A1.out _ (Below.drewN (Q1 _ _) _)).mono ?_;rintro e1 w1 ⟨u1,rfl,A2⟩;have HF:Hid _:=A2;clear A2 A1;go_wp2_with fail
 go_ret
 exact⟨u1,rfl,HF.out⟩
theorem Hy(h q k)(ih:nA k)(w S u)(p v:yL)(hA:At w (.ext h q k) S (pV u))(hF:aI (.ext h q k))(hn:ak p)(hl:p.length<=80)(hv:v.length<=160)(T:az w)(A5:aF q p=q.length)(ho:dw k (p.drop q.length)):
 Calls yP 110 #[pV u,sV (str p),sV (str v)] w (Made w S (fq q (bF k (p.drop q.length) v))):=by
 obtain⟨b,kp,S1,hu,hs,B,A8,hK⟩:=hA;cases hu
 obtain⟨uk,rfl⟩:=hK.ptr;have A1:=hF.2.2.1;have HS:Hid (∀w:World,Calls yP 135 #[sV (str q),sV (str p)] w fun e w'=>e=rV (iV .i64 ((str q).size:Int))/\∃n,w'=w.drewN n):=fun w=>by
  have:=rW (str q) (str p) (by rw[aH];unfold maxLen;omega) (by rw[aH];unfold maxLen;omega) w;rw[dV,dV,A5] at this;rw[aH];exact this
 have c0:w.cell? ⟨b,0,none⟩=some (iV .i64 2):=B.c0;have c2:w.cell? ⟨b,2,none⟩=some (sV (str q)):=B.c2;have c4:w.cell? ⟨b,4,none⟩=some (pV uk):=B.c4;have B1:=B.lt;have HW:Hid (∀W,yW w W->Calls yP 110 #[pV uk,sV ((str p).extract (str q).size (str p).size),sV (str v)] W (Made w S (bF k (p.drop q.length) v))):=fun W hW=>by
  rw[aH q,p9];exact(ih W S1 uk _ v (hK.below hW) hF.2.2.2.2 ho (cS hn _) (by rw[Q8];omega) hv (T.below hW)).mono fun e w' hm=>(hm.mono fun x hx=>(A8 x hx).1).after hW
 have A3:=s6 hF.2.2.2.2 ho (cS hn q.length) (by rw[Q8];omega) hv;have B0:=wM (v:=v) hF.2.2.2.1 ho;have HE:Hid (∀W u1,yW w W->At W (bF k (p.drop q.length) v) (fun x=>S x\/w.heap.size<=x) (pV u1)->Calls yP 136 #[sV (str q),pV u1] W (Made w S (fq q (bF k (p.drop q.length) v)))):=fun W u1 hW h1=>
  (yo W q _ _ u1 h1 ⟨.inl rfl,hF.2.1,A1,A3.jS⟩ (tm _ _ _ A1 A3) (T.below hW)).mono fun e w' hm=>by
   obtain⟨u2,e1,e2,e3⟩:=hm;exact⟨u2,e1,e2.mono fun x hx=>hx.elim id (fun h=>.inr (Q7 hW.size h)),hW.trans (e3.mono hW.size)⟩
 have A4:=(g9 q p).2;rw[A5] at A4;have B2:(str q).size<=(str p).size:=by rw[aH,aH];exact A4
 have B3:((str q).size:Int)<=((str p).size:Int):=by omega
 have B4:(str q).size<=80:=by rw[aH];exact A1
 clear hn T hl hv B hF A1 A5 ho hK A8 A4 A3 B0;generalize fq q (bF k (p.drop q.length) v)=R at*;generalize bF k (p.drop q.length) v=RK at*;generalize str p=P at*;generalize str q=Q at*;generalize str v=V at*;go_enter func110,ntmps110
 go_wp2_with fail
 refine(HS.out _).mono ?_;rintro e1 w1 ⟨rfl,n1,rfl⟩;clear HS;go_upto_region 7 with fail
 go_cut [8] (fun r wx=>∃u1,r=pV u1/\At wx RK (fun x=>S x\/w.heap.size<=x) (pV u1)/\yW w wx)
 case first=>
  go_region_with (go_at_call 110;refine(HW.out _ (by first|exact Below.drewN (Q1 _ _) _ |exact(Below.drewN (Q1 _ _) _).drew)).mono ?_;rintro e1 w1 ⟨u1,rfl,A0⟩;have A9:Hid _:=A0;clear A0)
  all_goals
   go_wp2_with fail
   go_meet
   exact⟨u1,rfl,A9.out⟩
 case rest=>
  obtain⟨u1,rfl,A0,A2⟩:=hcut;have d2:=(A2.cell (p:=⟨b,2,none⟩) B1).trans c2;have A6:=aa (HE.out wc u1 A2 A0);clear A0 A2 HE HW c0 c2 c4;go_wp2_with fail
  refine A6.out.mono ?_;rintro e1 w1 ⟨u2,rfl,A7⟩;have HF:Hid _:=A7;clear A7 A6;go_wp2_with fail
  go_ret
  exact⟨u2,rfl,HF.out⟩
theorem Hz(h q k)(i:nA k):nA (.ext h q k):=by
 intro w S u p v a b g d c f T;simp only[bF];by_cases e:aF q p=q.length
 ·rw[QX e];exact Hy h q k i w S u p v a b d c f T e (g e)
 ·rw[QW e];exact Hx h q k w S u p v a b d c f T e
theorem Ib:∀t:Nd,nA t:=by
 intro t;induction t with
 |nil=>exact Hv
 |unread h=>intro w S u p v _ _ a;exact a.elim
 |leaf h q x=>exact Hw h q x
 |ext h q k ih=>exact Hz h q k ih
 |branch h x ks ih=>exact Ia h x ks fun w S u p v=>PN h x ks (fun i _=>ih i) w S u p v
def cw:yL:=dS [128]
theorem zA(w)(T:az w):Calls yP 74 #[] w fun e w'=>e=rV (sV (str cw))/\yW w w':=by
 have a:Hid (Calls yP 24 #[sV ⟨#[128]⟩] w fun e w'=>e=rV (sV (str cw))/\yW w w'):=by
  have:=iE ⟨#[128]⟩ (by decide) w T;show Calls yP 24 _ w _;unfold cw;rw[lW];exact this
 clear T;generalize str cw=R at*;go_enter func74,ntmps74
 go_wp2_with fail
 refine a.out.mono ?_;rintro e w1 ⟨rfl,b⟩;have c:=aa b;clear b a;go_wp2_with fail
 go_ret
 exact⟨rfl,c.out⟩
def bM:Nd->yL
 | .nil=>cw
 |t=>if t.hash=[] then dS t.code else t.hash
theorem nN{t:Nd}(h:t.some):bM t=if t.hash=[] then dS t.code else t.hash:=by cases t<;>first|exact h.elim|rfl
theorem BP(w t S u)(hA:At w t S (.pointer u))(hF:aI t)(T:az w):
 Calls yP 81 #[.pointer u] w fun e w'=>e=.returned (.string (str (bM t)))/\Below w.heap.size w w':=by
 by_cases hs:t.some
 ·rw[nN hs];by_cases hh:t.hash=[]
  ·have hr:t.read:=by
    cases t with
    |nil=>exact hs.elim
    |unread x=>have:x.length=32:=hF;rw[show x=[] from hh] at this;cases this
    |leaf _ _ _=>trivial
    |ext _ _ _=>trivial
    |branch _ _ _=>trivial
   rw[QX hh];have hc:=hF.nw hr;have HC:Hid (Calls yP 116 #[.pointer u] w fun e w'=>e=.returned (.string (str t.code))/\Below w.heap.size w w'):=vW w t S _ hA hF.jS hr hc;have HS:Hid (∀W,Below w.heap.size w W->Calls yP 24 #[.string (str t.code)] W fun e w'=>e=.returned (.string (str (dS t.code)))/\Below W.heap.size W w'):=fun W hW=>by
    have:=iE (str t.code) (by rw[aH];unfold maxLen;have:=hc.2;omega) W (T.below hW);rw[lW];exact this
   obtain⟨b,A4,A5,hu,_,B⟩:=hA.ah hs;cases hu
   have c1:w.cell? ⟨b,1,none⟩=some (.string ⟨#[]⟩):=by rw[B.c1,hh];rfl
   clear hA hF T B hs hh hr hc;generalize str t.code=C at*;generalize str (dS t.code)=R at*;go_enter func81,ntmps81
   go_wp2_with fail
   refine HC.out.mono ?_;rintro e w1 ⟨rfl,hb⟩;have A1:Hid (Calls yP 24 #[.string C] w1 fun e w'=>e=.returned (.string R)/\Below w1.heap.size w1 w'):=HS.out w1 hb;have A0:Hid (Below w.heap.size w w1):=hb;clear hb HS HC;go_wp2_with fail
   refine A1.out.mono ?_;rintro e w2 ⟨rfl,A2⟩;have A3:Hid (Below w.heap.size w w2):=A0.out.trans (A2.mono A0.out.size);clear A2 A1;go_wp2_with fail
   go_ret
   exact⟨rfl,A3.out⟩
  ·rw[QW hh];obtain⟨b,A4,A5,hu,_,B⟩:=hA.ah hs;cases hu
   have c1:=B.c1;have he:(str t.hash).toList.isEmpty=false:=by rw[jP];simp[hh]
   clear hA hF T B hs hh;generalize str t.hash=H at*;go_enter func81,ntmps81
   go_wp2_with fail
   go_ret
   exact⟨rfl,Q1 _ _⟩
 ·cases t with
  |nil=>
   cases hA
   have HE:Hid (Calls yP 74 #[] w fun e w'=>e=.returned (.string (str (bM .nil)))/\Below w.heap.size w w'):=zA w T;clear T hF hs;generalize str (bM .nil)=R at*;go_enter func81,ntmps81
   go_wp2_with fail
   refine HE.out.mono ?_;rintro e w1 ⟨rfl,hb⟩;have HB:Hid (Below w.heap.size w w1):=hb;clear hb HE;go_wp2_with fail
   go_ret
   exact⟨rfl,HB.out⟩
  |unread _=>exact absurd trivial hs
  |leaf _ _ _=>exact absurd trivial hs
  |ext _ _ _=>exact absurd trivial hs
  |branch _ _ _=>exact absurd trivial hs
theorem Dx(w h):Calls yP 75 #[sV (str h)] w (Made w (fun _=>False) (.unread h)):=by
 have a:Hid (bL (w.alloc (.cells (eX 0 (str h) ⟨#[]⟩ ⟨#[]⟩ cL (fun _=>cL)) 167)) w.heap.size (.unread h) cL (fun _=>cL)):=qH w _ _ _ _ _ rfl rfl;generalize hH:str h=H at*;go_enter func75,ntmps75
 go_wp2_with fail
 go_ret
 exact⟨_,rfl,⟨_,rfl,.inr (QU _),a.out⟩,(Q1 _ _).alloc (QU _) _⟩
def cl(r:yL):Nd:=if r=cw then .nil else .unread r
theorem AN(w r)(T:az w):Calls yP 30 #[sV (str r)] w (Made w (fun _=>False) (cl r)):=by
 have c:=aa (zA w T);have i:=oT r cw;by_cases e:r=cw
 ·have a:Hid (cl r=.nil):=by show _=_;unfold cl;rw[QX e]
  rw[a.out];rw[Ra e] at i;clear a e T;generalize str cw=E at*;generalize str r=R at*;go_enter func30,ntmps30
  go_wp2_with fail
  refine c.out.mono ?_;rintro e w1 ⟨rfl,b⟩;have j:=aa b;clear b c;go_wp2_with fail
  go_ret
  exact⟨none,rfl,rfl,j.out⟩
 ·have a:Hid (cl r=.unread r):=by show _=_;unfold cl;rw[QW e]
  rw[a.out];rw[Q9 e] at i;have d:Hid (∀W,yW w W->Calls yP 75 #[sV (str r)] W (Made w (fun _=>False) (.unread r))):=fun W l=>(Dx W r).mono fun e w' h=>h.after l
  clear a e T;generalize str cw=E at*;generalize hR:str r=R at*;go_enter func30,ntmps30
  go_wp2_with fail
  refine c.out.mono ?_;rintro e w1 ⟨rfl,b⟩;have f:=aa (d.out w1 b);clear b c d;go_wp2_with fail
  refine f.out.mono ?_;rintro e1 w2 ⟨u1,rfl,g⟩;have k:Hid _:=g;clear g f;go_wp2_with fail
  go_ret
  exact⟨u1,rfl,k.out⟩
def Nd.isNil:Nd->Bool
 | .nil=>true
 | _=>false
def jk(a:Tree->Nat->Bool->Option Nd)(x:Tree)(dep:Nat)(below:Bool):Option Nd:=match x with
 | .lit (.string t)=>if t=[] then some .nil else if t.length≠32\/80<dep then none else some (.unread t)
 |x=>if eg x≠0\/32<=(fy x).size then none else a x dep below
def mj(t:yL):Bool:=decide (t≠[]) && (decide ((hi (t.getD 0 0)).toNat<=3) && (decide ((hi (t.getD 0 0)).toNat % 2≠0) || decide ((lo (t.getD 0 0)).toNat=0)))
theorem sW(t):mj t=true↔jz t:=by
 unfold mj jz;simp only[Sh,Bool.or_eq_true,SD];constructor
 ·rintro ⟨h1,h2,h3⟩;exact⟨h1,h2,fun h=>h3.elim (fun a=>absurd h a) id⟩
 ·rintro ⟨h1,h2,h3⟩;refine⟨h1,h2,?_⟩;by_cases h:(hi (t.getD 0 0)).toNat % 2=0
  ·exact .inr (h3 h)
  ·exact .inl h
def je(b:Tree->Nat->Bool->Option Nd)(first a:Tree)(dep:Nat):Option Nd:=match first with
 | .lit (.string t)=>
  if mj t=false\/80<dep+(bd t).length then none
  else if ft t=true then match a with
   | .lit (.string v)=>if v=[]\/160<v.length then none else some (.leaf [] (bd t) v)
   | _=>none
  else match jk b a (dep+(bd t).length) true with
   |some k=>if k.isNil=true\/bd t=[] then none else some (.ext [] (bd t) k)
   |none=>none
 | _=>none
def gm(a:Tree->Nat->Bool->Option Nd)(ks:List Tree)(dep i:Nat):Option Nd:=jk a (ks.getD i (ay [])) (dep+1) false
def jW(a:Tree->Nat->Bool->Option Nd)(ks:List Tree)(dep:Nat):Nat->Bool
 | 0=>true
 |i+1=>jW a ks dep i && (gm a ks dep i).isSome
def gS(a:Tree->Nat->Bool->Option Nd)(ks:List Tree)(dep:Nat)(v:yL):Nat->Nat
 | 0=>if v=[] then 0 else 1
 |i+1=>gS a ks dep v i+(if((gm a ks dep i).getD .nil).isNil=true then 0 else 1)
def gW(a:Tree->Nat->Bool->Option Nd)(ks:List Tree)(dep:Nat):Option Nd:=match ks.getD 16 (ay []) with
 | .lit (.string v)=>if 160<v.length then none else if jW a ks dep 16=true/\2<=gS a ks dep v 16 then some (.branch [] v (fun i=>(gm a ks dep i).getD .nil)) else none
 | _=>none
def aT:Nat->Tree->Nat->Bool->Option Nd
 |d+1,.slice ks _,dep,below=>if ks.length=2/\below=false then je (aT d) (ks.getD 0 (ay [])) (ks.getD 1 (ay [])) dep else if ks.length=17 then gW (aT d) ks dep else none
 | _,_,_,_=>none
def gZ(w:World)(r:Option Nd)(e:Ending)(w':World):Prop:=match r with
 |none=>e=rV (pV none)/\yW w w'
 |some n=>∃b,e=rV (pV (qA b))/\At w' n (fun x=>w.heap.size<=x) (pV (qA b))/\yW w w'
def rq(w:World)(r:Option Nd)(e:Ending)(w':World):Prop:=match r with
 |none=>e=rV (tV #[pV none,bV false])/\yW w w'
 |some n=>∃u,e=rV (tV #[pV u,bV true])/\At w' n (fun x=>w.heap.size<=x) (pV u)/\yW w w'
def Ac(d:Nat):Prop:=∀(w:World) (S:Nat->Prop) (v0 v1 v2:Value) (x:Tree) (dep:Nat) (bl:Bool),aY d w S [v0,v1,v2] x->dep+d<=4096->
 Calls yP 140 #[gV #[v0,v1,v2],iV .i64 (dep:Int),bV bl] w (gZ w (aT d x dep bl))
def Aj(d:Nat):Prop:=∀(w:World) (S:Nat->Prop) (v0 v1 v2:Value) (x:Tree) (dep:Nat) (bl:Bool),aY d w S [v0,v1,v2] x->dep+d<=4096->
 Calls yP 161 #[gV #[v0,v1,v2],iV .i64 (dep:Int),bV bl] w (rq w (jk (aT d) x dep bl))
theorem aY.more{w S}:∀(d:Nat) (cs:List Value) (x:Tree),aY d w S cs x->aY (d+1) w S cs x:=by
 intro d;induction d with
 |zero=>intro cs x h;exact .inl h
 |succ d ih=>
  intro cs x h;rcases h with h|⟨t,k,ks,a,h1,h2,h3,h4,h5⟩
  ·exact .inl h
  ·exact .inr ⟨t,k,ks,a,h1,h2,h3,h4,fun i hi=>ih _ _ (h5 i hi)⟩
theorem aY.upto {w : World} {S : Nat → Prop} (d e : Nat) (h : d ≤ e) (cs : List Value) (x : Tree) (hx : aY d w S cs x) : aY e w S cs x := by
  induction e with
  | zero => obtain rfl : d = 0 := by omega
            exact hx
  | succ e ih =>
    by_cases h1 : d = e + 1
    · rw [← h1]; exact hx
    · exact aY.more e cs x (ih (by omega))
def oQ(d:Nat)(x:Tree)(dep:Nat)(below:Bool):Option Nd:=if eg x≠0\/32<=(fy x).size then none else aT d x dep below
theorem OO(x:Tree):(fy x).size<=4096:=by
 unfold fy;split
 ·unfold gQ;split
  ·next h=>rw[aH];unfold fg at h;exact of_decide_eq_true h
  ·exact Ri _
 ·exact Ri _
theorem OP(x:Tree):eg x=0\/eg x=1\/eg x=8:=by
 unfold eg;split
 ·split
  ·exact .inl rfl
  ·exact .inr (.inl rfl)
 ·exact .inr (.inr rfl)
theorem Hu(d:Nat)(D:d<=6)(A:Ac d)(w S)(v0:Bool)(v1 k)(m l:Nat)(x:Tree)(dep:Nat)(bl:Bool)(q:aY d w S [bV v0,sV v1,lV k m l] x)(F:dep+d<=4096):
 Calls yP 163 #[gV #[bV v0,sV v1,lV k m l],iV .i64 (dep:Int),bV bl] w (rq w (oQ d x dep bl)):=by
 have i:Hid (∀W,yW w W->Calls yP 129 #[gV #[bV v0,sV v1,lV k m l]] W fun e w'=>e=rV (tV #[sV (fy x),iV .i64 (eg x)])/\yW W w'):=fun W v=>tf W S _ _ _ x ((aY.upto d 6 D _ _ q).below v)
 have o:Hid (∀W,yW w W->Calls yP 140 #[gV #[bV v0,sV v1,lV k m l],iV .i64 (dep:Int),bV bl] W (gZ W (aT d x dep bl))):=fun W v=>A W S _ _ _ x dep bl (q.below v) F
 have H:=OO x;have h3:=OP x;obtain⟨R,u⟩:=yX (oQ d x dep bl)
 rw[<-u];have r:=aa u;have z:yW w (w.alloc (.cells #[bV v0,sV v1,lV k m l] 155)):=(Q1 _ _).alloc (QU _) _;have f:=aa z;clear q A u z;by_cases g:eg x≠0\/32<=(fy x).size
 ·have s:Hid (R=none):=by show _=_;rw[r.out];unfold oQ;rw[QX g]
  clear r o;generalize eg x=E at*;generalize fy x=O at*;by_cases j:E=0
  ·subst j;have B:32<=O.size:=g.elim (fun h=>absurd rfl h) id;have C:(32:Int)<=(O.size:Int):=by omega
   clear g h3;go_enter func163,ntmps163
   go_wp2_with fail
   refine(i.out _ f.out).mono ?_;rintro e w1 ⟨rfl,c⟩;have a:=aa (f.out.trans (c.mono f.out.size));clear c i;go_wp2_with fail
   go_ret2
   rw[s.out];exact⟨rfl,a.out⟩
  ·have G:(E != 0)=true:=by simp[j]
   clear g h3 j;go_enter func163,ntmps163
   go_wp2_with fail
   refine(i.out _ f.out).mono ?_;rintro e w1 ⟨rfl,c⟩;have a:=aa (f.out.trans (c.mono f.out.size));clear c i;go_wp2_with fail
   go_ret2
   rw[s.out];exact⟨rfl,a.out⟩
 ·have s:Hid (R=aT d x dep bl):=by show _=_;rw[r.out];unfold oQ;rw[QW g]
  have j:eg x=0:=RQ fun h=>g (.inl h)
  have B:¬32<=(fy x).size:=fun h=>g (.inr h)
  rw[j] at i;clear r g h3 j;generalize fy x=O at*;have C:¬(32:Int)<=(O.size:Int):=by omega
  rw[<-s.out] at o;go_enter func163,ntmps163
  go_wp2_with fail
  refine(i.out _ f.out).mono ?_;rintro e w1 ⟨rfl,c⟩;have a:=aa (f.out.trans (c.mono f.out.size));have I:w.heap.size<w1.heap.size:=by have:=c.size;simp at this;omega
  obtain⟨k0,k1,k2,_,_,_⟩:=fV c;clear c i;go_wp2_with fail
  refine(o.out _ a.out).mono ?_;cases R with
  |none=>
   rintro e w2 ⟨rfl,p⟩;have t:=aa (a.out.trans (p.mono a.out.size));clear p o;go_wp2_with fail
   go_ret2
   exact⟨rfl,t.out⟩
  |some n=>
   rintro e w2 ⟨b,rfl,y,p⟩;have t:Hid (At w2 n (fun x=>w.heap.size<=x) (pV (qA b))/\yW w w2):=⟨y.mono fun x q=>Q7 a.out.size q,a.out.trans (p.mono a.out.size)⟩
   clear p y o;go_wp2_with fail
   go_ret2
   exact⟨_,rfl,t.out⟩
theorem Ns(d:Nat)(G:d<=6)(q:Ac d):Aj d:=by
 intro w S v0 v1 v2 x dep bl g H;rcases kG g with⟨t,rfl,rfl,rfl,L⟩|⟨e,t,ks,M,K,rfl,rfl,rfl,C,F,J⟩
 ·have b:Hid (jk (aT d) (ay t.data.toList) dep bl=if t.data.toList=[] then some .nil else if t.data.toList.length≠32\/80<dep then none else some (.unread t.data.toList)):=rfl;obtain⟨R,z⟩:=yX (jk (aT d) (ay t.data.toList) dep bl)
  rw[<-z] at b⊢;have k:t.data.toList.length=t.size:=by simp
  clear g q z;by_cases h0:t.size=0
  ·have j:Hid (R=some .nil):=by show _=_;rw[b.out,QX (Rm.1 (by omega))]
   have I:t.toList.isEmpty=true:=by rw[gH];exact h0
   clear b k h0;go_enter func161,ntmps161
   go_wp2_with fail
   go_ret2
   rw[j.out];exact⟨none,rfl,rfl,(Q1 _ _).alloc (QU _) _⟩
  ·have m:t.data.toList≠[]:=fun h=>h0 (by rw[<-k,h];rfl)
   have I:t.toList.isEmpty=false:=by rw[gT];omega
   by_cases f:t.size≠32\/80<dep
   ·have j:Hid (R=none):=by show _=_;rw[b.out,QW m,QX (by rw[k];exact f)]
    clear b k h0 m;by_cases h32:t.size=32
    ·have h80:(80:Int)<(dep:Int):=by have:=f.elim (fun h=>absurd h32 h) id;omega
     have s:((t.size:Int) != 32)=false:=by rw[h32];rfl
     clear f h32;go_enter func161,ntmps161
     go_wp2_with fail
     go_ret2
     rw[j.out];exact⟨rfl,(Q1 _ _).alloc (QU _) _⟩
    ·have s:((t.size:Int) != 32)=true:=by simp;omega
     clear f h32;go_enter func161,ntmps161
     go_wp2_with fail
     go_ret2
     rw[j.out];exact⟨rfl,(Q1 _ _).alloc (QU _) _⟩
   ·have j:Hid (R=some (.unread t.data.toList)):=by show _=_;rw[b.out,QW m,QW (by rw[k];exact f)]
    have h32:t.size=32:=RQ fun h=>f (.inl h)
    have h80:decide ((80:Int)<(dep:Int))=false:=by have:¬80<dep:=fun h=>f (.inr h);simp;omega
    have s:((t.size:Int) != 32)=false:=by rw[h32];rfl
    have r:Hid (∀W:World,Calls yP 75 #[sV t] W (Made W (fun _=>False) (.unread t.data.toList))):=fun W=>by
     have:=Dx W t.data.toList;rw[jc] at this;exact this
    clear b k h0 m f h32;go_enter func161,ntmps161
    go_wp2_with fail
    refine(r.out _).mono ?_;rintro e1 w1 ⟨u1,rfl,v,A⟩;have D:Hid (At w1 (.unread t.data.toList) (fun x=>w.heap.size<=x) (pV u1)/\yW w w1):=⟨v.mono fun x g=>g.elim (fun h=>h.elim) (fun h=>Q7 (Nat.le_succ _) (by simpa using h)),((Q1 w.heap.size w).alloc (QU _) _).trans (A.mono (by simp))⟩
    clear v A r;go_wp2_with fail
    go_ret2
    rw[j.out];exact⟨u1,rfl,D.out⟩
 ·obtain⟨a,c,rfl⟩:=C.slice;have p:Hid (∀W,yW w W->Calls yP 163 #[gV #[bV true,sV t,lV a ks.length c],iV .i64 (dep:Int),bV bl] W (rq W (oQ d (bH ks) dep bl))):=fun W E=>Hu d G q W S true t a _ c _ dep bl (g.below E) H
  have b:Hid (jk (aT d) (bH ks) dep bl=oQ d (bH ks) dep bl):=rfl;rw[b.out];have B:yW w (w.alloc (.cells #[bV true,sV t,lV a ks.length c] 155)):=(Q1 _ _).alloc (QU _) _;have i:=aa B;clear g q b C F J B;generalize oQ d (bH ks) dep bl=R at*;go_enter func161,ntmps161
  go_wp2_with fail
  refine(p.out _ i.out).mono ?_;cases R with
  |none=>
   rintro e2 w2 ⟨rfl,l⟩;have o:=aa (i.out.trans (l.mono i.out.size));clear l p;go_wp2_with fail
   go_ret2
   exact⟨rfl,o.out⟩
  |some n=>
   rintro e2 w2 ⟨u,rfl,y,l⟩;have o:Hid (At w2 n (fun x=>w.heap.size<=x) (pV u)/\yW w w2):=⟨y.mono fun x g=>Q7 i.out.size g,i.out.trans (l.mono i.out.size)⟩
   clear l y p;go_wp2_with fail
   go_ret2
   exact⟨_,rfl,o.out⟩
def GS(d:Nat):Prop:=∀(w:World) (S:Nat->Prop) (f0 f1 f2 s0 s1 s2:Value) (x y:Tree) (dep:Nat),aY d w S [f0,f1,f2] x->aY d w S [s0,s1,s2] y->dep+d<=4096->
 Calls yP 153 #[gV #[f0,f1,f2],gV #[s0,s1,s2],iV .i64 (dep:Int)] w (gZ w (je (aT d) x y dep))
theorem sN{d w S v0 v1 v2 x}(h:aY d w S [v0,v1,v2] x):∃l t,v0=bV l/\v1=sV t:=by
 rcases kG h with⟨t,rfl,rfl,_⟩|⟨e,t,ks,a,_,rfl,rfl,_⟩
 ·exact⟨false,t,rfl,rfl⟩
 ·exact⟨true,t,rfl,rfl⟩
theorem KX(w:World)(f1:yB)(f2:Value)(s0:Bool)(s1:yB)(s2:Value)(dep:Nat):
 Calls yP 153 #[gV #[bV true,sV f1,f2],gV #[bV s0,sV s1,s2],iV .i64 (dep:Int)] w (gZ w none):=by
 go_enter func153,ntmps153
 go_wp2_with fail
 go_ret
 exact⟨rfl,pF w _ _⟩
theorem Cs(w:World)(t:yB)(f2:Value)(s0:Bool)(s1:yB)(s2:Value)(dep:Nat)(ht:t.size<=maxLen)(hb:4096<t.size\/¬jz t.data.toList):
 Calls yP 153 #[gV #[bV false,sV t,f2],gV #[bV s0,sV s1,s2],iV .i64 (dep:Int)] w (gZ w none):=by
 obtain⟨E,hE⟩:∃E:Int,E=if 4096<t.size then 1 else 7:=⟨_,rfl⟩
 have HU:Hid (∀W:World,Calls yP 160 #[sV t] W fun e w'=>e=rV (tV #[sV ByteArray.empty,bV false,iV .i64 E])/\w'=W):=fun W=>by
  rw[hE];exact Iv t ht hb W
 have A0:(E != 0)=true:=by rw[hE];split<;>rfl
 clear hb ht hE;go_enter func153,ntmps153
 go_wp2_with fail
 refine(HU.out _).mono ?_;rintro e w1 ⟨rfl,rfl⟩;clear HU;go_wp2_with fail
 go_ret
 exact⟨rfl,pF w _ _⟩
theorem qj{w w1:World}{o x y z T}(a:Below ((w.alloc o).alloc (.cells #[x,y,z] T)).heap.size ((w.alloc o).alloc (.cells #[x,y,z] T)) w1):
 w1.cell? ⟨w.heap.size+1,0,none⟩=some x/\w1.cell? ⟨w.heap.size+1,1,none⟩=some y/\w1.cell? ⟨w.heap.size+1,2,none⟩=some z/\yW w w1/\w.heap.size+1<w1.heap.size:=by
 obtain⟨h0,h1,h2,_⟩:=fV (w:=w.alloc o) a;have e:(w.alloc o).heap.size=w.heap.size+1:=by simp
 rw[e] at h0 h1 h2;refine⟨h0,h1,h2,(pF w _ _).trans (a.mono (by simp;omega)),?_⟩;have:=a.size;simp at this;omega
theorem Lb(w:World)(t:yB)(f2:Value)(s0:Bool)(s1:yB)(s2:Value)(dep:Nat)(k:dep<=4096)(g:t.size<=4096)(d:jz t.data.toList)(i:80<dep+(bd t.data.toList).length)(f:(bd t.data.toList).length<=8192):
 Calls yP 153 #[gV #[bV false,sV t,f2],gV #[bV s0,sV s1,s2],iV .i64 (dep:Int)] w (gZ w none):=by
 have a:=aa (tY t g d);have l:(str (bd t.data.toList)).size<=8192:=by rw[aH];exact f
 have j:(80:Int)<(dep:Int)+((str (bd t.data.toList)).size:Int):=by rw[aH];omega
 clear g d i f;generalize str (bd t.data.toList)=P at*;generalize ft t.data.toList=L at*;go_enter func153,ntmps153
 go_wp2_with fail
 refine(a.out _).mono ?_;rintro e w1 ⟨rfl,b⟩;obtain⟨_,_,_,c,_⟩:=qj b;have h:=aa c;clear a b c;go_wp2_with fail
 go_ret
 exact⟨rfl,h.out⟩
theorem Cr(w:World)(t:yB)(f2:Value)(s0:Bool)(s1:yB)(s2:Value)(dep:Nat)(j:t.size<=4096)(g:jz t.data.toList)(l:dep+(bd t.data.toList).length<=80)(i:ft t.data.toList=true)
 (f:s0=true\/s1.size=0\/160<s1.size):
 Calls yP 153 #[gV #[bV false,sV t,f2],gV #[bV s0,sV s1,s2],iV .i64 (dep:Int)] w (gZ w none):=by
 have c:Hid (∀W:World,Calls yP 160 #[sV t] W fun e w'=>e=rV (tV #[sV (str (bd t.data.toList)),bV true,iV .i64 0])/\yW W w'):=fun W=>by have:=tY t j g W;rw[i] at this;exact this
 have o:(str (bd t.data.toList)).size<=80:=by rw[aH];omega
 have m:¬(80:Int)<(dep:Int)+((str (bd t.data.toList)).size:Int):=by rw[aH];omega
 have n:dep<=80:=by omega
 clear j g l i;generalize str (bd t.data.toList)=P at*;cases s0 with
 |true=>
  go_enter func153,ntmps153
  go_wp2_with fail
  refine(c.out _).mono ?_;rintro e w1 ⟨rfl,a⟩;obtain⟨k0,k1,_,b,_⟩:=qj a;have d:=aa b;clear c a b f;go_wp2_with fail
  go_ret
  exact⟨rfl,d.out⟩
 |false=>
  by_cases h0:s1.size=0
  ·have k:s1.toList.isEmpty=true:=by rw[gH];exact h0
   clear f h0;go_enter func153,ntmps153
   go_wp2_with fail
   refine(c.out _).mono ?_;rintro e w1 ⟨rfl,a⟩;obtain⟨k0,k1,_,b,_⟩:=qj a;have d:=aa b;clear c a b;go_wp2_with fail
   go_ret
   exact⟨rfl,d.out⟩
  ·have h160:(160:Int)<(s1.size:Int):=by
    have:160<s1.size:=by rcases f with h|h|h;cases h;exact absurd h h0;exact h
    omega
   have k:s1.toList.isEmpty=false:=by rw[gT];omega
   clear f h0;go_enter func153,ntmps153
   go_wp2_with fail
   refine(c.out _).mono ?_;rintro e w1 ⟨rfl,a⟩;obtain⟨k0,k1,_,b,_⟩:=qj a;have d:=aa b;clear c a b;go_wp2_with fail
   go_ret
   exact⟨rfl,d.out⟩
theorem KZ(w:World)(t:yB)(f2:Value)(s1:yB)(s2:Value)(dep:Nat)(h:t.size<=4096)(f:jz t.data.toList)(j:dep+(bd t.data.toList).length<=80)(g:ft t.data.toList=true)
 (h0:s1.size≠0) (h1:s1.size<=160):
 Calls yP 153 #[gV #[bV false,sV t,f2],gV #[bV false,sV s1,s2],iV .i64 (dep:Int)] w (gZ w (some (.leaf [] (bd t.data.toList) s1.data.toList))):=by
 have b:Hid (∀W:World,Calls yP 160 #[sV t] W fun e w'=>e=rV (tV #[sV (str (bd t.data.toList)),bV true,iV .i64 0])/\yW W w'):=fun W=>by have:=tY t h f W;rw[g] at this;exact this
 have i:Hid (∀W:World,bL (W.alloc (.cells (eX 1 ⟨#[]⟩ (str (bd t.data.toList)) s1 cL (fun _=>cL)) 167)) W.heap.size (.leaf [] (bd t.data.toList) s1.data.toList) cL (fun _=>cL)):=fun W=>qH W _ _ _ _ _ rfl (by show _=Obj.cells (eX 1 _ _ (str s1.data.toList) _ _) 167;rw[jc];rfl)
 have n:(str (bd t.data.toList)).size<=80:=by rw[aH];omega
 have k:¬(80:Int)<(dep:Int)+((str (bd t.data.toList)).size:Int):=by rw[aH];omega
 have l:dep<=80:=by omega
 have h160:¬(160:Int)<(s1.size:Int):=by omega
 have m:s1.toList.isEmpty=false:=by rw[gT];omega
 clear h f j g h0 h1;generalize hPP:bd t.data.toList=PP at*;generalize hSP:str PP=P at*;go_enter func153,ntmps153
 go_wp2_with fail
 refine(b.out _).mono ?_;rintro e w1 ⟨rfl,c⟩;obtain⟨k0,k1,_,d,o⟩:=qj c;have a:=aa d;clear b c d;go_wp2_with fail
 go_ret
 exact⟨_,rfl,⟨_,rfl,a.out.size,i.out w1⟩,a.out.alloc a.out.size _⟩
def qU(p:yL)(r:Option Nd):Option Nd:=match r with
 |some k=>if k.isNil=true\/p=[] then none else some (.ext [] p k)
 |none=>none
theorem zw(p k):qU p (some k)=if k.isNil=true\/p=[] then none else some (.ext [] p k):=rfl
theorem Eu(k:Nd):k.isNil=true↔k=.nil:=by cases k<;>simp[Nd.isNil]
theorem La(w:World)(t:yB)(f2:Value)(s0:Bool)(s1:yB)(s2:Value)(dep:Nat)(R:Option Nd)(z:t.size<=4096)(r:jz t.data.toList)(D:dep+(bd t.data.toList).length<=80)(v:ft t.data.toList=false)
 (s:∀W,yW w W->Calls yP 161 #[gV #[bV s0,sV s1,s2],iV .i64 ((dep+(bd t.data.toList).length:Nat):Int),bV true] W (rq W R)):
 Calls yP 153 #[gV #[bV false,sV t,f2],gV #[bV s0,sV s1,s2],iV .i64 (dep:Int)] w (gZ w (qU (bd t.data.toList) R)):=by
 have o:Hid (∀W:World,Calls yP 160 #[sV t] W fun e w'=>e=rV (tV #[sV (str (bd t.data.toList)),bV false,iV .i64 0])/\yW W w'):=fun W=>by have:=tY t z r W;rw[v] at this;exact this
 have y:(str (bd t.data.toList)).toList.isEmpty=decide (bd t.data.toList=[]):=jP _;have i:Hid (∀W,yW w W->Calls yP 161 #[gV #[bV s0,sV s1,s2],iV .i64 ((dep:Int)+((str (bd t.data.toList)).size:Int)),bV true] W (rq W R)):=fun W C=>by
  have:=s W C;rw[aH];rw[show(((dep+(bd t.data.toList).length:Nat)):Int)=(dep:Int)+((bd t.data.toList).length:Int) by omega] at this;exact this
 have G:(str (bd t.data.toList)).size<=80:=by rw[aH];omega
 have E:¬(80:Int)<(dep:Int)+((str (bd t.data.toList)).size:Int):=by rw[aH];omega
 have F:dep<=80:=by omega
 clear z r D v s;generalize hPP:bd t.data.toList=PP at*;have B:Hid (∀(W:World) (k:Nd) (u:Option Addr),bL (W.alloc (.cells (eX 2 ⟨#[]⟩ (str PP) ⟨#[]⟩ (pV u) (fun _=>cL)) 167)) W.heap.size (.ext [] PP k) (pV u) (fun _=>cL)):=fun W k u=>qH W _ _ _ _ _ rfl rfl
 generalize hSP:str PP=P at*;clear hPP;go_enter func153,ntmps153
 go_wp2_with fail
 refine(o.out _).mono ?_;rintro e w1 ⟨rfl,p⟩;obtain⟨k0,k1,k2,q,H⟩:=qj p;have a:=aa q;clear o p q;go_wp2_with fail
 refine(i.out _ a.out).mono ?_;cases R with
 |none=>
  rintro e w2 ⟨rfl,f⟩;have c:=aa (a.out.trans (f.mono a.out.size));clear i f a;go_wp2_with fail
  go_ret
  exact⟨rfl,c.out⟩
 |some k=>
  rintro e w2 ⟨u,rfl,d,f⟩;have c:=aa (a.out.trans (f.mono a.out.size));by_cases l:k=.nil
  ·have n:Value.pointer u=pV none:=by rw[l] at d;exact d
   cases n
   have j:Hid (qU PP (some k)=none):=by show _=_;rw[zw,QX (.inl ((Eu k).2 l))]
   clear i f a d;go_wp2_with fail
   go_ret
   rw[j.out];exact⟨rfl,c.out⟩
  ·obtain⟨b,I,J,n,_,_⟩:=d.ah (by cases k<;>first|exact absurd rfl l|trivial);cases n
   by_cases g:PP=[]
   ·have j:Hid (qU PP (some k)=none):=by show _=_;rw[zw,QX (.inr g)]
    rw[Ra g] at y;clear i f a d g;go_wp2_with fail
    go_ret
    rw[j.out];exact⟨rfl,c.out⟩
   ·have j:Hid (qU PP (some k)=some (.ext [] PP k)):=by show _=_;rw[zw,QW (by rw[Eu];exact fun h=>h.elim l g)]
    have A:Hid (At w2 k (fun x=>w.heap.size<=x/\x<w2.heap.size) (pV (qA b))):=d.cut.mono fun x m=>⟨Q7 a.out.size m.1,m.2⟩
    rw[Q9 g] at y;clear i f a d g;go_wp2_with fail
    go_ret
    rw[j.out];exact⟨_,rfl,⟨_,_,fun x=>w.heap.size<=x/\x<w2.heap.size,rfl,c.out.size,B.out w2 k _,fun x m=>⟨m.1,by omega⟩,A.out.below ((Q1 _ _).alloc (QU _) _)⟩,c.out.alloc c.out.size _⟩
theorem Ld(l)(h:l≠[]):2*(l.length - 1)<=(bd l).length/\(bd l).length<=2*l.length:=by
 unfold bd;rw[Q4,ow,Q8];have:l.length≠0:=fun e=>h (Rm.1 e)
 split<;>simp<;>omega
theorem Lc(d:Nat)(p:Aj d)(r:d<=6):GS d:=by
 intro w S f0 f1 f2 s0 s1 s2 x y dep o l s;obtain⟨c,a,rfl,rfl⟩:=sN l;rcases kG o with⟨t,rfl,rfl,rfl,B⟩|⟨e,t,ks,q,_,rfl,rfl,rfl,_⟩
 ·have u:t.data.toList.length=t.size:=by simp
  have m:je (aT d) (ay t.data.toList) y dep=if mj t.data.toList=false\/80<dep+(bd t.data.toList).length then none else if ft t.data.toList=true then(match y with| .lit (.string v)=>if v=[]\/160<v.length then none else some (.leaf [] (bd t.data.toList) v) | _=>none) else qU (bd t.data.toList) (jk (aT d) y (dep+(bd t.data.toList).length) true):=rfl;rw[m];by_cases b:jz t.data.toList
  ·have j:=(sW _).2 b;obtain⟨z,A⟩:=Ld _ b.1;by_cases i:80<dep+(bd t.data.toList).length
   ·rw[QX (.inr i)];by_cases h4:4096<t.size
    ·exact Cs w t f2 c a s2 dep (by unfold maxLen;omega) (.inl h4)
    ·exact Lb w t f2 c a s2 dep (by omega) (by omega) b i (by omega)
   ·have g:t.size<=4096:=by omega
    rw[QW (by rw[j];exact fun h=>h.elim (fun h=>by cases h) i)];cases hlf:ft t.data.toList with
    |true=>
     rw[QX rfl];rcases kG l with⟨v,h1,h2,rfl,C⟩|⟨e,v,ks,q,_,h1,h2,rfl,_⟩
     ·cases h1;cases h2
      have k:a.data.toList.length=a.size:=by simp
      show Calls _ _ _ _ (gZ w (if a.data.toList=[]\/160<a.data.toList.length then none else some (.leaf [] (bd t.data.toList) a.data.toList)));by_cases f:a.size=0\/160<a.size
      ·rw[QX (by rw[k];exact f.imp (fun h=>Rm.1 (by omega)) id)];exact Cr w t f2 false a s2 dep g b (by omega) hlf (.inr f)
      ·have h0:a.size≠0:=fun h=>f (.inl h)
       have h1:a.size<=160:=by have:¬160<a.size:=fun h=>f (.inr h);omega
       rw[QW (by rw[k];exact fun h=>h.elim (fun h=>h0 (by rw[<-k,h];rfl)) (fun h=>by omega))];exact KZ w t f2 a s2 dep g b (by omega) hlf h0 h1
     ·cases h1;cases h2
      exact Cr w t f2 true a s2 dep g b (by omega) hlf (.inl rfl)
    |false=>
     rw[QW (by decide)];exact La w t f2 c a s2 dep _ g b (by omega) hlf fun W n=>p W S _ _ _ y _ true (l.below n) (by omega)
  ·have j:mj t.data.toList=false:=by
    cases h:mj t.data.toList with
    |false=>rfl
    |true=>exact absurd ((sW _).1 h) b
   rw[QX (.inl j)];exact Cs w t f2 c a s2 dep (by unfold maxLen;omega) (.inr b)
 ·exact KX w t f2 c a s2 dep
theorem Mr(k:Int)(h p v a b)(d:Nat)(x)(c:d<16):(eX k h p v a b).setIfInBounds (5+d) x=eX k h p v a (fun j=>if j=d then x else b j):=by
 apply Sn;intro j;rw[R4];by_cases e:5+d=j
 ·subst e;rw[QX rfl,QX (by rw[qF];omega),sB _ _ _ _ _ _ d c,QX rfl]
 ·rw[QW e];by_cases f:j<5
  ·match j,f with
   | 0,_=>rfl
   | 1,_=>rfl
   | 2,_=>rfl
   | 3,_=>rfl
   | 4,_=>rfl
  ·by_cases g:j<21
   ·obtain⟨i,rfl⟩:∃i,j=5+i:=⟨j - 5,by omega⟩
    rw[sB _ _ _ _ _ _ i (by omega),sB _ _ _ _ _ _ i (by omega),QW (by omega)]
   ·rw[Rk (by rw[qF];omega),Rk (by rw[qF];omega)]
def pj(f:Nat->Option Nd)(i:Nat):Nat->Nd:=fun j=>if j<i then(f j).getD .nil else .nil
theorem Ng(f:Nat->Option Nd)(i:Nat)(k)(h:f i=some k):pj f (i+1)=aD (pj f i) i k:=by
 funext j
 unfold pj aD;by_cases e:j=i
 ·subst e;rw[QX (by omega),QX rfl,h];rfl
 ·rw[QW e];by_cases a:j<i
  ·simp only[a,RJ];rw[QX (by omega)]
  ·simp only[a,Ry];rw[QW (by omega)]
theorem Ef(a:Tree->Nat->Bool->Option Nd)(ks:List Tree)(dep i:Nat)(h:gm a ks dep i=none):∀n,i<n->jW a ks dep n=false
 | 0,hi=>by omega
 |n+1,hi=>by
  show(jW a ks dep n && (gm a ks dep n).isSome)=false
  by_cases e:i=n
  ·subst e;rw[h];simp
  ·rw[Ef a ks dep i h n (by omega)];rfl
theorem yN(a:Tree->Nat->Bool->Option Nd)(ks:List Tree)(dep:Nat)(v):∀n,gS a ks dep v n<=n+1
 | 0=>by simp only[gS];split<;>omega
 |n+1=>by
  have:=yN a ks dep v n
  simp only[gS]
  split<;>omega
def jH(w:World)(g:Nat)(v:yB)(U:Nat->Option Addr):Prop:=w.heap[g]? =some (.cells (eX 3 ⟨#[]⟩ ⟨#[]⟩ v cL (fun j=>pV (U j))) 167 (0,0))
theorem jH.lt{w g v U}(h:jH w g v U):g<w.heap.size:=(Q0.1 h).1
theorem jH.cell{w g v U}(h:jH w g v U)(i:Nat)(hi:i<16):w.cell? ⟨g,5+i,none⟩=some (pV (U i)):=by rw[Q5 w g (5+i) _ _ _ h,sB _ _ _ _ _ _ i hi]
theorem jH.free{w g v U}(h:jH w g v U)(o:Nat):w.frozen? ⟨g,o,none⟩=false:=by simp[World.frozen?,show w.heap[g]? =_ from h]
theorem jH.set{w g v U}(h:jH w g v U)(i:Nat)(x)(hi:i<16):jH (w.setCell ⟨g,5+i,none⟩ (pV x)) g v (fM U i x):=by
 unfold jH;rw[Se w g (5+i) _ _ _ h,Mr _ _ _ _ _ _ i _ hi];congr 3;funext j
 unfold fM;split<;>rfl
def Ha(d:Nat):Prop:=∀(w:World) (S:Nat->Prop) (a:Option Addr) (c:Nat) (ks:List Tree) (b:List Value) (dep:Nat),gC w S (lV a 17 c) ks.length b->ks.length=17->(∀i,i<ks.length->aY d w S ((b.drop (3*i)).take 3) (ks.getD i (ay [])))->dep+d+1<=4096->
 Calls yP 154 #[lV a 17 c,iV .i64 (dep:Int)] w (gZ w (gW (aT d) ks dep))
theorem Gr(w:World)(c:Nat)(dep:Nat)(g o:Nat)(l0:Bool)(l1 b)(e d:Nat)(c0:w.cell? ⟨g,o+48,none⟩=some (bV l0))(c1:w.cell? ⟨g,o+48+1,none⟩=some (sV l1))(c2:w.cell? ⟨g,o+48+2,none⟩=some (lV b e d))
 (a:l0=true\/160<l1.size):
 Calls yP 154 #[lV (some ⟨g,o,none⟩) 17 c,iV .i64 (dep:Int)] w (gZ w none):=by
 cases l0 with
 |true=>
  go_enter func154,ntmps154
  go_wp2_with fail
  go_ret
  exact⟨rfl,(Q1 _ _).alloc (QU _) _⟩
 |false=>
  have h160:(160:Int)<(l1.size:Int):=by have:=a.elim (fun h=>by cases h) id;omega
  clear a;go_enter func154,ntmps154
  go_wp2_with fail
  go_ret
  exact⟨rfl,(Q1 _ _).alloc (QU _) _⟩
theorem PW(d:Nat)(B5:Aj d):Ha d:=by
 intro w S a c ks xs dep hr hn hk A7;obtain⟨g,o,l0,l1,l2,ha,c0,c1,c2,Q⟩:=se (d:=d) (n:=17) hr hn.symm hk 16 (by omega);subst ha;obtain⟨l0,l1,rfl,rfl⟩:=sN Q;obtain⟨la,ln,lc,rfl⟩:=qP Q;have B0:Hid (∀i,i<17->∃v0 v1 E G F,w.cell? ⟨g,o+i*3,none⟩=some (bV v0)/\w.cell? ⟨g,o+i*3+1,none⟩=some (sV v1)/\w.cell? ⟨g,o+i*3+2,none⟩=some (lV E G F)/\aY d w S [bV v0,sV v1,lV E G F] (ks.getD i (ay []))):=fun i hi=>by
  obtain⟨g',o',v0,v1,v2,B1,e0,e1,e2,C⟩:=se (d:=d) (n:=17) hr hn.symm hk i hi;cases B1
  obtain⟨b0,t1,rfl,rfl⟩:=sN C;obtain⟨E,G,F,rfl⟩:=qP C;exact⟨b0,t1,E,G,F,e0,e1,e2,C⟩
 have A1:g<w.heap.size:=Rj w _ c0;clear hr hk;rcases kG Q with⟨t,h1,h2,O,_⟩|⟨e,t,B9,C1,_,h1,h2,O,_⟩
 ·cases h1;cases h2
  have s:gW (aT d) ks dep=if 160<l1.data.toList.length then none else if jW (aT d) ks dep 16=true/\2<=gS (aT d) ks dep l1.data.toList 16 then some (.branch [] l1.data.toList (fun i=>(gm (aT d) ks dep i).getD .nil)) else none:=by
   unfold gW;rw[O];rfl
  have A3:l1.data.toList.length=l1.size:=by simp
  by_cases h160:160<l1.size
  ·rw[s,QX (by rw[A3];exact h160)];exact Gr w c dep g o false l1 la ln lc c0 c1 c2 (.inr h160)
  ·rw[QW (by rw[A3];exact h160)] at s;obtain⟨R,hR⟩:=yX (gW (aT d) ks dep)
   rw[<-hR];rw[<-hR] at s;have K:=aa s;have B6:¬(160:Int)<(l1.size:Int):=by omega
   clear hR s O Q A3 h160;obtain⟨H,N⟩:=yX (gS (aT d) ks dep l1.data.toList 0)
   have A4:=aa N;have A9:=aa A7;have B7:(dep:Int)<5000:=by omega
   have hC:(l1.toList.isEmpty=true/\H=0)\/(l1.toList.isEmpty=false/\H=1):=by
    by_cases hz:l1.size=0
    ·refine .inl ⟨by rw[gH];exact hz,?_⟩;rw[N];simp only[gS];rw[QX (Rm.1 (by rw[Array.length_toList];exact hz))]
    ·refine .inr ⟨by rw[gT];omega,?_⟩;rw[N];simp only[gS];rw[QW (fun h=>hz (by have:=congrArg List.length h;rw[Array.length_toList] at this;exact this))]
   clear N A7;rcases hC with⟨B2,rfl⟩|⟨B2,rfl⟩;all_goals
    go_enter func154,ntmps154
    go_wp2_with fail
    go_loopg [7,8] 16 (fun gk s7 s8 wr=>∃(i:Nat) (U:Nat->Option Addr) (I:Nat->Nat->Prop),gk=16 - i/\i<=16/\s7=iV .i64 ((gS (aT d) ks dep l1.data.toList i:Nat):Int)/\s8=iV .i64 (i:Int)/\Hid (jW (aT d) ks dep i=true)/\
     Hid (jH wr (w.heap.size+1) l1 U)/\Hid (Kids wr (pj (gm (aT d) ks dep) i) (fun x=>w.heap.size+2<=x) U I)/\Hid (yW w wr))
    case atStart=>
     refine⟨0,fun _=>none,fun _ _=>False,rfl,by omega,by rw[<-A4.out];rfl,rfl,rfl,?_,?_,?_⟩
     ·show jH _ _ _ _;unfold jH;rw[show w.heap.size+1=(w.alloc (.cells #[bV false,sV l1,lV la ln lc] 155)).heap.size from by simp,Rl];rfl
     ·exact Kids.none _ _
     ·exact((Q1 _ _).alloc (QU _) _).alloc (by simp) _
    case round=>
     obtain⟨i,U,I,hg,hi,rfl,rfl,L,r,k,f⟩:=hrel;have HG:=aa hg;clear hg;by_cases h16:i<16
     ·obtain⟨v0,v1,E,G,F,e0,e1,e2,C⟩:=B0.out i (by omega);have d0:=(f.out.cell (p:=⟨g,o+i*3,none⟩) A1).trans e0;have d1:=(f.out.cell (p:=⟨g,o+i*3+1,none⟩) A1).trans e1;have d2:=(f.out.cell (p:=⟨g,o+i*3+2,none⟩) A1).trans e2;have z:Hid (∀W,yW w W->Calls yP 161 #[gV #[bV v0,sV v1,lV E G F],iV .i64 ((dep:Int)+1),bV false] W (rq W (gm (aT d) ks dep i))):=fun W hW=>by
       have:=B5 W S _ _ _ _ (dep+1) false (C.below hW) (by have:=A9.out;omega);rw[show((dep+1:Nat):Int)=(dep:Int)+1 from by omega] at this;exact this
      have hI:(i:Int)<16:=by omega
      have J:=yN (aT d) ks dep l1.data.toList i;obtain⟨b,v⟩:=yX (gS (aT d) ks dep l1.data.toList i)
      have A5:=aa v;rw[<-v] at J⊢;have A6:(b:Int)<=18:=by omega
      have B3:=r.out.lt;clear v C e0 e1 e2;obtain⟨V,A2⟩:=yX (gm (aT d) ks dep i)
      have A:=aa A2;rw[<-A2] at z;clear A2;cases V with
      |none=>
       go_wp2_with fail
       refine(z.out _ f.out).mono ?_;rintro e w1 ⟨rfl,m⟩;have Y:=aa (f.out.trans (m.mono f.out.size));clear m z;go_wp2_with fail
       go_ret
       rw[K.out,QW (fun h=>by rw[Ef _ _ _ i A.out.symm 16 h16] at h;cases h.1)];exact⟨rfl,Y.out⟩
      |some n=>
       go_wp2_with fail
       refine(z.out _ f.out).mono ?_;rintro e w1 ⟨u,rfl,M,m⟩;have B:Hid (jH w1 (w.heap.size+1) l1 U):=(m.block _ B3).trans r.out;have m0:=B.out.cell i h16;have m1:=B.out.free (5+i);have B8:=B.out.lt;have A0:Hid (Kids w1 (pj (gm (aT d) ks dep) i) (fun x=>w.heap.size+2<=x) U (fun j x=>I j x/\x<wr.heap.size)):=k.out.cut.kept fun x _ D=>m.block x D
       have X:=aa M;have Y:=aa (f.out.trans (m.mono f.out.size));have l:Hid (jH (w1.setCell ⟨w.heap.size+1,5+i,none⟩ (pV u)) (w.heap.size+1) l1 (fM U i u)/\Kids (w1.setCell ⟨w.heap.size+1,5+i,none⟩ (pV u)) (pj (gm (aT d) ks dep) (i+1)) (fun x=>w.heap.size+2<=x) (fM U i u) (fm (fun j x=>I j x/\x<wr.heap.size) i (fun x=>wr.heap.size<=x))/\yW w (w1.setCell ⟨w.heap.size+1,5+i,none⟩ (pV u))/\jW (aT d) ks dep (i+1)=true):=by
        refine⟨B.out.set i u h16,?_,Y.out.setCell (by simp) _,?_⟩
        ·rw[Ng _ i n A.out.symm];refine A0.out.put (fun x D _=>Rc _ _ _ _ (by show x≠w.heap.size+1;have:w.heap.size+2<=x:=D;omega)) i n u _ (X.out.kept fun x D _=>Rc _ _ _ _ (by show x≠w.heap.size+1;omega)) fun y hy=>⟨by omega,fun j _ _ h=>by omega⟩
        ·show(jW (aT d) ks dep i && (gm (aT d) ks dep i).isSome)=true;rw[L.out,<-A.out];rfl
       have T:=M.none;cases u with
       |none=>
        have Z:Hid (b=gS (aT d) ks dep l1.data.toList (i+1)):=by
         show _=_;rw[T.1 rfl] at A;simp only[gS];rw[<-A.out,<-A5.out];rfl
        clear T M m z A0 X k r B L d0 d1 d2;go_wp2_with fail
        go_roundg (16 - (i+1))
        case measure=>have:=HG.out;omega
        case rel=>exact⟨i+1,_,_,rfl,by omega,by rw[<-Z.out],by go_num,l.out.2.2.2,l.out.1,l.out.2.1,l.out.2.2.1⟩
       |some ub=>
        have Z:Hid (b+1=gS (aT d) ks dep l1.data.toList (i+1)):=by
         show _=_;simp only[gS];rw[<-A.out,<-A5.out];have B4:n≠.nil:=fun h=>by cases T.2 h
         have:n.isNil=false:=by cases n<;>first|rfl|exact absurd rfl B4
         rw[Option.getD_some,this];rfl
        clear T M m z A0 X k r B L d0 d1 d2;go_wp2_with fail
        go_roundg (16 - (i+1))
        case measure=>have:=HG.out;omega
        case rel=>exact⟨i+1,_,_,rfl,by omega,by rw[<-Z.out];go_num,by go_num,l.out.2.2.2,l.out.1,l.out.2.1,l.out.2.2.1⟩
     ·obtain rfl:i=16:=by omega
      have hI:¬((16:Nat):Int)<16:=by omega
      have A8:Hid (At wr (.branch [] l1.data.toList (fun i=>(gm (aT d) ks dep i).getD .nil)) (fun x=>w.heap.size<=x) (pV (some ⟨w.heap.size+1,0,none⟩))):=by
       refine⟨w.heap.size+1,fun j=>pV (U j),I,rfl,by omega,?_,fun j x P D=>?_,k.out.iH,fun j P=>?_⟩
       ·have:=r.out;unfold jH at this;show _=_;rw[this];show _=some (Obj.cells (eX 3 (str []) (str []) (str l1.data.toList) cL fun j=>pV (U j)) 167 (0,0));rw[jc];rfl
       ·have:=k.out.sub j x P D;exact⟨by omega,by omega⟩
       ·have:=k.out.at_ j P;unfold pj at this;rw[QX P] at this;exact this
      obtain⟨b,v⟩:=yX (gS (aT d) ks dep l1.data.toList 16)
      have q:=K.out;rw[<-v] at q⊢;have J:=yN (aT d) ks dep l1.data.toList 16;rw[<-v] at J;clear v A4;by_cases h2:2<=b
      ·rw[QX ⟨L.out,h2⟩] at q;have HR:=aa q;have A6:¬(b:Int)<2:=by omega
       clear q K J h2 k r;go_wp2_with fail
       go_ret
       rw[HR.out];exact⟨_,rfl,A8.out,f.out⟩
      ·rw[QW (fun h=>h2 h.2)] at q;have HR:=aa q;have A6:(b:Int)<2:=by omega
       clear q K J h2 k r;go_wp2_with fail
       go_ret
       rw[HR.out];exact⟨rfl,f.out⟩
 ·cases h1;cases h2
  have s:gW (aT d) ks dep=none:=by unfold gW;rw[O];rfl
  rw[s];exact Gr w c dep g o true l1 la ln lc c0 c1 c2 (.inl rfl)
theorem De(w:World)(t:yB)(a:Option Addr)(c b:Nat)(dep:Nat)(bl:Bool):
 Calls yP 140 #[gV #[bV false,sV t,lV a c b],iV .i64 (dep:Int),bV bl] w (gZ w none):=by
 go_enter func140,ntmps140
 go_wp2_with fail
 go_ret
 exact⟨rfl,(Q1 _ _).alloc (QU _) _⟩
theorem Mb(w:World)(t:yB)(c:Option Addr)(n d:Nat)(dep:Nat)(bl:Bool)(h:n≠17)(h2:¬(n=2/\bl=false))(a:n<140737488355329):
 Calls yP 140 #[gV #[bV true,sV t,lV c n d],iV .i64 (dep:Int),bV bl] w (gZ w none):=by
 have h17:((n:Int) == 17)=false:=by simp;omega
 have f:(n:Int)<140737488355329:=by omega
 by_cases h3:n=2
 ·subst h3;have b:bl=true:=by cases bl with|true=>rfl|false=>exact absurd ⟨rfl,rfl⟩ h2
  subst b;clear h2 h a;go_enter func140,ntmps140
  go_wp2_with fail
  go_ret
  exact⟨rfl,(Q1 _ _).alloc (QU _) _⟩
 ·have e:((n:Int) == 2)=false:=by simp;omega
  clear h2 h a h3;go_enter func140,ntmps140
  go_wp2_with fail
  go_ret
  exact⟨rfl,(Q1 _ _).alloc (QU _) _⟩
def tL(w:World)(r:Option Nd)(u:Option Addr)(w':World):Prop:=match r with
 |none=>u=none/\yW w w'
 |some n=>∃b,u=some ⟨b,0,none⟩/\At w' n (fun x=>w.heap.size<=x) (pV (qA b))/\yW w w'
theorem yf{w W w1:World}{r e}(a:yW w W)(h:gZ W r e w1):∃u,e=rV (pV u)/\Hid (tL w r u w1):=by
 cases r with
 |none=>exact⟨none,h.1,rfl,a.trans (h.2.mono a.size)⟩
 |some n=>
  obtain⟨b,h1,h2,h3⟩:=h;exact⟨_,h1,b,rfl,h2.mono fun x c=>Q7 a.size c,a.trans (h3.mono a.size)⟩
theorem Df{w w1 r u}(h:tL w r u w1):gZ w r (rV (pV u)) w1:=by
 cases r with
 |none=>exact⟨by rw[h.1],h.2⟩
 |some n=>
  obtain⟨b,rfl,h2⟩:=h;exact⟨b,rfl,h2⟩
theorem Ma(d:Nat)(E:GS d)(w S)(t:yB)(a)(c:Nat)(ks:List Tree)(B:List Value)(dep:Nat)(p:gC w S (lV a 2 c) ks.length B)(m:ks.length=2)(l:∀i,i<ks.length->aY d w S ((B.drop (3*i)).take 3) (ks.getD i (ay [])))(r:dep+d<=4096):
 Calls yP 140 #[gV #[bV true,sV t,lV a 2 c],iV .i64 (dep:Int),bV false] w (gZ w (je (aT d) (ks.getD 0 (ay [])) (ks.getD 1 (ay [])) dep)):=by
 obtain⟨g,o,p0,p1,p2,k,c0,c1,c2,f⟩:=se (d:=d) (n:=2) p m.symm l 0 (by omega);subst k;obtain⟨F,H,q0,q1,q2,k,e0,e1,e2,j⟩:=se (d:=d) (n:=2) p m.symm l 1 (by omega);cases k
 obtain⟨p0,p1,rfl,rfl⟩:=sN f;obtain⟨s,x,v,rfl⟩:=qP f;obtain⟨q0,q1,rfl,rfl⟩:=sN j;obtain⟨y,A,z,rfl⟩:=qP j;have q:Hid (∀W,yW w W->Calls yP 153 #[gV #[bV p0,sV p1,lV s x v],gV #[bV q0,sV q1,lV y A z],iV .i64 (dep:Int)] W (gZ W (je (aT d) (ks.getD 0 (ay [])) (ks.getD 1 (ay [])) dep))):=fun W b=>E W S _ _ _ _ _ _ _ _ dep (f.below b) (j.below b) r
 have G:g<w.heap.size:=Rj w _ c0;rw[Nat.zero_mul,Nat.add_zero] at c0 c1 c2;rw[Nat.one_mul] at e0 e1 e2;clear p l f j r m;generalize je (aT d) (ks.getD 0 (ay [])) (ks.getD 1 (ay [])) dep=R at*;go_enter func140,ntmps140
 go_wp2_with fail
 have D:Hid (∀W,yW w W->Calls yP 153 #[gV #[bV p0,sV p1,lV s x v],gV #[bV q0,sV q1,lV y A z],iV .i64 (dep:Int)] W fun e w1=>∃u,e=rV (pV u)/\Hid (tL w R u w1)):=fun W b=>(q.out W b).mono fun e w1 h=>yf b h
 clear q;go_region_with (go_at_call 153;refine(D.out _ (by first|exact(Q1 _ _).alloc (QU _) _ |exact((Q1 _ _).alloc (QU _) _).drew)).mono ?_;rintro e1 w1 ⟨u,rfl,C⟩)
 all_goals
  go_wp2_with fail
  go_ret
  exact Df C.out
theorem Md(d:Nat)(p:Ha d)(w S)(t:yB)(a)(c:Nat)(ks:List Tree)(f:List Value)(dep:Nat)(bl:Bool)(l:gC w S (lV a 17 c) ks.length f)(o:ks.length=17)(k:∀i,i<ks.length->aY d w S ((f.drop (3*i)).take 3) (ks.getD i (ay [])))(j:dep+d+1<=4096):
 Calls yP 140 #[gV #[bV true,sV t,lV a 17 c],iV .i64 (dep:Int),bV bl] w (gZ w (gW (aT d) ks dep)):=by
 have g:Hid (∀W,yW w W->Calls yP 154 #[lV a 17 c,iV .i64 (dep:Int)] W (gZ W (gW (aT d) ks dep))):=fun W b=>p W S a c ks f dep (l.below b) o (fun i hi=>(k i hi).below b) j
 clear l k j;generalize gW (aT d) ks dep=R at*;have n:Hid (∀W,yW w W->Calls yP 154 #[lV a 17 c,iV .i64 (dep:Int)] W fun e w1=>∃u,e=rV (pV u)/\Hid (tL w R u w1)):=fun W b=>(g.out W b).mono fun e w1 h=>yf b h
 clear g;go_enter func140,ntmps140
 go_wp2_with fail
 refine(n.out _ ((Q1 _ _).alloc (QU _) _)).mono ?_;rintro e w1 ⟨u,rfl,m⟩;go_wp2_with fail
 go_ret
 exact Df m.out
theorem Mc:∀d,d<=7->Ac d:=by
 intro d;induction d with
 |zero=>
  intro _ w S v0 v1 v2 x dep bl i p;obtain⟨b,j,f,rfl⟩:=qP i;rcases kG i with⟨t,rfl,rfl,rfl,r⟩|⟨e,t,ks,k,q,_⟩
  ·exact De w t b j f dep bl
  ·omega
 |succ d ih=>
  intro u w S v0 v1 v2 x dep bl i p;have s:=ih (by omega);have m:=Ns d (by omega) s;obtain⟨b,j,f,rfl⟩:=qP i;rcases kG i with⟨t,rfl,rfl,rfl,r⟩|⟨e,t,ks,k,q,rfl,rfl,rfl,g,o,l⟩
  ·exact De w t b j f dep bl
  ·obtain rfl:e=d:=by omega
   obtain⟨a,c,h⟩:=g.slice;cases h
   have n:aT (e+1) (bH ks) dep bl=if ks.length=2/\bl=false then je (aT e) (ks.getD 0 (ay [])) (ks.getD 1 (ay [])) dep else if ks.length=17 then gW (aT e) ks dep else none:=rfl;rw[n];by_cases h2:ks.length=2/\bl=false
   ·obtain⟨h2,rfl⟩:=h2;rw[QX ⟨h2,rfl⟩];have:=Ma e (Lc e m (by omega)) w S t b f ks k dep (by rw[h2] at g⊢;exact g) h2 l (by omega);rw[<-h2] at this;exact this
   ·rw[QW h2];by_cases h17:ks.length=17
    ·rw[QX h17];have:=Md e (PW e m) w S t b f ks k dep bl (by rw[h17] at g⊢;exact g) h17 l (by omega);rw[<-h17] at this;exact this
    ·rw[QW h17];exact Mb w t b ks.length f dep bl h17 h2 o
theorem nL:∀a b,aF a b=aF b a
 | [],[]=>rfl
 | [],_::_=>rfl
 | _::_,[]=>rfl
 |x::a,y::b=>by
  simp only[aF]
  by_cases e:x=y
  ·rw[QX e,QX e.symm,nL a b]
  ·rw[QW e,QW (Ne.symm e)]
def aG:Nd->yL->yL
 | .nil,_=>[]
 | .unread _,_=>[]
 | .leaf h q v,p=>(Nd.leaf h q v).at p
 | .ext _ q k,p=>if aF q p=q.length then aG k (p.drop q.length) else []
 | .branch _ v ks,p=>match p with
  | []=>v
  |c::r=>aG (ks c.toNat) r
theorem Km(w)(g b:Nat)(t c f)(d:Nat)(bl:Bool)(B:bL w b t c f)(a:t.read):
 Calls yP 112 #[pV (qA g),pV (qA b),iV .i64 (d:Int),bV bl] w fun e w'=>e=rV (iV .i64 0)/\w'=w:=by
 have c0:=B.c0;have h:((t.kind:Int) != 0)=true:=by cases t<;>first|exact a.elim|rfl
 clear B a;generalize t.kind=K at*;go_enter func112,ntmps112
 go_wp2_with fail
 go_ret
 exact⟨rfl,rfl⟩
def cU(w:World)(g:Nat)(u:Option Addr)(r:yB)(d:Nat)(bl:Bool):Prop:=w.heap[g]? =some (.cells #[pV u,sV r,iV .i64 (d:Int),bV bl] 127 (0,0))
namespace cU
variable {w : World} {g : Nat} {u : Option Addr} {r : ByteArray} {d : Nat} {bl : Bool}
theorem lt(h:cU w g u r d bl):g<w.heap.size:=(Q0.1 h).1
theorem cells(h:cU w g u r d bl):w.cell? ⟨g,0,none⟩=some (pV u)/\w.cell? ⟨g,1,none⟩=some (sV r)/\w.cell? ⟨g,2,none⟩=some (iV .i64 (d:Int))/\w.cell? ⟨g,3,none⟩=some (bV bl):=
 ⟨by rw[Q5 w g 0 _ _ _ h];rfl,by rw[Q5 w g 1 _ _ _ h];rfl,by rw[Q5 w g 2 _ _ _ h];rfl,by rw[Q5 w g 3 _ _ _ h];rfl⟩
theorem free(h:cU w g u r d bl):w.frozen? ⟨g,0,none⟩=false/\w.frozen? ⟨g,1,none⟩=false/\w.frozen? ⟨g,2,none⟩=false/\w.frozen? ⟨g,3,none⟩=false:=by
 have hh:w.heap[g]? =_:=h;refine⟨?_,?_,?_,?_⟩<;>simp[World.frozen?,hh]
theorem set(h:cU w g u r d bl)(e c)(b:Nat)(a:Bool):cU ((((w.setCell ⟨g,0,none⟩ (pV e)).setCell ⟨g,1,none⟩ (sV c)).setCell ⟨g,2,none⟩ (iV .i64 (b:Int))).setCell ⟨g,3,none⟩ (bV a)) g e c b a:=by
 have h1:=Se w g 0 _ _ (pV e) h;have h2:=Se _ g 1 _ _ (sV c) h1;have h3:=Se _ g 2 _ _ (iV .i64 (b:Int)) h2;exact Se _ g 3 _ _ (bV a) h3
theorem other(h:cU w g u r d bl)(f:Nat)(i:g≠f)(a b c e):cU ((((w.setCell ⟨f,0,none⟩ a).setCell ⟨f,1,none⟩ b).setCell ⟨f,2,none⟩ c).setCell ⟨f,3,none⟩ e) g u r d bl:=by
 unfold cU;rw[Rc _ _ _ _ i,Rc _ _ _ _ i,Rc _ _ _ _ i,Rc _ _ _ _ i];exact h
theorem kept{w':World}(h:cU w g u r d bl)(k:w'.heap[g]? =w.heap[g]?):cU w' g u r d bl:=k.trans h
end cU
def rp(w:World)(n:Nat)(u:Option Addr)(r V:yL):Prop:=(u=none/\V=[])\/∃b t kid kids,u=some ⟨b,0,none⟩/\b<n/\bL w b t kid kids/\t.at r=V
def eU(w:World)(b:Nat)(a u:Option Addr):Prop:=w.heap[b]? =some (.cells #[pV a,pV u] 75 (0,0))
namespace eU
variable {w : World} {tb : Nat} {st u : Option Addr}
theorem lt(h:eU w tb st u):tb<w.heap.size:=(Q0.1 h).1
theorem c0(h:eU w tb st u):w.cell? ⟨tb,0,none⟩=some (pV st):=by rw[Q5 w tb 0 _ _ _ h];rfl
theorem c1(h:eU w tb st u):w.cell? ⟨tb,1,none⟩=some (pV u):=by rw[Q5 w tb 1 _ _ _ h];rfl
theorem free(h:eU w tb st u)(o:Nat):w.frozen? ⟨tb,o,none⟩=false:=by simp[World.frozen?,show w.heap[tb]? =_ from h]
theorem kept{w':World}(h:eU w tb st u)(k:w'.heap[tb]? =w.heap[tb]?):eU w' tb st u:=k.trans h
theorem set(h:eU w tb st u)(a):eU (w.setCell ⟨tb,1,none⟩ (pV a)) tb st a:=Se w tb 1 _ _ (pV a) h
end eU
def aC(k:yB):yL:=bZ k.data.toList
theorem gA(k):(aC k).length=2*k.size:=by unfold aC;rw[ow];simp
theorem ch(k):ak (aC k):=vL _
theorem rn(w)(i:Option Addr)(r:yL)(g:r.length=32)(T:az w):
 Calls yP 12 #[pV i,sV (str r)] w fun e w'=>∃tb u,e=rV (tV #[pV (qA tb),iV .i64 0])/\w.heap.size<=tb/\eU w' tb i u/\At w' (cl r) (fun x=>w.heap.size<=x/\x≠tb) (pV u)/\Below w.heap.size w w':=by
 have b:Hid (∀W,Below w.heap.size w W->Calls yP 30 #[sV (str r)] W (Made w (fun _=>False) (cl r))):=fun W d=>(AN W r (T.below d)).mono fun e w' h=>h.after d
 have h32:(((str r).size:Int) != 32)=false:=by rw[aH,g];rfl
 clear T g;generalize cl r=R at*;generalize str r=RS at*;go_enter func12,ntmps12
 go_wp2_with fail
 refine(b.out w (Q1 _ _)).mono ?_;rintro e w1 ⟨u1,rfl,c,f⟩;have j:Hid (At w1 R (fun x=>w.heap.size<=x/\x<w1.heap.size) (pV u1)/\Below w.heap.size w w1):=⟨c.cut.mono fun x a=>⟨a.1.elim (fun h=>h.elim) id,a.2⟩,f⟩
 clear c f b;go_wp2_with fail
 go_ret2
 obtain⟨g1,g2⟩:=j.out;exact⟨w1.heap.size,u1,rfl,g2.size,Rl _ _,(g1.mono fun x a=>⟨a.1,by omega⟩).below ((Q1 _ _).alloc (QU _) _),g2.alloc g2.size _⟩
theorem pM(w)(g:Nat)(i u t S)(d:eU w g i u)(b:At w t S (pV u))(c:aI t)(T:az w):
 Calls yP 38 #[pV (qA g)] w fun e w'=>e=rV (sV (str (bM t)))/\yW w w':=by
 have a:=aa (BP w t S u b c T);have t1:=d.c1;clear d b c T;generalize str (bM t)=R at*;go_enter func38,ntmps38
 go_wp2_with fail
 refine a.out.mono ?_;rintro e w1 ⟨rfl,f⟩;have h:=aa f;clear f a;go_wp2_with fail
 go_ret
 exact⟨rfl,h.out⟩
end Go.Proofs.YtiimkkahmpmhdaaGreatDoor
