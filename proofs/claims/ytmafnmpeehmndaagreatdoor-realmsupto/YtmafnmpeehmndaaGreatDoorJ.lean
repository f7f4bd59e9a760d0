import Derived.Test.YtmafnmpeehmndaaGreatDoorH
import Derived.Test.YtmafnmpeehmndaaGreatDoorI
open Go.Proofs.Tryz
open Go.Proofs.Tryz renaming prog→yP
open Go.Value renaming string→sV,pointer→pV,int→iV,slice→lV,bool→bV,tuple→tV,agg→gV
open Go.Ending renaming returned→rV
namespace Go.Proofs.YtmafnmpeehmndaaGreatDoor
open Go.RowKit
set_option maxRecDepth 100000
set_option maxHeartbeats 0
set_option linter.all false
def aX(p:yL):Nd->Nd
 | .leaf h q v=>if p=[] then .leaf h q v else dw (p++q) v
 | .ext h q k=>if p=[] then .ext h q k else gm (p++q) k
 | .nil=>if p=[] then .nil else gm p .nil
 | .unread h=>if p=[] then .unread h else gm p (.unread h)
 | .branch h v ks=>if p=[] then .branch h v ks else gm p (.branch h v ks)
def mG(t):aX [] t=t:=by cases t<;>simp[aX]
def lg{a b}(c:aw a)(d:aw b):aw (a++b):=fun x e=>(UA.1 e).elim (c x) (d x)
def Ba{p}{t:Nd}(c:aw p)(d:p.length+t.path.length<=80)(hs:t.some)(a:aO t):aO (aX p t):=by
 by_cases b:p=[]
 ·subst b;rw[mG];exact a
 ·cases t with
  |nil=>exact hs.elim
  |leaf h q v=>simp only[aX,Ui b];exact pA (lg c a.2.1) (by rw[Uq];exact d) a.2.2.2
  |ext h q k=>simp only[aX,Ui b];exact uG (lg c a.2.1) (by rw[Uq];exact d) a.2.2.2.1 a.2.2.2.2
  |unread h=>simp only[aX,Ui b];exact uG c (by have:(Nd.unread h).path.length=0:=rfl;omega) trivial a
  |branch h v ks=>simp only[aX,Ui b];exact uG c (by have:(Nd.branch h v ks).path.length=0:=rfl;omega) trivial a
def Made.mono{w S S' t e w'}(h:Made w S t e w')(hs:∀x,S x->S' x):Made w S' t e w':=by
 let⟨u,h1,h2,h3⟩:=h;exact⟨u,h1,h2.mono fun x a=>a.imp (hs x) id,h3⟩
def Made.after{w w0:World}{S t e w'}(a:yW w w0)(h:Made w0 S t e w'):Made w S t e w':=by
 let⟨u,h1,h2,h3⟩:=h;exact⟨u,h1,h2.mono fun x b=>b.imp id (Ut a.size),a.trans (h3.mono a.size)⟩
def QT(w t S u)(a:At w t S (pV u)):yC 114 #[sV ⟨#[]⟩,pV u] w (Made w S t):=by
 have b:yH (At w t (fun x=>S x\/w.heap.size<=x) (pV u)):=a.mono fun x c=>.inl c
 clear a;go_enter func114,ntmps114
 go_wp2
 go_ret
 exact⟨u,rfl,b.o,Un _ _⟩
def QU(w)(p h q v:yL)(hp:p≠[])(S u)(hn:aw p)(hl:p.length+q.length<=80)(hF:aO (.leaf h q v))(hA:At w (.leaf h q v) S (pV u))(T:aB w):
 yC 114 #[sV (ae p),pV u] w (Made w S (dw (p++q) v)):=by
 obtain⟨b,hu,hs,B⟩:=hA;cases hu
 have c0:yc w b 0 (i6 1):=B.c0;have c2:yc w b 2 (sV (ae q)):=B.c2;have c3:yc w b 3 (sV (ae v)):=B.c3;have A2:=B.lt;have he:(ae p).toList.isEmpty=false:=by rw[ke];simp[hp]
 have A0:=pA (lg hn hF.2.1) (by rw[Uq];exact hl) hF.2.2.2;have HL:yH (∀W,yW w W->yC 132 #[sV (ae p++ae q),sV (ae v)] W (Made w S (dw (p++q) v))):=fun W hW=>by
  rw[rh];exact(qh W (p++q) v ⟨.inl rfl,A0.2⟩ (ov _ _ _ A0.2.2.1 A0.2.2.2) (T.below hW)).mono fun e w' h=>(h.mono fun x hx=>hx.elim).after hW
 have A3:(ae p).size+(ae q).size<=80:=by rw[aN,aN];exact hl
 clear B A0 hF hp hn T;generalize ae p=P at*;generalize ae q=Q at*;generalize hV:ae v=V at*;go_enter func114,ntmps114
 go_wp2_with fail
 go_region_with (go_at_call 132;refine(HL.o _ (by first|exact Un _ _ |exact(Un _ _).drew)).mono ?_;rintro e1 w1 ⟨u1,rfl,A1⟩)
 all_goals
  have HF:yH _:=A1;clear A1;go_wp2
  go_ret
  exact⟨u1,rfl,HF.o⟩
def QV(w)(p h q:yL)(k)(hp:p≠[])(S u)(hn:aw p)(hl:p.length+q.length<=80)(hF:aO (.ext h q k))(hA:At w (.ext h q k) S (pV u))(T:aB w):
 yC 114 #[sV (ae p),pV u] w (Made w S (gm (p++q) k)):=by
 obtain⟨b,kp,S1,hu,hs,B,A2,hK⟩:=hA;cases hu
 obtain⟨uk,rfl⟩:=hK.ptr;have c0:yc w b 0 (i6 2):=B.c0;have c2:yc w b 2 (sV (ae q)):=B.c2;have c4:yc w b 4 (pV uk):=B.c4;have A3:=B.lt;have he:(ae p).toList.isEmpty=false:=by rw[ke];simp[hp]
 have A0:=uG (lg hn hF.2.1) (by rw[Uq];exact hl) hF.2.2.2.1 hF.2.2.2.2;have HL:yH (∀W,yW w W->yC 135 #[sV (ae p++ae q),pV uk] W (Made w S (gm (p++q) k))):=fun W hW=>by
  rw[rh];exact(zU W (p++q) k S1 uk (hK.below hW) ⟨.inl rfl,A0.2.1,A0.2.2.1,hF.2.2.2.2.lL⟩ (uN _ _ _ A0.2.2.1 hF.2.2.2.2) (T.below hW)).mono fun e w' h=>(h.mono fun x hx=>(A2 x hx).1).after hW
 have A4:(ae p).size+(ae q).size<=80:=by rw[aN,aN];exact hl
 clear B A0 hF hp hn T hK A2;generalize ae p=P at*;generalize ae q=Q at*;go_enter func114,ntmps114
 go_wp2_with fail
 go_region_with (go_at_call 135;refine(HL.o _ (by first|exact Un _ _ |exact(Un _ _).drew)).mono ?_;rintro e1 w1 ⟨u1,rfl,A1⟩)
 all_goals
  have HF:yH _:=A1;clear A1;go_wp2
  go_ret
  exact⟨u1,rfl,HF.o⟩
def GN(w p)(t:Nd)(h:p≠[])(S u)(g:aw p)(f:p.length<=80)(e:t.fY)(c:aO t)(a:At w t S (pV u))(T:aB w):
 yC 114 #[sV (ae p),pV u] w (Made w S (gm p t)):=by
 have j:=aa (zU w p t S u a ⟨.inl rfl,g,f,c.lL⟩ (uN _ _ _ f c) T);obtain⟨b,o,q,l,hs,B⟩:=a.ai (by cases t<;>first|exact e.elim|trivial);cases l
 have k:t.kind=0\/t.kind=3:=by cases t<;>first|exact e.elim|exact .inl rfl|exact .inr rfl
 have c0:=B.c0;have n:=B.lt;have m:(ae p).toList.isEmpty=false:=by rw[ke];simp[h]
 clear B c h g T a;generalize t.kind=K at*;generalize ae p=P at*;rcases k with rfl|rfl;all_goals
  go_enter func114,ntmps114
  go_wp2_with fail
  refine j.m ?_;rintro e1 w1 ⟨u1,rfl,d⟩;have i:yH _:=d;clear d;go_wp2
  go_ret
  exact⟨u1,rfl,i.o⟩
def xj(w p)(t:Nd)(S u)(d:aw p)(e:p.length+t.path.length<=80)(hs:t.some)(c:aO t)(b:At w t S (pV u))(T:aB w):
 yC 114 #[sV (ae p),pV u] w (Made w S (aX p t)):=by
 by_cases a:p=[]
 ·subst a;rw[mG];exact QT w t S u b
 ·cases t with
  |nil=>exact hs.elim
  |leaf h q v=>simp only[aX,Ui a];exact QU w p h q v a S u d e c b T
  |ext h q k=>simp only[aX,Ui a];exact QV w p h q k a S u d e c b T
  |unread h=>simp only[aX,Ui a];exact GN w p _ a S u d (by have:(Nd.unread h).path.length=0:=rfl;omega) trivial c b T
  |branch h v ks=>simp only[aX,Ui a];exact GN w p _ a S u d (by have:(Nd.branch h v ks).path.length=0:=rfl;omega) trivial c b T
def pH(u:Nat->Option Addr):Array Value:=((List.range 16).map (fun i=>Value.pointer (u i))).toArray
def gx(u:Nat->Option Addr)(d:Nat)(x:Option Addr):Nat->Option Addr:=fun i=>if i=d then x else u i
def eZ(w:World)(g:Nat)(u:Nat->Option Addr):Prop:=w.heap[g]? =some (.cells (pH u) 165 (0,0))
def BG(u:Nat->Option Addr):(pH u).size=16:=by simp[pH]
def xN(u:Nat->Option Addr)(i:Nat)(h:i<16):(pH u)[i]? =some (pV (u i)):=by
 unfold pH;rw[Vu,UK,List.getElem?_range h];rfl
def TH(u:Nat->Option Addr)(d:Nat)(x)(h:d<16):(pH u).setIfInBounds d (pV x)=pH (gx u d x):=by
 apply Vw;intro j;rw[Vi];by_cases a:d=j
 ·subst a;rw[Uj rfl,Uj (by rw[BG];exact h),xN _ _ h];simp[gx]
 ·rw[Ui a];by_cases b:j<16
  ·rw[xN _ _ b,xN _ _ b];simp[gx,Ne.symm a]
  ·rw[UF (by rw[BG];omega),UF (by rw[BG];omega)]
namespace eZ
variable {w : World} {g : Nat} {u : Nat → Option Addr}
def lt(h:eZ w g u):g<w.heap.size:=(Um.1 h).1
def cell(h:eZ w g u)(i:Nat)(hi:i<16):w.cell? ⟨g,i,none⟩=some (pV (u i)):=by rw[Ur w g i _ _ _ h,xN u i hi]
def free(h:eZ w g u)(o:Nat):w.frozen? ⟨g,o,none⟩=false:=by simp[World.frozen?,show w.heap[g]? =_ from h]
def set(h:eZ w g u)(d:Nat)(x)(a:d<16):eZ (w.setCell ⟨g,d,none⟩ (pV x)) g (gx u d x):=by
 unfold eZ;rw[Vo w g d _ _ _ h,TH u d x a]
def kept{w':World}(h:eZ w g u)(k:w'.heap[g]? =w.heap[g]?):eZ w' g u:=k.trans h
def made(w:World)(u:Nat->Option Addr):eZ (w.alloc (.cells (pH u) 165)) w.heap.size u:=UG _ _
def all(h:eZ w g u):yc w g 0 (pV (u 0))/\yc w g 1 (pV (u 1))/\yc w g 2 (pV (u 2))/\yc w g 3 (pV (u 3))/\yc w g 4 (pV (u 4))/\yc w g 5 (pV (u 5))/\yc w g 6 (pV (u 6))/\yc w g 7 (pV (u 7))/\yc w g 8 (pV (u 8))/\yc w g 9 (pV (u 9))/\yc w g 10 (pV (u 10))/\yc w g 11 (pV (u 11))/\yc w g 12 (pV (u 12))/\yc w g 13 (pV (u 13))/\yc w g 14 (pV (u 14))/\yc w g 15 (pV (u 15)):=⟨h.cell 0 (by omega),h.cell 1 (by omega),h.cell 2 (by omega),h.cell 3 (by omega),h.cell 4 (by omega),h.cell 5 (by omega),h.cell 6 (by omega),h.cell 7 (by omega),h.cell 8 (by omega),h.cell 9 (by omega),h.cell 10 (by omega),h.cell 11 (by omega),h.cell 12 (by omega),h.cell 13 (by omega),h.cell 14 (by omega),h.cell 15 (by omega)⟩
end eZ
def gJ(t:Nd)(p:yL):Nd:=match t with
 | .leaf _ _ v=>dw p v
 | .ext _ _ k=>aX p k
 |t=>t
def qu(p)(t:Nd)(h:t.some):(aX p t).some:=by
 by_cases a:p=[]
 ·subst a;rw[mG];exact h
 ·cases t<;>first|exact h.elim| (simp only[aX,Ui a];trivial)
def oq{t:Nd}(h:t.fY):t.some:=by cases t<;>first|exact h.elim|trivial
def Im{t:Nd}(h:t.fY):t.path=[]:=by cases t<;>first|exact h.elim|rfl
def ID{t:Nd}{p}(b:t.kind=1\/t.kind=2)(d:aw p)(c:p.length<=80)(a:aO t):aO (gJ t p):=by
 cases t with
 |nil=>rcases b with h|h<;>cases h
 |unread _=>rcases b with h|h<;>cases h
 |branch _ _ _=>rcases b with h|h<;>cases h
 |leaf h q v=>exact pA d c a.2.2.2
 |ext h q k=>exact Ba d (by rw[Im a.2.2.2.1];exact c) (oq a.2.2.2.1) a.2.2.2.2
def Dj(w)(t:Nd)(p S u)(hk:t.kind=1\/t.kind=2)(hn:aw p)(hl:p.length<=80)(hF:aO t)(hA:At w t S (pV u))(T:aB w):
 yC 149 #[pV u,sV (ae p)] w (Made w S (gJ t p)):=by
 cases t with
 |nil=>rcases hk with h|h<;>cases h
 |unread _=>rcases hk with h|h<;>cases h
 |branch _ _ _=>rcases hk with h|h<;>cases h
 |leaf h q v=>
  obtain⟨b,hu,hs,B⟩:=hA;cases hu
  have c0:yc w b 0 (i6 1):=B.c0;have c3:yc w b 3 (sV (ae v)):=B.c3;have HL:yH (yC 132 #[sV (ae p),sV (ae v)] w (Made w S (dw p v))):=
   (qh w p v ⟨.inl rfl,hn,hl,hF.2.2.2⟩ (ov _ _ _ hl hF.2.2.2) T).mono fun e w' h=>h.mono fun x hx=>hx.elim
  show yC 149 _ w (Made w S (dw p v));clear B hk hF hn T hl;generalize dw p v=R at*;generalize ae p=P at*;generalize ae v=V at*;go_enter func149,ntmps149
  go_wp2_with fail
  refine HL.m ?_;rintro e1 w1 ⟨u1,rfl,A0⟩;have HF:yH _:=A0;clear A0;go_wp2
  go_ret
  exact⟨u1,rfl,HF.o⟩
 |ext h q k=>
  obtain⟨b,kp,S1,hu,hs,B,A1,hK⟩:=hA;cases hu
  obtain⟨uk,rfl⟩:=hK.ptr;have c0:yc w b 0 (i6 2):=B.c0;have c4:yc w b 4 (pV uk):=B.c4;have HL:yH (yC 114 #[sV (ae p),pV uk] w (Made w S (aX p k))):=
   (xj w p k S1 uk hn (by rw[Im hF.2.2.2.1];exact hl) (oq hF.2.2.2.1) hF.2.2.2.2 hK T).mono fun e w' h=>h.mono fun x hx=>(A1 x hx).1
  show yC 149 _ w (Made w S (aX p k));clear B hk hF hn T hl hK A1;generalize aX p k=R at*;generalize ae p=P at*;go_enter func149,ntmps149
  go_wp2_with fail
  refine HL.m ?_;rintro e1 w1 ⟨u1,rfl,A0⟩;have HF:yH _:=A0;clear A0;go_wp2
  go_ret
  exact⟨u1,rfl,HF.o⟩
def aJ(ks:Nat->Nd)(d:Nat)(k:Nd):Nat->Nd:=fun i=>if i=d then k else ks i
def fQ(a:Nat->Nat->Prop)(d:Nat)(F:Nat->Prop):Nat->Nat->Prop:=fun i=>if i=d then F else a i
def dK(ks:Nat->Nd)(d:Nat)(k):aJ ks d k d=k:=by simp[aJ]
def e9(ks:Nat->Nd)(d:Nat)(k)(i:Nat)(h:i≠d):aJ ks d k i=ks i:=by simp[aJ,h]
def Kids.put{w w':World}{ks S u b}(h:Kids w ks S u b)(l:∀x,S x->x<w.heap.size->w'.heap[x]? =w.heap[x]?)
 (d:Nat) (k:Nd) (x:Option Addr) (F:Nat->Prop) (g:At w' k F (pV x)) (c:∀y,F y->S y/\∀i,i<16->i≠d->¬b i y):Kids w' (aJ ks d k) S (gx u d x) (fQ b d F):=by
 refine⟨fun i hi=>?_,fun i y hi a=>?_,fun i j y hi f h1 h2=>?_⟩
 ·by_cases e:i=d
  ·subst e;simp only[aJ,gx,fQ,U5];exact g
  ·simp only[aJ,gx,fQ,e,UT];exact(h.at_ i hi).kept fun y a=>l y (h.sub i y hi a)
 ·by_cases e:i=d
  ·subst e;simp only[fQ,U5] at a;exact(c y a).1
  ·simp only[fQ,e,UT] at a;exact h.sub i y hi a
 ·by_cases e:i=d
  ·by_cases e2:j=d
   ·omega
   ·subst e;simp only[fQ,U5,e2,UT] at h1 h2;exact((c y h1).2 j f e2 h2).elim
  ·by_cases e2:j=d
   ·subst e2;simp only[fQ,U5,e,UT] at h1 h2;exact((c y h2).2 i hi e h1).elim
   ·simp only[fQ,e,e2,UT] at h1 h2;exact h.jf i j y hi f h1 h2
def Kids.cut{w ks S u a}(h:Kids w ks S u a):Kids w ks S u (fun i x=>a i x/\x<w.heap.size):=
 ⟨fun i hi=>(h.at_ i hi).cut,fun i x hi c=>h.sub i x hi c.1,fun i j x hi b h1 h2=>h.jf i j x hi b h1.1 h2.1⟩
def Kids.none(w S):Kids w (fun _=>.nil) S (fun _=>none) (fun _ _=>False):=⟨fun _ _=>rfl,fun _ _ _ h=>h.elim,fun _ _ _ _ _ h=>h.elim⟩
def Kids.mono{w ks S S' u a}(h:Kids w ks S u a)(hs:∀x,S x->S' x):Kids w ks S' u a:=
 ⟨h.at_,fun i x hi b=>hs x (h.sub i x hi b),h.jf⟩
def Kids.kept{w w':World}{ks S u a}(h:Kids w ks S u a)(b:∀x,S x->x<w.heap.size->w'.heap[x]? =w.heap[x]?):Kids w' ks S u a:=
 ⟨fun i hi=>(h.at_ i hi).kept fun y c=>b y (h.sub i y hi c),h.sub,h.jf⟩
def dX(n:Nd)(s:Nat):Nat->Nd:=if s<n.path.length then aJ (fun _=>.nil) (n.path.getD s 0).toNat (gJ n (n.path.drop (s+1))) else fun _=>.nil
def dF(n:Nd)(path v:yL)(s:Nat):Nat->Nd:=if s<path.length then aJ (dX n s) (path.getD s 0).toNat (dw (path.drop (s+1)) v) else dX n s
def fy(n:Nd)(path v:yL)(s:Nat):yL:=if s<path.length then(if s<n.path.length then [] else n.value) else v
def gi(n:Nd)(path v:yL)(s:Nat):Nd:=aX (path.take s) (dN (dF n path v s) (fy n path v s))
def LY(r)(n:Nat):(ae r).extract 0 n=ae (r.take n):=by
 apply Go.WideShapes.bytes_inj;rw[Lib.extract_data,eU,eU];simp
def da{a}(h:aw a)(n:Nat):aw (a.drop n):=fun x b=>h x (List.mem_of_mem_drop b)
def Fx{a}(h:aw a)(n:Nat):aw (a.take n):=fun x b=>h x (List.mem_of_mem_take b)
def kB{a}(h:aw a)(n:Nat):(a.getD n 0).toNat<16:=by
 by_cases b:n<a.length
 ·rw[Up,Uh b];exact h _ (Vc b)
 ·rw[Up,U9 (by omega)];decide
def vI(r)(n:Nat)(h:n<(ae r).size):(ae r)[n]=r.getD n 0:=by
 have a:n<r.length:=by rw[aN] at h;exact h
 rw[Up,Uh a];rfl
def sD(c:UInt8)(h:c.toNat<16):bits .and .u8 (c.toNat:Int) 15=(c.toNat:Int):=by
 have a:=qK c;have b:lo c=c:=by apply l9;rw[rQ];omega
 rw[b] at a;exact a
def IE{n:Nd}{path v:yL}{s}(c:n.kind=1\/n.kind=2)(d:aw path)(g:path.length<=80)(f:v.length<=160)(b:aO n)(e:aw n.path)(h:n.path.length<=80):∀i,aO (dF n path v s i):=by
 have a:∀i,aO (dX n s i):=fun i=>by
  unfold dX;split
  ·unfold aJ;split
   ·exact ID c (da e _) (by rw[Uu];omega) b
   ·trivial
  ·trivial
 intro i;unfold dF;split
 ·unfold aJ;split
  ·exact pA (da d _) (by rw[Uu];omega) f
  ·exact a i
 ·exact a i
def aO.Le{n}(a:aO n):n.value.length<=160:=by
 cases n with
 |nil=>exact UD _
 |unread _=>exact UD _
 |leaf _ _ _=>exact a.2.2.2
 |ext _ _ _=>exact UD _
 |branch _ _ _=>exact a.2.1
def DA{n}{path v:yL}{s}(b:v.length<=160)(a:aO n):(fy n path v s).length<=160:=by
 unfold fy;split
 ·split
  ·exact UD _
  ·exact a.Le
 ·exact b
def IF{n:Nd}{path v:yL}{s}(d:n.kind=1\/n.kind=2)(b:aw path)(e:path.length<=80)(c:v.length<=160)(a:aO n)(f:aw n.path)(g:n.path.length<=80):aO (gi n path v s):=
 Ba (Fx b s) (by show(path.take s).length+0<=80;rw[UN];omega) trivial (r6 (DA c a) fun i _=>IE d b e c a f g i)
end Go.Proofs.YtmafnmpeehmndaaGreatDoor
