import Derived.Test.YthpclfdpbmehgaaGreatDoorF
open Go.Proofs.Tryz
open Go.Proofs.Tryz renaming prog→yP
open Go.Value renaming string→sV,pointer→pV,int→iV,slice→lV,bool→bV,tuple→tV,agg→gV
open Go.Ending renaming returned→rV
namespace Go.Proofs.YthpclfdpbmehgaaGreatDoor
open Go.RowKit
set_option maxRecDepth 100000
set_option maxHeartbeats 0
set_option linter.all false
def bR:Nd->yL->yL->Nd
 | .nil,p,v=>dw p v
 | .unread h,_,_=>.unread h
 | .leaf h q x,p,v=>if q=p then dw p v else gi (.leaf h q x) p v (aF q p)
 | .ext h q k,p,v=>if aF q p=q.length then gm q (bR k (p.drop q.length) v) else gi (.ext h q k) p v (aF q p)
 | .branch _ x ks,p,v=>match p with
  | []=>dN ks v
  |c::r=>dN (aJ ks c.toNat (bR (ks c.toNat) r v)) x
def dD:Nd->yL->Prop
 | .nil,_=>True
 | .unread _,_=>False
 | .leaf _ _ _,_=>True
 | .ext _ q k,p=>aF q p=q.length->dD k (p.drop q.length)
 | .branch _ _ ks,p=>match p with
  | []=>True
  |c::r=>dD (ks c.toNat) r
def yl{k:Nd}{p v}(a:k.fY)(b:dD k p):(bR k p v).fY:=by
 cases k with
 |nil=>exact a.elim
 |unread _=>exact b.elim
 |leaf _ _ _=>exact a.elim
 |ext _ _ _=>exact a.elim
 |branch h x ks=>cases p<;>trivial
def uF:∀{t} {p v:yL},aO t->dD t p->aw p->p.length<=80->v.length<=160->aO (bR t p v):=by
 intro t;induction t with
 |nil=>intro p v _ _ b f d;exact pA b f d
 |unread h=>intro p v _ g;exact g.elim
 |leaf h q x=>
  intro p v a _ b f d;simp only[bR];split
  ·exact pA b f d
  ·exact IF (.inl rfl) b f d a a.2.1 a.2.2.1
 |ext h q k ih=>
  intro p v a g b f d;simp only[bR];split
  ·next e=>exact uG a.2.1 a.2.2.1 (yl a.2.2.2.1 (g e)) (ih a.2.2.2.2 (g e) (da b _) (by rw[Uu];omega) d)
  ·exact IF (.inr rfl) b f d a a.2.1 a.2.2.1
 |branch h x ks ih=>
  intro p v a g b f d;cases p with
  |nil=>exact r6 d a.2.2
  |cons c r=>
   have j:=b c (Uk ..);refine r6 a.2.1 fun i hi=>?_
   unfold aJ;split
   ·exact ih c.toNat (a.2.2 _ j) g (fun y l=>b y (Ul _ l)) (by simp at f;omega) d
   ·exact a.2.2 i hi
def oC(t:Nd):Prop:=∀(w:World) (S:Nat->Prop) (u:Option Addr) (p v:yL),At w t S (pV u)->aO t->dD t p->aw p->p.length<=80->v.length<=160->aB w->
 yC 106 #[pV u,sV (ae p),sV (ae v)] w (Made w S (bR t p v))
def KG:oC .nil:=by
 intro w S u p v i _ _ d a b T;cases i
 have g:yH (yC 136 #[sV (ae p),sV (ae v)] w (Made w S (dw p v))):=
  (qh w p v ⟨.inl rfl,d,a,b⟩ (ov _ _ _ a b) T).mono fun e w' h=>h.mono fun x j=>j.elim
 show yC 106 _ w (Made w S (dw p v));clear d T a b;generalize dw p v=R at*;generalize ae p=P at*;generalize ae v=V at*;go_enter func106,ntmps106
 go_wp2_with fail
 refine g.m ?_;rintro e1 w1 ⟨u1,rfl,c⟩;have f:yH _:=c;clear c;go_wp2
 go_ret
 exact⟨u1,rfl,f.o⟩
def KO(h x:yL)(ks:Nat->Nd)
 (e:∀(w:World) (S:Nat->Prop) (u:Option Addr) (p v:yL),At w (.branch h x ks) S (pV u)->aO (.branch h x ks)->dD (.branch h x ks) p->aw p->p.length<=80->v.length<=160->aB w->
  yC 137 #[pV u,sV (ae p),sV (ae v)] w (Made w S (bR (.branch h x ks) p v))):oC (.branch h x ks):=by
 intro w S u p v a d i g f j T;have l:=aa (e w S u p v a d i g f j T);obtain⟨b,q,o,n,hs,B,m⟩:=a;cases n
 have c0:=B.c0;clear g T f j B m e d i;generalize bR (.branch h x ks) p v=R at*;generalize ae p=P at*;generalize ae v=V at*;go_enter func106,ntmps106
 go_wp2_with fail
 refine l.m ?_;rintro e1 w1 ⟨u1,rfl,c⟩;have k:yH _:=c;clear c;go_wp2
 go_ret
 exact⟨u1,rfl,k.o⟩
def yO:∀(q p:yL),q.take (aF q p)=p.take (aF q p)
 | [],[]=>rfl
 | [],_::_=>rfl
 | _::_,[]=>rfl
 |x::q,y::p=>by
  simp only[aF]
  by_cases e:x=y
  ·rw[Uj e];simp[e,yO q p]
  ·rw[Ui e];rfl
def yQ:∀(q p),aF q p<q.length->aF q p<p.length->q.getD (aF q p) 0≠p.getD (aF q p) 0
 | [],_,h,_=>by simp at h
 | _::_,[],_,h=>by simp at h
 |x::q,y::p,h1,h2=>by
  simp only[aF] at h1 h2⊢
  by_cases e:x=y
  ·rw[Uj e] at h1 h2⊢
   simp only[List.getD_cons_succ]
   exact yQ q p (by simp at h1;omega) (by simp at h2;omega)
  ·rw[Ui e];simpa using e
def yR:∀(a b),aF a b=a.length->aF a b=b.length->a=b
 | [],[],_,_=>rfl
 | [],y::b,_,h=>by simp[aF] at h
 |x::a,[],h,_=>by simp[aF] at h
 |x::a,y::b,h1,h2=>by
  simp only[aF] at h1 h2
  by_cases e:x=y
  ·rw[Uj e] at h1 h2
   rw[e,yR a b (by simp at h1;omega) (by simp at h2;omega)]
  ·rw[Ui e] at h1;simp at h1
def mP:Nd->Prop
 | .nil=>True
 | .unread _=>True
 | .leaf _ _ v=>v≠[]
 | .ext _ p k=>p≠[]/\k.fY/\mP k
 | .branch _ _ ks=>∀i,i<16->mP (ks i)
def tC:∀(q r),aF q (q++r)=q.length
 | [],r=>by cases r<;>rfl
 |x::q,r=>by simp only[List.cons_append,aF,U5,UJ,tC q r]
def bU.all{w b t c a}(h:bU w b t c a):yc w b 5 (a 0)/\yc w b 6 (a 1)/\yc w b 7 (a 2)/\yc w b 8 (a 3)/\yc w b 9 (a 4)/\yc w b 10 (a 5)/\yc w b 11 (a 6)/\yc w b 12 (a 7)/\yc w b 13 (a 8)/\yc w b 14 (a 9)/\yc w b 15 (a 10)/\yc w b 16 (a 11)/\yc w b 17 (a 12)/\yc w b 18 (a 13)/\yc w b 19 (a 14)/\yc w b 20 (a 15):=⟨h.ck 0 (by omega),h.ck 1 (by omega),h.ck 2 (by omega),h.ck 3 (by omega),h.ck 4 (by omega),h.ck 5 (by omega),h.ck 6 (by omega),h.ck 7 (by omega),h.ck 8 (by omega),h.ck 9 (by omega),h.ck 10 (by omega),h.ck 11 (by omega),h.ck 12 (by omega),h.ck 13 (by omega),h.ck 14 (by omega),h.ck 15 (by omega)⟩
def FE(k:Int)(h p v b a c)(e:∀i,i<16->a i=c i):fG k h p v b a=fG k h p v b c:=by
 unfold fG;congr 2;exact Vz fun i hi=>e i (Vq.1 hi)
def At.kids{w h v ks S p}(g:At w (.branch h v ks) S (pV p)):
 ∃(b:Nat) (u:Nat->Option Addr) (d:Nat->Nat->Prop),p=some ⟨b,0,Option.none⟩/\S b/\bU w b (.branch h v ks) cN (fun i=>pV (u i))/\Kids w ks (fun x=>S x/\x≠b) u d:=by
 let⟨b,c,d,j,hs,B,h1,h2,h3⟩:=g;cases j
 have f:∀i,i<16->c i=pV ((fun i=>match c i with| pV a=>a| _=>Option.none) i):=fun i hi=>by
  let⟨u,e⟩:=(h3 i hi).ptr;show c i=pV (match c i with| pV a=>a| _=>Option.none);rw[e]
 refine⟨b,_,d,rfl,hs,?_,⟨fun i hi=>by rw[<-f i hi];exact h3 i hi,fun i x hi k=>h1 i x hi k,h2⟩⟩;unfold bU at B⊢;rw[B];congr 2;exact FE _ _ _ _ _ _ _ f
def Td(h x)(ks:Nat->Nd)(w S u)(v:yL)(f:At w (.branch h x ks) S (pV u))(a:aO (.branch h x ks))(c:v.length<=160)(T:aB w):
 yC 137 #[pV u,sV ⟨#[]⟩,sV (ae v)] w (Made w S (dN ks v)):=by
 obtain⟨b,U,l,m,hs,B,j⟩:=f.kids;cases m
 have d:yH (yC 143 #[gU U,sV (ae v)] w (Made w S (dN ks v))):=
  (wO w v ks _ U l j ⟨.inl rfl,c,fun i hi=>(a.2.2 i hi).lL⟩ (sq _ _ _ c a.2.2) T).mono fun e w' h=>h.mono fun x n=>n.1
 obtain⟨k0,k1,k2,k3,k4,k5,k6,k7,k8,k9,k10,k11,k12,k13,k14,k15⟩:=B.all;clear B j a c T f;generalize dN ks v=R at*;generalize ae v=V at*;unfold gU at d;go_enter func137,ntmps137
 go_wp2_with fail
 refine d.m ?_;rintro e1 w1 ⟨u1,rfl,g⟩;have k:yH _:=g;clear g;go_wp2
 go_ret
 exact⟨u1,rfl,k.o⟩
def Tc(h x)(ks:Nat->Nd)(c:UInt8)(r)(ih:oC (ks c.toNat))(w S u)(v:yL)(X:At w (.branch h x ks) S (pV u))(n:aO (.branch h x ks))(M:dD (ks c.toNat) r)(K:aw (c::r))(E:(c::r).length<=80)(N:v.length<=160)(T:aB w):
 yC 137 #[pV u,sV (ae (c::r)),sV (ae v)] w (Made w S (dN (aJ ks c.toNat (bR (ks c.toNat) r v)) x)):=by
 obtain⟨b,U,C,hu,hs,B,hK⟩:=X.kids;cases hu
 have j:=K c (Uk ..);have L:aw r:=fun y k=>K y (Ul _ k)
 have B3:r.length<=79:=by simp at E;omega
 have I:=hK.cut;have c3:=B.c3;have A3:=B.lt;have Q:yH (∀W,yW w W->yC 106 #[pV (U c.toNat),sV (ae r),sV (ae v)] W (Made W (fun x=>C c.toNat x/\x<w.heap.size) (bR (ks c.toNat) r v))):=fun W g=>
  ih W _ _ r v ((I.at_ c.toNat j).below g) (n.2.2 _ j) M L (by omega) N (T.below g)
 have H:∀i,i<16->aO (aJ ks c.toNat (bR (ks c.toNat) r v) i):=fun i hi=>by
  unfold aJ;split
  ·exact uF (n.2.2 _ j) M L (by omega) N
  ·exact n.2.2 i hi
 have HB:yH (∀W d m,Kids W (aJ ks c.toNat (bR (ks c.toNat) r v)) (fun x=>S x\/w.heap.size<=x) d m->yW w W->yC 143 #[gU d,sV (ae x)] W (Made w S (dN (aJ ks c.toNat (bR (ks c.toNat) r v)) x))):=fun W d m D g=>
  (wO W x _ _ d m D ⟨.inl rfl,n.2.1,fun i hi=>(H i hi).lL⟩ (sq _ _ _ n.2.1 H) (T.below g)).mono fun e w' h=>by
   obtain⟨u1,e1,e2,e3⟩:=h;exact⟨u1,e1,e2.mono fun x f=>f.elim id (fun h=>.inr (Ut g.size h)),g.trans (e3.mono g.size)⟩
 obtain⟨k0,k1,k2,k3,k4,k5,k6,k7,k8,k9,k10,k11,k12,k13,k14,k15⟩:=B.all;have A2:yc w b (5+c.toNat) (pV (U c.toNat)):=B.ck _ j;obtain⟨l,o⟩:∃R,R=ae (c::r):=⟨_,rfl⟩
 have A5:l.size=r.length+1:=by rw[o,aN];rfl
 have hp:0<l.size:=by omega
 have h0:l[0]'hp=c:=by subst o;rfl
 have f:l.extract 1 l.size=ae r:=by
  subst o;apply Go.WideShapes.bytes_inj;rw[Lib.extract_data,eU,eU];exact U4 (by rw[A5];simp)
 have he:l.toList.isEmpty=false:=by rw[o,ke];simp
 have B5:(0:Int)<(l.size:Int):=by omega
 have B6:=hp;have ha:=sD c j;have B4:(c.toNat:Int)<16:=by omega
 rw[<-f] at Q;rw[<-o];have q:=aa I;clear B hK n N T X o A5 f K E B3 M ih L H I;generalize dN (aJ ks c.toNat (bR (ks c.toNat) r v)) x=R at*;generalize ae v=V at*;obtain⟨a,t⟩:=yX (w.alloc (.cells #[pV (U 0),pV (U 1),pV (U 2),pV (U 3),pV (U 4),pV (U 5),pV (U 6),pV (U 7),pV (U 8),pV (U 9),pV (U 10),pV (U 11),pV (U 12),pV (U 13),pV (U 14),pV (U 15)] 131))
 have A1:eZ a w.heap.size U:=by rw[t];exact eZ.made w U
 have A6:a.heap.size=w.heap.size+1:=by rw[t];simp
 have J:yW w a:=by rw[t];exact(Un _ _).alloc (Ug _) _
 have A:=aa A6;have F:=aa A1;have z:=aa J;have B0:=aa t;have B1:=(J.cell (p:=⟨b,5+c.toNat,none⟩) A3).trans A2;clear A1 A6 J t;go_enter func137,ntmps137
 go_upto_region 5 with fail
 rw[<-B0.o];clear k0 k1 k2 k3 k4 k5 k6 k7 k8 k9 k10 k11 k12 k13 k14 k15 A2;go_cut [] (fun O=>∃d m,eZ O w.heap.size d/\Kids O (aJ ks c.toNat (bR (ks c.toNat) r v)) (fun x=>(S x\/w.heap.size<=x)/\x≠w.heap.size) d m/\yW w O)
 case first=>
  go_region_with (go_at_call 106;refine(Q.o _ (by first|exact z.o|exact z.o.drew)).mono ?_;rintro e1 w1 ⟨x2,rfl,Z,s⟩;have ca:yc w1 w.heap.size c.toNat (pV (U c.toNat)):=(s.cell (p:=⟨w.heap.size,c.toNat,none⟩) (show w.heap.size<a.heap.size by rw[A.o];omega)).trans (F.o.cell _ j);have fa:w1.frozen? ⟨w.heap.size,c.toNat,none⟩=false:=(s.frozen (p:=⟨w.heap.size,c.toNat,none⟩) (show w.heap.size<a.heap.size by rw[A.o];omega)).trans (F.o.free _);have A8:yH (At w1 (bR (ks c.toNat) r v) (fun x=>(C c.toNat x/\x<w.heap.size)\/a.heap.size<=x) (pV x2)/\eZ w1 w.heap.size U/\yW w w1):=⟨Z,F.o.kept (s.block _ (show w.heap.size<a.heap.size by rw[A.o];omega)),z.o.drew.trans (s.mono z.o.size)⟩;clear Z s)
  all_goals
   go_wp2
   go_meet
   obtain⟨g1,g2,g4⟩:=A8.o;have hz:=A.o;have B2:Kids w1 ks (fun x=>(S x\/w.heap.size<=x)/\x≠w.heap.size) U (fun i x=>C i x/\x<w.heap.size):=⟨fun i hi=>(q.o.at_ i hi).kept fun x f E=>g4.block x E,fun i x hi f=>⟨.inl (q.o.sub i x hi f).1,by omega⟩,q.o.jf⟩
   refine⟨gx U c.toNat x2,_,g2.set c.toNat x2 j,B2.put (fun x f _=>Uy _ _ _ _ f.2) c.toNat _ x2 _ (g1.kept fun x f _=>Uy _ _ _ _ (show x≠w.heap.size by omega)) (fun y k=>?_),g4.setCell (Ug _) _⟩;rcases k with k|k
   ·exact⟨⟨.inl (q.o.sub _ y j k).1,by omega⟩,fun i hi A4 h=>A4 (q.o.jf i c.toNat y hi j h k)⟩
   ·exact⟨⟨.inr (by omega),by omega⟩,fun i hi A4 h=>by have:=h.2;omega⟩
 case rest=>
  obtain⟨d,m,A0,D,G⟩:=hcut;obtain⟨k0,k1,k2,k3,k4,k5,k6,k7,k8,k9,k10,k11,k12,k13,k14,k15⟩:=A0.all;have d3:=(G.cell (p:=⟨b,3,none⟩) A3).trans c3;have P:yH (∀W,(∀x,W.heap[x]? =wc.heap[x]?)->yW w W->yC 143 #[gU d,sV (ae x)] W (Made w S R)):=fun W hk g=>
   HB.o W d m ((D.kept fun y _ _=>hk y).mono fun y k=>k.1) g
  have A7:=aa G;unfold gU at P;clear A0 D G B1 c3;go_wp2_with fail
  go_region_with (go_at_call 143;refine(P.o wc.drew (fun _=>rfl) A7.o.drew).mono ?_;rintro e1 w1 ⟨u1,rfl,Y⟩;have A9:yH _:=Y;clear Y)
  all_goals
   go_wp2
   go_ret
   exact⟨u1,rfl,A9.o⟩
def Te(h x)(ks:Nat->Nd)(j:∀i,i<16->oC (ks i))(w S u)(p v:yL)(a:At w (.branch h x ks) S (pV u))(b:aO (.branch h x ks))(g:dD (.branch h x ks) p)(d:aw p)(f:p.length<=80)(e:v.length<=160)(T:aB w):
 yC 137 #[pV u,sV (ae p),sV (ae v)] w (Made w S (bR (.branch h x ks) p v)):=by
 cases p with
 |nil=>exact Td h x ks w S u v a b e T
 |cons c r=>exact Tc h x ks c r (j _ (d c (Uk ..))) w S u v a b g d f e T
end Go.Proofs.YthpclfdpbmehgaaGreatDoor
