import Derived.Test.YtmafnmpeehmndaaGreatDoorQ
open Go.Proofs.Tryz
open Go.Proofs.Tryz renaming prog→yP
open Go.Value renaming string→sV,pointer→pV,int→iV,slice→lV,bool→bV,tuple→tV,agg→gV
open Go.Ending renaming returned→rV
namespace Go.Proofs.YtmafnmpeehmndaaGreatDoor
open Go.RowKit
set_option maxRecDepth 100000
set_option maxHeartbeats 0
set_option linter.all false
def cW:Nd->Prop
 | .nil=>True
 | .unread _=>True
 | .leaf h p v=>h=fX (Nd.leaf h p v).code
 | .ext h p k=>h=fX (Nd.ext h p k).code/\cW k
 | .branch h v ks=>h=fX (Nd.branch h v ks).code/\∀i,i<16->cW (ks i)
def bK:Nd->Prop
 | .ext _ _ k=>cW k
 | .branch _ _ ks=>∀i,i<16->cW (ks i)
 | _=>True
def cW.loose{t}(h:cW t):bK t:=by
 cases t with
 |ext _ _ _=>exact h.2
 |branch _ _ _=>exact h.2
 | _=>trivial
def CU{t}(a:bK t)(h:t.read->t.hash=fX t.code):cW t:=by
 cases t with
 |nil=>trivial
 |unread _=>trivial
 |leaf _ _ _=>exact h trivial
 |ext _ _ _=>exact⟨h trivial,a⟩
 |branch _ _ _=>exact⟨h trivial,a⟩
def cW.named{t}(h:cW t)(a:t.read):t.hash=fX t.code:=by
 cases t with
 |nil=>exact a.elim
 |unread _=>exact a.elim
 |leaf _ _ _=>exact h
 |ext _ _ _=>exact h.1
 |branch _ _ _=>exact h.1
def q9(p v):cW (dw p v):=rfl
def tq{p k}(h:cW k):cW (gm p k):=⟨rfl,h⟩
def vH{ks v}(h:∀i,i<16->cW (ks i)):cW (dN ks v):=⟨rfl,h⟩
def vG{p t}(h:cW t):cW (aX p t):=by
 by_cases a:p=[]
 ·subst a;rw[mG];exact h
 ·cases t with
  |nil=>simp only[aX,Ui a];exact tq trivial
  |leaf _ _ _=>simp only[aX,Ui a];exact q9 _ _
  |ext _ _ _=>simp only[aX,Ui a];exact tq h.2
  |unread _=>simp only[aX,Ui a];exact tq trivial
  |branch _ _ _=>simp only[aX,Ui a];exact tq h
def CT{n:Nd}{p v s}(b:n.kind=1\/n.kind=2)(h:bK n):cW (gi n p v s):=by
 have c:∀q,cW (gJ n q):=fun q=>by
  cases n with
  |leaf _ _ _=>exact q9 _ _
  |ext _ _ _=>exact vG h
  | _=>rcases b with h|h<;>cases h
 have a:∀i,cW (dX n s i):=fun i=>by
  unfold dX;split
  ·unfold aJ;split
   ·exact c _
   ·trivial
  ·trivial
 refine vG (vH fun i _=>?_);unfold dF;split
 ·unfold aJ;split
  ·exact q9 _ _
  ·exact a i
 ·exact a i
def yv:∀{t p v},bK t->dD t p->cW (bR t p v):=by
 intro t;induction t with
 |nil=>intro p v _ _;exact q9 _ _
 |unread _=>intro p v _ h;exact h.elim
 |leaf h q x=>
  intro p v a _;simp only[bR];split
  ·exact q9 _ _
  ·exact CT (.inl rfl) a
 |ext h q k ih=>
  intro p v a b;simp only[bR];split
  ·next e=>exact tq (ih a.loose (b e))
  ·exact CT (.inr rfl) a
 |branch h x ks ih=>
  intro p v a b;cases p with
  |nil=>exact vH a
  |cons c r=>
   have d:=a;refine vH fun i hi=>?_
   unfold aJ;split
   ·next e=>subst e;exact ih _ (d _ hi).loose b
   ·exact d i hi
def QG(a:Tree->Nat->Bool->Option Nd)(H:sH a)(i:∀x dep bl n,bN 6 x=true->a x dep bl=some n->bK n)(x:Tree)(dep:Nat)(bl:Bool)(k)(h:jC a x dep bl=some k):cW k:=by
 let⟨h1,h2,_⟩:=xf a H x dep bl k h;by_cases g:∃t,x=ak t
 ·obtain⟨t,rfl⟩:=g;rw[xe] at h;split at h
  ·cases h;trivial
  ·split at h
   ·cases h
   ·cases h;trivial
 ·rw[xg a x dep bl (fun t e=>g ⟨t,e⟩)] at h;split at h
  ·cases h
  ·next hb=>
   have h0:ff x=0:=Va fun h=>hb (.inl h)
   have c:bN 6 x=true:=by
    unfold ff at h0;by_cases b:bN 6 x=true
    ·exact b
    ·rw[Ui b] at h0;cases h0
   have d:=(H x dep bl k c h).2.1;refine CU (i x dep bl k c h) fun f=>?_
   have j:js k:=by
    have:=h2.aK;cases k with
    |nil=>exact f.elim
    |unread _=>exact f.elim
    |leaf _ _ _=>exact this.1
    |ext _ _ _=>exact this.1
    |branch _ _ _=>exact this.1
   have:=j.short d.hash;unfold fX;rw[Ui (by omega),d.hash]
def Ps:∀(d:Nat) (x:Tree) (dep:Nat) (bl:Bool) (n),bN 6 x=true->a6 d x dep bl=some n->bK n:=by
 intro d;induction d with
 |zero=>intro x dep bl n _ h;cases h
 |succ d ih=>
  intro x dep bl n e h;have b:=QG (a6 d) (wK d) ih;cases x with
  |slice ks es=>
   have c:a6 (d+1) (.slice ks es) dep bl=if ks.length=2/\bl=false then jy (a6 d) (ks.getD 0 (ak [])) (ks.getD 1 (ak [])) dep else if ks.length=17 then iI (a6 d) ks dep else none:=rfl;rw[c] at h;split at h
   ·unfold jy at h;split at h
    ·split at h
     ·cases h
     ·split at h
      ·split at h
       ·split at h
        ·cases h
        ·cases h;trivial
       ·cases h
      ·split at h
       ·next k a=>
        split at h
        ·cases h
        ·cases h;exact b _ _ _ k a
       ·cases h
    ·cases h
   ·split at h
    ·unfold iI at h;split at h
     ·split at h
      ·cases h
      ·split at h
       ·next hc=>
        cases h
        intro i hi;let⟨k,a⟩:=xd (a6 d) ks dep 16 hc.1 i hi;simp only[a,Option.getD_some];exact b _ _ _ k a
       ·cases h
     ·cases h
    ·cases h
  | _=>cases h
def Qd(h){t}(a:bK t):bK (t.gY h):=by cases t<;>exact a
def Nv{h t dep bl n}(hr:gS h t dep bl=.ok n):bK n/\(0<dep->cW n):=by
 let⟨_,A1,hh,hc,ht,_⟩:=oT hr;unfold gS at hr;rw[Ui (fun h=>h ht)] at hr;by_cases h2:0<dep/\t.length<32
 ·rw[Uj h2] at hr;cases hr
 ·rw[Ui h2] at hr;cases hd:dC t with
  |error c=>rw[hd] at hr;cases hr
  |ok x=>
   rw[hd] at hr;let⟨_,hf,_⟩:=Br t x hd;have A0:CY h (a6 6 x dep bl)=.ok n:=hr;cases hn:a6 6 x dep bl with
   |none=>rw[hn] at A0;cases A0
   |some m=>
    rw[hn] at A0;cases A0
    have hl:=Qd h (Ps 6 x dep bl m hf hn);refine⟨hl,fun hd=>CU hl fun _=>?_⟩;rw[hh,hc];unfold fX;rw[Uj (by omega),ht]
def Ey{G t t1 dep bl}(h:dG G t dep bl=.ok t1):(bK t->bK t1)/\(0<dep->cW t->cW t1):=by
 cases t with
 |unread h0=>
  have h':iC G h0 dep bl=.ok t1:=h;unfold iC at h';split at h'
  ·cases h'
  ·let⟨h1,h2⟩:=Nv h';exact⟨fun _=>h1,fun hd _=>h2 hd⟩
 | _=>cases h;exact⟨id,fun _=>id⟩
def OX(G:yB->Option yB):∀(f:Nat) (t) (p) (dep:Nat) (bl:Bool),aA t dep->aw p->(bK t->bK (dc G f t p dep bl).1)/\(0<dep->cW t->cW (dc G f t p dep bl).1):=by
 intro f;induction f with
 |zero=>intro t p dep bl _ _;exact⟨id,fun _=>id⟩
 |succ f ih=>
  intro t p dep bl hK hp;show(bK t->bK (lG t _ (dG G t dep bl)).1)/\(0<dep->cW t->cW (lG t _ (dG G t dep bl)).1)
  cases hr:dG G t dep bl with
  |error c=>exact⟨id,fun _=>id⟩
  |ok t1=>
   let⟨h1,_⟩:=nf hK hr;let⟨hl,ht⟩:=Ey hr;suffices hs:(bK t1->bK (gj (dc G f) t1 p dep).1)/\(0<dep->cW t1->cW (gj (dc G f) t1 p dep).1) from⟨fun h=>hs.1 (hl h),fun hd h=>hs.2 hd (ht hd h)⟩
   cases t1 with
   |nil=>exact⟨id,fun _=>id⟩
   |unread _=>exact⟨id,fun _=>id⟩
   |leaf _ _ _=>exact⟨id,fun _=>id⟩
   |ext h q k=>
    simp only[gj];by_cases e:aF q p=q.length
    ·rw[Uj e];have hq:=Vt.2 h1.bB.1;have hi:=(ih k (p.drop q.length) (dep+q.length) true (fq h1) (da hp _)).2 (by omega);have ho:=wG G f k (p.drop q.length) (dep+q.length) true (fq h1) (da hp _);refine⟨fun hl=>hi hl,fun _ ht=>⟨?_,hi ht.2⟩⟩;unfold Nd.code;rw[Az h q k _ ho.ref];exact ht.1
    ·rw[Ui e];exact⟨id,fun _=>id⟩
   |branch h v ks=>
    cases p with
    |nil=>exact⟨id,fun _=>id⟩
    |cons c r=>
     have hc:=hp c (Uk ..);have A1:aw r:=fun y hy=>hp y (Ul _ hy)
     have hi:=(ih (ks c.toNat) r (dep+1) false (dA h1 _ hc) A1).2 (by omega);have ho:=wG G f (ks c.toNat) r (dep+1) false (dA h1 _ hc) A1;have A0:(∀i,i<16->cW (ks i))->∀i,i<16->cW (aJ ks c.toNat (dc G f (ks c.toNat) r (dep+1) false).1 i):=fun hl i A2=>by
      by_cases e:i=c.toNat
      ·subst e;rw[dK];exact hi (hl _ hc)
      ·rw[e9 _ _ _ _ e];exact hl i A2
     refine⟨fun hl=>A0 hl,fun _ ht=>⟨?_,A0 ht.2⟩⟩;unfold Nd.code;rw[AA h v ks _ _ ho.ref];exact ht.1
def uw{b h}(a:ew b h=true):∃p,b[aZ b h]? =some p/\(p.1.toList == h.toList)=true:=by
 unfold ew at a;cases hp:b[aZ b h]? with
 |none=>rw[hp] at a;cases a
 |some p=>rw[hp] at a;exact⟨p,rfl,a⟩
def OG(w:World)(b:Nat)(h:yB)(hs:h.size≠32):
 yC 118 #[pV (qA b),sV h] w fun e w'=>e=rV (tV #[sV ⟨#[]⟩,i6 2])/\w'=w:=by
 have a:¬(h.size:Int)=32:=by omega
 clear hs;go_enter func118,ntmps118
 go_wp2
 go_ret2
 exact⟨rfl,rfl⟩
def OH(base:Nat)(w)(b:Nat)(vs)(sh:Nat->List (yB×yB))(S:bZ base w b vs sh)(h:yB)(h32:h.size=32)(hs:0<h.size)(hd:qV (sh (h[0]'hs).toNat) h)(hn:(sh (h[0]'hs).toNat).length<4000000000000):
 yC 118 #[pV (qA b),sV h] w fun e w'=>
  ((ew (sh (h[0]'hs).toNat) h=false/\e=rV (tV #[sV ⟨#[]⟩,i6 9]))\/(ew (sh (h[0]'hs).toNat) h=true/\∃p,(sh (h[0]'hs).toNat)[aZ (sh (h[0]'hs).toNat) h]? =some p/\e=rV (tV #[sV p.2,i6 0])))/\∃n,w'=w.drewN n:=by
 have hc:(h[0]'hs).toNat<256:=(h[0]'hs).toNat_lt;obtain⟨a,cap,A4,SH⟩:=S.lK _ hc;have A0:=aa (yV w b h hs a cap _ SH hd (by omega));have A3:yH (ew (sh (h[0]'hs).toNat) h=true->∃p,(sh (h[0]'hs).toNat)[aZ (sh (h[0]'hs).toNat) h]? =some p/\(p.1.toList == h.toList)=true):=uw;have A1:=aa SH;have A8:(h.size:Int)=32:=by omega
 have A9:(0:Int)<(h.size:Int):=by omega
 clear S SH hd A4 h32;generalize ew (sh (h[0]'hs).toNat) h=hit at*;generalize aZ (sh (h[0]'hs).toNat) h=k at*;generalize hcc:(h[0]'hs).toNat=c at*;have A5:(c:Int)<256:=by omega
 go_enter func118,ntmps118
 go_wp2_with fail
 refine A0.m ?_;rintro e w1 ⟨rfl,n1,rfl⟩;cases hit
 ·clear A0;go_wp2
  go_ret2
  exact⟨rfl,n1,rfl⟩
 ·obtain⟨p,hp,_⟩:=A3.o rfl;have A7:=(Ux.1 hp).1;obtain⟨g,rfl,c1,c2⟩:=A1.o.at_ k p hp;have d0:(w.drewN n1).cell? ⟨b,c,none⟩=_:=A1.o.cell;have d2:yc (w.drewN n1) g (k*2+1) (sV p.2):=c2;have HP:=aa hp;have A6:(k:Int)<((sh c).length:Int):=by omega
  have A2:yH (∃n,(w.drewN n1).drew=w.drewN n):=⟨n1+1,rfl⟩
  clear hp c1 c2;generalize (sh c).length=M at*;generalize w.drewN n1=w1 at*;go_wp2
  go_region
  all_goals
   go_wp2
   go_ret2
   exact⟨⟨p.1,p.2,HP.o,rfl⟩,A2.o⟩
def OA(w:World)(b:Nat)(h:yB)(hs:h.size≠32):
 yC 40 #[pV (qA b),sV h] w fun e w'=>e=rV (i6 2)/\w'=w:=by
 have a:¬(h.size:Int)=32:=by omega
 clear hs;go_enter func40,ntmps40
 go_wp2
 go_ret
 exact⟨rfl,rfl⟩
def aU.Pg{T}(w)(n:Nat):aU T w (w.drewN n):=⟨rfl,rfl,rfl,Ug _,fun _ _ _=>rfl⟩
def OB(base:Nat)(w)(b:Nat)(f)(d:Nat->List (yB×yB))(S:bZ base w b f d)(h:yB)(h32:h.size=32)(hs:0<h.size)(l:qV (d (h[0]'hs).toNat) h)(x:(d (h[0]'hs).toNat).length<4000000000000):
 yC 40 #[pV (qA b),sV h] w fun e w'=>
  (ew (d (h[0]'hs).toNat) h=false/\e=rV (i6 9)/\∃n,w'=w.drewN n)\/(ew (d (h[0]'hs).toNat) h=true/\e=rV (i6 0)/\
   (∃v',bZ base w' b (bd f (h[0]'hs).toNat v') (aP d (h[0]'hs).toNat ((d (h[0]'hs).toNat).eraseIdx (aZ (d (h[0]'hs).toNat) h)))/\v'.ownBlock=(f (h[0]'hs).toNat).ownBlock)/\aU (fun k=>k=b\/(f (h[0]'hs).toNat).ownBlock=some k) w w'):=by
 have j:(h[0]'hs).toNat<256:=(h[0]'hs).toNat_lt;obtain⟨a,cap,y,i⟩:=S.lK _ j;have g:=aa (yV w b h hs a cap _ i l (by omega));have r:yH (ew (d (h[0]'hs).toNat) h=true->aZ (d (h[0]'hs).toNat) h<(d (h[0]'hs).toNat).length):=He;have s:=aa S;have A:(h.size:Int)=32:=by omega
 have B:(0:Int)<(h.size:Int):=by omega
 clear S i l y h32;generalize ew (d (h[0]'hs).toNat) h=hit at*;generalize aZ (d (h[0]'hs).toNat) h=k at*;generalize hcc:(h[0]'hs).toNat=c at*;have z:(c:Int)<256:=by omega
 go_enter func40,ntmps40
 go_wp2_with fail
 refine g.m ?_;rintro e w1 ⟨rfl,n1,rfl⟩;cases hit
 ·clear g;go_wp2
  go_ret
  exact⟨rfl,n1,rfl⟩
 ·have v:=r.o rfl;have t:yH (yC 83 #[pV (qA b),iV .u8 c,i6 k] (w.drewN n1) fun e w'=>e=rV (tV #[])/\(∃v',bZ base w' b (bd f c v') (aP d c ((d c).eraseIdx k))/\v'.ownBlock=(f c).ownBlock)/\aU (fun q=>q=b\/(f c).ownBlock=some q) (w.drewN n1) w'):=LJ base (w.drewN n1) b f d (s.o.same (w':=w.drewN n1) rfl) c k j v x;have u:yH (aU (fun q=>q=b\/(f c).ownBlock=some q) w (w.drewN n1)):=aU.Pg w n1;generalize w.drewN n1=w1 at*;go_wp2_with fail
  refine t.m ?_;rintro e w2 ⟨rfl,m,o⟩;have p:yH ((∃v',bZ base w2 b (bd f c v') (aP d c ((d c).eraseIdx k))/\v'.ownBlock=(f c).ownBlock)/\aU (fun q=>q=b\/(f c).ownBlock=some q) w w2):=⟨m,u.o.trans o⟩
  clear m o;go_wp2
  go_ret
  exact⟨rfl,p.o⟩
def OE(base:Nat)(w)(b:Nat)(a)(d:Nat->List (yB×yB))(S:bZ base w b a d)(h t:yB)(h32:h.size=32)(hs:0<h.size)(p:t.size<=4096)(f:qV (d (h[0]'hs).toNat) h)(g:(d (h[0]'hs).toNat).length<4000000000000)(n:base<=w.heap.size):
 yC 41 #[pV (qA b),sV h,sV t] w fun e w'=>e=rV (i6 0)/\
  (∃v',bZ base w' b (bd a (h[0]'hs).toNat v') (aP d (h[0]'hs).toNat (kh (d (h[0]'hs).toNat) h t))/\jY w (a (h[0]'hs).toNat) v')/\aU (fun k=>k=b\/(a (h[0]'hs).toNat).ownBlock=some k) w w':=by
 have m:yH (yC 84 #[pV (qA b),sV h,sV t] w fun e w'=>e=rV (tV #[])/\
  (∃v',bZ base w' b (bd a (h[0]'hs).toNat v') (aP d (h[0]'hs).toNat (kh (d (h[0]'hs).toNat) h t))/\jY w (a (h[0]'hs).toNat) v')/\aU (fun k=>k=b\/(a (h[0]'hs).toNat).ownBlock=some k) w w'):=Ea base w b a d S h t hs f g n
 have o:(h.size:Int)=32:=by omega
 have q:¬(4096:Int)<(t.size:Int):=by omega
 clear S f g h32;generalize (h[0]'hs).toNat=c at*;go_enter func41,ntmps41
 go_wp2_with fail
 refine m.m ?_;rintro e w1 ⟨rfl,i,j⟩;have l:yH ((∃v',bZ base w1 b (bd a c v') (aP d c (kh (d c) h t))/\jY w (a c) v')/\aU (fun k=>k=b\/(a c).ownBlock=some k) w w1):=⟨i,j⟩
 clear i j;go_wp2
 go_ret
 exact⟨rfl,l.o⟩
def OD(w:World)(b:Nat)(h t:yB)(hs:h.size≠32):
 yC 41 #[pV (qA b),sV h,sV t] w fun e w'=>e=rV (i6 2)/\w'=w:=by
 have a:¬(h.size:Int)=32:=by omega
 clear hs;go_enter func41,ntmps41
 go_wp2
 go_ret
 exact⟨rfl,rfl⟩
def OC(w:World)(b:Nat)(h t:yB)(hs:h.size=32)(c:4096<t.size):
 yC 41 #[pV (qA b),sV h,sV t] w fun e w'=>e=rV (i6 1)/\w'=w:=by
 have a:(h.size:Int)=32:=by omega
 have d:(4096:Int)<(t.size:Int):=by omega
 clear hs;go_enter func41,ntmps41
 go_wp2
 go_ret
 exact⟨rfl,rfl⟩
def bZ.below{base w w' b e d}(S:bZ base w b e d)(h:yW w w'):bZ base w' b e d:=
 ⟨(h.block b (Um.1 S.ai).1).trans S.ai,fun c a=>cM (S.own c a) fun g f=>h.block g ((S.own c a).lt g f).2,S.sep,S.fL⟩
def aU.iP{T}{w w':World}(h:yW w w'):aU T w w':=⟨h.os,h.tape,h.output,h.size,fun q a _=>h.block q a⟩
def Ro(t):(ag t).size=32:=dz _
def jS(t):0<(ag t).size:=by rw[Ro];decide
def Ox(w:World)(b:Nat)(t:yB)(a:4096<t.size):
 yC 116 #[pV (qA b),sV t] w fun e w'=>e=rV (tV #[sV ⟨#[]⟩,i6 1])/\w'=w:=by
 have c:(4096:Int)<(t.size:Int):=by omega
 go_enter func116,ntmps116
 go_wp2
 go_ret2
 exact⟨rfl,rfl⟩
def Oy(base:Nat)(w)(b:Nat)(a)(d:Nat->List (yB×yB))(S:bZ base w b a d)(T:aB w)(t:yB)(v:t.size<=4096)(j:qV (d ((ag t)[0]'(jS t)).toNat) (ag t))(l:(d ((ag t)[0]'(jS t)).toNat).length<4000000000000)(s:base<=w.heap.size):
 yC 116 #[pV (qA b),sV t] w fun e w'=>e=rV (tV #[sV (ag t),i6 0])/\
  (∃v',bZ base w' b (bd a ((ag t)[0]'(jS t)).toNat v') (aP d ((ag t)[0]'(jS t)).toNat (kh (d ((ag t)[0]'(jS t)).toNat) (ag t) t))/\jY w (a ((ag t)[0]'(jS t)).toNat) v')/\aU (fun k=>k=b\/(a ((ag t)[0]'(jS t)).toNat).ownBlock=some k) w w':=by
 have p:=aa (ja t (by unfold maxLen;omega) w T);have q:yH (∀W,yW w W->yC 84 #[pV (qA b),sV (ag t),sV t] W fun e w'=>e=rV (tV #[])/\
  (∃v',bZ base w' b (bd a ((ag t)[0]'(jS t)).toNat v') (aP d ((ag t)[0]'(jS t)).toNat (kh (d ((ag t)[0]'(jS t)).toNat) (ag t) t))/\jY w (a ((ag t)[0]'(jS t)).toNat) v')/\aU (fun k=>k=b\/(a ((ag t)[0]'(jS t)).toNat).ownBlock=some k) w w'):=fun W f=>
  (Ea base W b a d (S.below f) (ag t) t (jS t) j l (Ut s f.size)).mono fun e w' ⟨h1,⟨v',h2,h4⟩,h3⟩=>⟨h1,⟨v',h2,fun g u=>(h4 g u).imp id (Ut f.size)⟩,(aU.iP f).trans h3⟩
 have x:¬(4096:Int)<(t.size:Int):=by omega
 clear S j l T;generalize ((ag t)[0]'(jS t)).toNat=c at*;generalize ag t=hh at*;go_enter func116,ntmps116
 go_wp2_with fail
 refine p.m ?_;rintro e w1 ⟨rfl,h⟩;have i:=q.o w1 h;have r:=aa i;clear h i;go_wp2_with fail
 refine r.m ?_;rintro e w2 ⟨rfl,m,n⟩;have o:yH ((∃v',bZ base w2 b (bd a c v') (aP d c (kh (d c) hh t))/\jY w (a c) v')/\aU (fun k=>k=b\/(a c).ownBlock=some k) w w2):=⟨m,n⟩
 clear m n;go_wp2
 go_ret2
 exact⟨rfl,o.o⟩
def ll(a:Nat->List (yB×yB)):Nat->Nat
 | 0=>0
 |c+1=>ll a c+(a c).length
def Ai (sh : Nat → List (ByteArray × ByteArray)) : ∀ c d, c ≤ d → ll sh c ≤ ll sh d
  | c, 0, h => by obtain rfl : c = 0 := by omega
                  exact Nat.le_refl _
  | c, d + 1, h => by
    by_cases e : c = d + 1
    · rw [e]; exact Nat.le_refl _
    · have := Ai sh c d (by omega)
      show _ ≤ ll sh d + (sh d).length
      omega
def Oz(w):yC 9 #[] w fun e w'=>e=rV (pV (qA w.heap.size))/\w'=w.alloc (.cells (jj fun _=>lV none 0 0) 71):=by
 go_enter func9,ntmps9
 go_wp2
 go_ret
 exact⟨rfl,rfl⟩
def dg(a:Nat->List (yB×yB)):Nat->List (yB×yB)
 | 0=>[]
 |c+1=>dg a c++a c
def BH(a:Nat->List (yB×yB)):∀c,(dg a c).length=ll a c
 | 0=>rfl
 |c+1=>by show(dg a c++a c).length=ll a c+_;rw[Uq,BH a c]
def sF.below{w W b c a cap d}(S:sF w b c a cap d)(h:yW w W):sF W b c a cap d:=
 ⟨eg h S.cell,fun k p f=>by let⟨g,e,c1,c2⟩:=S.at_ k p f;exact⟨g,e,eg h c1,eg h c2⟩⟩
def OF(base:Nat)(w)(b:Nat)(vs)(d:Nat->List (yB×yB))(S:bZ base w b vs d)(D:ll d 256<4000000000000):
 yC 39 #[pV (qA b)] w fun e w'=>(∃v,e=rV v/\w'.ownsRow w.heap.size 9 1 v (ll d 256) (jz (dg d 256)))/\yW w w':=by
 have J:yH (∀c,c<256->∃a cap,(∀W,yW w W->sF W b c a cap (d c))/\ll d c+(d c).length<4000000000000):=fun c hc=>by
  obtain⟨a,cap,_,Y⟩:=S.lK c hc;have:=Ai d (c+1) 256 (by omega);exact⟨a,cap,fun W h=>Y.below h,Nat.lt_of_le_of_lt this D⟩
 have U:yH (∀c j p,(d c)[j]? =some p->jz (dg d c++(d c).take (j+1))=jz (dg d c++(d c).take j)++[sV p.1]):=fun c j p o=>by
  rw[VF,o];show List.map _ (dg d c++((d c).take j++[p]))=_;rw[<-UI,Vl];rfl
 have X:yH (∀c,jz (dg d c++(d c).take 0)=jz (dg d c)):=fun c=>by rw[List.take_zero,UU]
 have L:yH (∀c,jz (dg d c++(d c).take (d c).length)=jz (dg d (c+1))):=fun c=>by rw[VM];rfl
 obtain⟨i0,A1,A5,A6,A7⟩:=Vp Q3;clear S D;go_enter func39,ntmps39
 go_wp2
 go_loopg [3,4] 256 (fun g v r wr=>∃i n:Nat,g=256 - i/\i<=256/\r=i6 i/\yH (n=ll d i)/\yH (wr.ownsRow w.heap.size 9 1 v n (jz (dg d i)))/\yH (yW w wr))
 case atStart=>exact⟨0,0,rfl,by omega,rfl,rfl,U8 _ _ _ _,Un _ _⟩
 case round=>
  obtain⟨i,n,l,hi,rfl,q,s,y⟩:=hrel;have O:=aa l;clear l;by_cases A3:i<256
  ·obtain⟨a,cap,x,C⟩:=J.o i A3;have A9:n+(d i).length<4000000000000:=by rw[q.o];exact C
   have R:yH (n+(d i).length=ll d (i+1)):=by show _=_;rw[q.o];rfl
   have z:=X.o i;rw[<-z] at s;have N:=aa (L.o i);have K:yH (∀W,yW w W->yc W b i (lV a (d i).length cap)):=fun W h=>(x W h).cell
   have Q:yH (∀j,j<(d i).length->∃p g,(a=some ⟨g,0,none⟩/\∀W,yW w W->yc W g (j*2) (sV p))/\jz (dg d i++(d i).take (j+1))=jz (dg d i++(d i).take j)++[sV p]):=fun j t=>by
    have o:(d i)[j]? =some ((d i)[j]'t):=Uh t;obtain⟨g,e,c1,_⟩:=(x w (Un _ _)).at_ j _ o;exact⟨_,g,⟨e,fun W h=>eg h c1⟩,U.o i j _ o⟩
   have A8:(i:Int)<256:=by omega
   clear x C z;generalize (d i).length=M at*;go_wp2
   go_loopg [3,5] M (fun g v r H=>∃j:Nat,g=M - j/\j<=M/\r=i6 j/\yH (H.ownsRow w.heap.size 9 1 v (n+j) (jz (dg d i++(d i).take j)))/\yH (yW w H))
   case atStart=>exact⟨0,rfl,by omega,rfl,s,y⟩
   case round=>
    obtain⟨j,l,t,rfl,m,f⟩:=hrel;have P:=aa l;have d0:=K.o wr f.o;clear l;by_cases u:j<M
    ·obtain⟨p,g,⟨rfl,A⟩,F⟩:=Q.o j u;have r1:=A wr f.o;have A2:(j:Int)<(M:Int):=by omega
     have A4:=f.o.size;have V:=aa F;clear F A;go_wp2_with (at_builtin;refine U0 _ rfl (.tmp 21) (.tmp 32) 63 rfl w.heap.size 9 i0 (sV ⟨#[]⟩) 1 16 underlying63 A1 A5 A6 A7 rfl (by decide) _ (n+j) (jz (dg d i++(d i).take j)) rfl (m.o.alloc _) ⟨wr.heap.size,0,none⟩ 1 1 [sV p] rfl rfl (Vx _ _ _) ?c2 (by omega) ?c3 ?c4 ?c5 _ rfl ?c6)
     case c2=>intro v G;simp at G;subst G;rfl
     case c3=>unfold maxLen;omega
     case c4=>omega
     case c5=>simp;omega
     intro g2 Z w2 E B A0 u;have T:yH (w2.ownsRow w.heap.size 9 1 (lV (qA g2) (n+j+1) Z) (n+(j+1)) (jz (dg d i++(d i).take (j+1)))):=by
      show World.ownsRow _ _ _ _ _ _ _;rw[V.o];exact E
     have I:yH (yW w w2):=(f.o.alloc A4 _).grown B (by simp;omega) (fun k hk=>(m.o.lt k hk).1);clear E B A0 u;go_wp2
     go_roundg (M - (j+1))
     case measure=>have:=P.o;omega
     case rel=>exact⟨j+1,rfl,by omega,by go_num,T,I⟩
    ·obtain rfl:j=M:=by omega
     have A2:¬(j:Int)<(j:Int):=by omega
     rw[N.o] at m;go_wp2
     go_roundg (256 - (i+1))
     case measure=>have:=O.o;omega
     case rel=>exact⟨i+1,n+j,rfl,by omega,by go_num,R,m,f⟩
  ·obtain rfl:i=256:=by omega
   go_wp2
   go_ret
   exact⟨⟨_,rfl,by rw[<-q.o];exact s.o⟩,y.o⟩
def xK:∀a:yL,Op.bytesLess a a=false
 | []=>rfl
 |a::x=>by
  unfold Op.bytesLess
  simp[xK x]
def Jx:∀a b c:yL,Op.bytesLess a b=true->Op.bytesLess b c=true->Op.bytesLess a c=true
 | _,_,[],_,h=>by unfold Op.bytesLess at h;cases h
 | _,[],_::_,h,_=>by unfold Op.bytesLess at h;cases h
 | [],_::_,_::_,_,_=>rfl
 |a::x,b::y,c::z,h1,h2=>by
  unfold Op.bytesLess at h1 h2⊢
  simp only[Bool.or_eq_true,VJ,Vr,beq_iff_eq] at h1 h2⊢
  rcases h1 with h1|⟨rfl,h1⟩
  ·rcases h2 with h2|⟨rfl,_⟩
   ·exact .inl (UInt8.lt_trans h1 h2)
   ·exact .inl h1
  ·rcases h2 with h2|⟨rfl,h2⟩
   ·exact .inl h2
   ·exact .inr ⟨rfl,Jx x y z h1 h2⟩
def Jy:∀a b:yL,Op.bytesLess a b=false->Op.bytesLess b a=false->a=b
 | [],[],_,_=>rfl
 | [],_::_,h,_=>by unfold Op.bytesLess at h;cases h
 | _::_,[],_,h=>by unfold Op.bytesLess at h;cases h
 |a::x,b::y,h1,h2=>by
  unfold Op.bytesLess at h1 h2
  simp only[Bool.or_eq_false_iff,decide_eq_false_iff_not] at h1 h2
  have e:=UInt8.le_antisymm (UInt8.not_lt.1 h2.1) (UInt8.not_lt.1 h1.1)
  subst e
  simp only[BEq.rfl,Bool.true_and] at h1 h2
  rw[Jy x y h1.2 h2.2]
def Ql(a):cD a a=false:=xK _
def Ah{a b c}(h1:cD a b=true)(h2:cD b c=true):cD a c=true:=Jx _ _ _ h1 h2
def qo{a b}(h:cD a b=true):(a.toList == b.toList)=false:=by
 cases e:(a.toList == b.toList) with
 |false=>rfl
 |true=>
  have e1:=eq_of_beq e;unfold cD at h;rw[e1,xK] at h;cases h
def rR{a b}(h:cD a b=true):(b.toList == a.toList)=false:=by
 cases e:(b.toList == a.toList) with
 |false=>rfl
 |true=>
  have e1:=eq_of_beq e;unfold cD at h;rw[e1,xK] at h;cases h
def Gm{a b}(h:cD a b=true):cD b a=false:=by
 cases e:cD b a with
 |false=>rfl
 |true=>have:=Ah h e;rw[Ql] at this;cases this
def eN(a:List (yB×yB)):Prop:=a.Pairwise fun p q=>cD p.1 q.1=true
def eN.down{d}(h:eN d)(x):qV d x:=by
 intro i j p q g c a b;by_cases e:i=j
 ·subst e;rw[c] at a;cases a;exact b
 ·obtain⟨hi,rfl⟩:=Ux.1 c;obtain⟨f,rfl⟩:=Ux.1 a;exact Ah (List.pairwise_iff_getElem.1 h i j hi f (by omega)) b
def zw:∀(A B) (h),(∀p∈A,cD p.1 h=true)->aZ (A++B) h=A.length+aZ B h
 | [],B,h,_=>by simp
 |p::A,B,h,ha=>by
  show(if cD p.1 h then aZ (A++B) h+1 else 0)=_
  rw[Uj (ha p (Uk ..)),zw A B h fun q a=>ha q (Ul _ a)]
  simp;omega
def zv:∀(A B) (h),(∀p∈B,cD p.1 h=false)->aZ (A++B) h=aZ A h
 | [],[],h,_=>rfl
 | [],p::B,h,hb=>by
  show aZ (p::B) h=0
  unfold aZ
  rw[hb p (Uk ..)];rfl
 |p::A,B,h,hb=>by
  show aZ (p::(A++B)) h=aZ (p::A) h
  unfold aZ
  rw[zv A B h hb]
def oV:∀(A) (h:yB),(∀p∈A,(p.1.toList == h.toList)=false)->others A h=A:=fun A h a=>by
 unfold others
 rw[List.filter_eq_self]
 intro p b
 rw[a p b];rfl
def Qs(A S B h t)(d:∀p∈A,cD p.1 h=true)(e:∀p∈B,cD h p.1=true):fp (A++S++B) h t=A++fp S h t++B:=by
 have e1:others (A++S++B) h=A++others S h++B:=by
  have b:=oV A h fun p a=>qo (d p a)
  have c:=oV B h fun p a=>rR (e p a)
  unfold others at b c⊢;rw[VO,VO,b,c]
 have e2:aZ (A++others S h++B) h=A.length+aZ (others S h) h:=by
  rw[zv _ B h fun p a=>Gm (e p a),zw A _ h d]
 have f:=tO (others S h) h;unfold fp;rw[e1,e2];generalize aZ (others S h) h=k at*;generalize others S h=O at*;rw[UI A O B,List.take_length_add_append,List.drop_length_add_append,List.take_append_of_le_length f,List.drop_append_of_le_length f];simp
def OT(A S B h)(d:∀p∈A,cD p.1 h=true)(e:∀p∈B,cD h p.1=true):others (A++S++B) h=A++others S h++B:=by
 have b:=oV A h fun p a=>qo (d p a)
 have c:=oV B h fun p a=>rR (e p a)
 unfold others at b c⊢;rw[VO,VO,b,c]
def p9:∀(S:List (yB×yB)) (h) (p:yB×yB),p∈S.take (aZ S h)->cD p.1 h=true
 | [],h,p,a=>by simp at a
 |q::S,h,p,a=>by
  rw[show aZ (q::S) h=if cD q.1 h then aZ S h+1 else 0 from rfl] at a
  cases e:cD q.1 h with
  |false=>rw[e] at a;simp at a
  |true=>
   rw[e,Uj rfl,List.take_succ_cons] at a
   rcases UC.1 a with rfl|a
   ·exact e
   ·exact p9 S h p a
def EK:∀(S:List (yB×yB)) (h) (p:yB×yB),S[aZ S h]? =some p->cD p.1 h=false
 | [],h,p,hp=>by simp at hp
 |q::S,h,p,hp=>by
  rw[show aZ (q::S) h=if cD q.1 h then aZ S h+1 else 0 from rfl] at hp
  cases e:cD q.1 h with
  |false=>rw[e] at hp;simp at hp;rw[<-hp];exact e
  |true=>
   rw[e,Uj rfl,List.getElem?_cons_succ] at hp
   exact EK S h p hp
def eN.after{S}(r:eN S){k q p}(d:S[k]? =some q)(c:p∈S.drop (k+1)):cD q.1 p.1=true:=by
 obtain⟨b,rfl⟩:=Ux.1 d;obtain⟨j,a,rfl⟩:=List.mem_iff_getElem.1 c;rw[List.getElem_drop];rw[Uu] at a;exact List.pairwise_iff_getElem.1 r k (k+1+j) b (by omega) (by omega)
def eN.high{S}(r:eN S){h}(c:ew S h=false){p}(b:p∈S.drop (aZ S h)):cD h p.1=true:=by
 rcases Nat.lt_or_ge (aZ S h) S.length with a|a
 ·have d:S[aZ S h]? =some (S[aZ S h]'a):=Uh a;have h1:=EK S h _ d;have h2:((S[aZ S h]'a).1.toList == h.toList)=false:=by unfold ew at c;rw[d] at c;exact c
  have h3:cD h (S[aZ S h]'a).1=true:=by
   cases e:cD h (S[aZ S h]'a).1 with
   |true=>rfl
   |false=>
    have:=Jy _ _ h1 e;rw[this] at h2;simp at h2
  rw[UZ a] at b;rcases UC.1 b with rfl|b
  ·exact h3
  ·exact Ah h3 (r.after d b)
 ·rw[List.drop_eq_nil_of_le a] at b;cases b
def eN.Hg{S}(r:eN S){h}(a:ew S h=true){p}(b:p∈S.drop (aZ S h+1)):cD h p.1=true:=by
 let⟨q,c,e⟩:=uw a;have:=r.after c b;unfold cD at this⊢;rw[<-eq_of_beq e];exact this
def AF{S h}(b:ew S h=true):∃q,S=S.take (aZ S h)++[q]++S.drop (aZ S h+1)/\S[aZ S h]? =some q/\(q.1.toList == h.toList)=true:=by
 let⟨q,a,e⟩:=uw b;obtain⟨c,rfl⟩:=Ux.1 a;refine⟨_,?_,a,e⟩;rw[UI,List.singleton_append,<-UZ c,VB]
def eN.Fi{S}(r:eN S){h}(f:ew S h=true):others S h=S.take (aZ S h)++S.drop (aZ S h+1):=by
 let⟨q,g,_,e⟩:=AF f;have b:=oV (S.take (aZ S h)) h fun p a=>qo (p9 S h p a)
 have c:=oV (S.drop (aZ S h+1)) h fun p a=>rR (r.Hg f a)
 have d:others [q] h=[]:=by unfold others;simp[eq_of_beq e]
 have:others S h=others (S.take (aZ S h)++[q]++S.drop (aZ S h+1)) h:=by rw[<-g]
 rw[this];unfold others at b c d⊢;rw[VO,VO,b,c,d,UU]
def eN.zD{S}(r:eN S){h}(b:ew S h=false):others S h=S:=oV S h fun p a=>by
 rw[<-VB (aZ S h) S] at a
 rcases UA.1 a with a|a
 ·exact qo (p9 S h p a)
 ·exact rR (r.high b a)
def eN.Ec{S}(r:eN S)(h t):kh S h t=fp S h t:=by
 cases hh:ew S h with
 |false=>
  unfold kh fp;rw[r.zD hh,hh];rfl
 |true=>
  let⟨q,e,d,_⟩:=AF hh;have c:=(Ux.1 d).1;have a:(S.take (aZ S h)).length=aZ S h:=by rw[UN];omega
  have e2:aZ (S.take (aZ S h)++S.drop (aZ S h+1)) h=aZ S h:=by
   rw[zw _ _ h fun p b=>p9 S h p b,a];have:=zv [] (S.drop (aZ S h+1)) h fun p b=>Gm (r.Hg hh b)
   rw[VL] at this;rw[this];rfl
  unfold kh fp;rw[r.Fi hh,e2,hh,Uj rfl];have e3:(S.take (aZ S h)++S.drop (aZ S h+1)).take (aZ S h)=S.take (aZ S h):=List.take_left' a;have e4:(S.take (aZ S h)++S.drop (aZ S h+1)).drop (aZ S h)=S.drop (aZ S h+1):=List.drop_left' a;rw[e3,e4,List.set_eq_take_append_cons_drop,Uj c];simp
def eN.Bf{S}(r:eN S){h}(a:ew S h=true):S.eraseIdx (aZ S h)=others S h:=by
 rw[r.Fi a,List.eraseIdx_eq_take_drop_succ]
def ug:∀(A B) (h:yB),(∀p∈A,(p.1.toList == h.toList)=false)->ah (A++B) h=ah B h
 | [],_,_,_=>rfl
 |p::A,B,h,ha=>by
  show(if(p.1.toList == h.toList) then some p.2 else ah (A++B) h)=_
  rw[ha p (Uk ..)]
  exact ug A B h fun q a=>ha q (Ul _ a)
def Gd(A)(h:yB)(a:∀p∈A,(p.1.toList == h.toList)=false):ah A h=none:=by
 have:=ug A [] h a;rw[UU] at this;exact this
def Gc:∀(A B) (h t),ah A h=some t->ah (A++B) h=some t
 | [],_,_,_,e=>by cases e
 |p::A,B,h,t,e=>by
  show(if(p.1.toList == h.toList) then some p.2 else ah (A++B) h)=_
  have e':(if(p.1.toList == h.toList) then some p.2 else ah A h)=some t:=e
  cases c:(p.1.toList == h.toList) with
  |true=>rw[c] at e';exact e'
  |false=>rw[c] at e';exact Gc A B h t e'
def eN.Ad{S}(_:eN S){h}(c:ew S h=true){q}(f:S[aZ S h]? =some q):ah S h=some q.2:=by
 let⟨g,b,a,e⟩:=AF c;rw[f] at a;cases a;have:ah S h=ah (S.take (aZ S h)++([q]++S.drop (aZ S h+1))) h:=by rw[<-UI,<-b]
 rw[this,ug _ _ h fun p d=>qo (p9 S h p d)];show(if(q.1.toList == h.toList) then some q.2 else _)=_;rw[e];rfl
def eN.Aa{S}(r:eN S){h}(b:ew S h=false):ah S h=none:=Gd S h fun p a=>by
 rw[<-VB (aZ S h) S] at a
 rcases UA.1 a with a|a
 ·exact qo (p9 S h p a)
 ·exact rR (r.high b a)
def Qh(A S B h)(ha:∀p∈A,cD p.1 h=true)(hb:∀p∈B,cD h p.1=true):ah (A++S++B) h=ah S h:=by
 rw[UI,ug A _ h fun p hp=>qo (ha p hp)];cases e:ah S h with
 |some t=>exact Gc S B h t e
 |none=>
  have hn:∀(S:List (yB×yB)),ah S h=none->∀p∈S,(p.1.toList == h.toList)=false:=by
   intro S;induction S with
   |nil=>intro _ p hp;cases hp
   |cons q S ih=>
    intro e p hp;have e':(if(q.1.toList == h.toList) then some q.2 else ah S h)=none:=e;cases c:(q.1.toList == h.toList) with
    |true=>rw[c] at e';cases e'
    |false=>
     rw[c] at e';rcases UC.1 hp with rfl|hp
     ·exact c
     ·exact ih e' p hp
  rw[ug S B h (hn S e)];exact Gd B h fun p hp=>rR (hb p hp)
def eN.others{S}(r:eN S)(h):eN (others S h):=List.Pairwise.filter _ r
def eN.laid{S}(r:eN S)(h t):eN (fp S h t):=by
 have c:=r.others h;have i:∀p∈Go.Proofs.YtmafnmpeehmndaaGreatDoor.others S h,(p.1.toList == h.toList)=false:=fun p a=>by
  unfold Go.Proofs.YtmafnmpeehmndaaGreatDoor.others at a;simpa using(List.mem_filter.1 a).2
 unfold fp;generalize Go.Proofs.YtmafnmpeehmndaaGreatDoor.others S h=O at*;have d:ew O h=false:=by
  cases e:ew O h with
  |false=>rfl
  |true=>
   let⟨q,b,e2⟩:=uw e;have:=i q (UQ b);rw[e2] at this;cases this
 have g:=p9 O h;have f:=fun p a=>c.high (p:=p) d a
 have rs:=c;rw[<-VB (aZ O h) O] at rs;generalize aZ O h=k at*;unfold eN at rs⊢;rw[List.pairwise_append] at rs;rw[List.pairwise_append,List.pairwise_append];refine⟨⟨rs.1,List.pairwise_singleton _ _,fun p a q b=>?_⟩,rs.2.1,fun p a q b=>?_⟩
 ·simp at b;subst b;exact g p a
 ·rcases UA.1 a with a|a
  ·exact rs.2.2 p a q b
  ·simp at a;subst a;exact f q b
def Gl{a b:yB}(ha:0<a.size)(hb:0<b.size)(h:(a[0]'ha).toNat<(b[0]'hb).toNat):cD a b=true:=by
 unfold cD;rw[Lib.toList_data,Lib.toList_data];let⟨⟨x⟩⟩:=a;let⟨⟨y⟩⟩:=b;cases x with
 |nil=>exact absurd ha (by decide)
 |cons u x=>
  cases y with
  |nil=>exact absurd hb (by decide)
  |cons v y=>
   show Op.bytesLess (u::x) (v::y)=true;have h':u<v:=UInt8.lt_iff_toNat_lt.2 h;unfold Op.bytesLess;simp[h']
structure jh(sh:Nat->List (yB×yB)):Prop where
 fB:∀c,eN (sh c)
 key:∀c p,p∈sh c->∃hs:0<p.1.size,(p.1[0]'hs).toNat=c
def lq(a:Nat->List (yB×yB))(d:Nat):Nat->List (yB×yB)
 | 0=>[]
 |n+1=>lq a d n++a (d+n)
def uS(a:Nat->List (yB×yB))(c:Nat):∀n,dg a (c+1+n)=dg a c++a c++lq a (c+1) n
 | 0=>by show dg a c++a c=_;simp[lq]
 |n+1=>by
  show dg a (c+1+n)++a (c+1+n)=_++(lq a (c+1) n++a (c+1+n))
  rw[uS a c n,UI (dg a c++a c)]
def JF{a b}:∀n,(∀d,d<n->a d=b d)->dg a n=dg b n
 | 0,_=>rfl
 |n+1,h=>by
  show dg a n++a n=dg b n++b n
  rw[JF n fun d c=>h d (by omega),h n (by omega)]
def Ih{a b}(d:Nat):∀n,(∀e,d<=e->a e=b e)->lq a d n=lq b d n
 | 0,_=>rfl
 |n+1,h=>by
  show lq a d n++a (d+n)=lq b d n++b (d+n)
  rw[Ih d n h,h (d+n) (by omega)]
def JD(a:Nat->List (yB×yB))(c n:Nat)(S):dg (aP a c S) (c+1+n)=dg a c++S++lq a (c+1) n:=by
 rw[uS];have e1:dg (aP a c S) c=dg a c:=JF c fun d b=>by simp[aP,Nat.ne_of_lt b]
 have e2:lq (aP a c S) (c+1) n=lq a (c+1) n:=Ih _ n fun e f=>by
  have:e≠c:=by omega
  simp[aP,this]
 have e3:aP a c S c=S:=by simp[aP]
 rw[e1,e2,e3]
def Ga{a p}:∀n,p∈dg a n->∃d,d<n/\p∈a d
 | 0,h=>by cases h
 |n+1,h=>by
  rcases UA.1 h with h|h
  ·let⟨d,c,b⟩:=Ga n h
   exact⟨d,by omega,b⟩
  ·exact⟨n,by omega,h⟩
def FY{a p}(d:Nat):∀n,p∈lq a d n->∃e,d<=e/\p∈a e
 | 0,h=>by cases h
 |n+1,h=>by
  rcases UA.1 h with h|h
  ·exact FY d n h
  ·exact⟨d+n,by omega,h⟩
def jh.low{b}(K:jh b){h:yB}(hs:0<h.size){p}(a:p∈dg b (h[0]'hs).toNat):cD p.1 h=true:=by
 let⟨d,f,a⟩:=Ga _ a;let⟨c,e⟩:=K.key d p a;exact Gl c hs (by omega)
def jh.high{b}(K:jh b){h:yB}(hs:0<h.size){n p}(a:p∈lq b ((h[0]'hs).toNat+1) n):cD h p.1=true:=by
 let⟨d,f,a⟩:=FY _ _ a;let⟨c,e⟩:=K.key d p a;exact Gl hs c (by omega)
def AZ(h:yB)(hs:0<h.size):∃n,256=(h[0]'hs).toNat+1+n:=⟨255 - (h[0]'hs).toNat,by have:=(h[0]'hs).toNat_lt;omega⟩
def jh.Eb{a}(K:jh a)(h t:yB)(hs:0<h.size):dg (aP a (h[0]'hs).toNat (kh (a (h[0]'hs).toNat) h t)) 256=fp (dg a 256) h t:=by
 let⟨n,c⟩:=AZ h hs;rw[c,JD,uS,Qs _ _ _ _ _ (fun p b=>K.low hs b) (fun p b=>K.high hs b),(K.fB _).Ec]
def jh.RU{a}(K:jh a)(h:yB)(hs:0<h.size)(c:ew (a (h[0]'hs).toNat) h=true):dg (aP a (h[0]'hs).toNat ((a (h[0]'hs).toNat).eraseIdx (aZ (a (h[0]'hs).toNat) h))) 256=others (dg a 256) h:=by
 let⟨n,d⟩:=AZ h hs;rw[d,JD,uS,OT _ _ _ _ (fun p b=>K.low hs b) (fun p b=>K.high hs b),(K.fB _).Bf c]
def jh.wU{b}(K:jh b)(h:yB)(hs:0<h.size):ah (dg b 256) h=ah (b (h[0]'hs).toNat) h:=by
 let⟨n,c⟩:=AZ h hs;rw[c,uS,Qh _ _ _ _ (fun p a=>K.low hs a) (fun p a=>K.high hs a)]
def P7{S h t p}(a:p∈fp S h t):p=(h,t)\/p∈S:=by
 unfold fp at a;rcases UA.1 a with a|a
 ·rcases UA.1 a with a|a
  ·exact .inr (List.mem_filter.1 (List.mem_of_mem_take a)).1
  ·exact .inl (by simpa using a)
 ·exact .inr (List.mem_filter.1 (List.mem_of_mem_drop a)).1
def jh.set{b}(K:jh b)(h t:yB)(hs:0<h.size):jh (aP b (h[0]'hs).toNat (kh (b (h[0]'hs).toNat) h t)):=by
 rw[(K.fB _).Ec];refine⟨fun c=>?_,fun c p a=>?_⟩
 ·by_cases e:c=(h[0]'hs).toNat
  ·simp only[aP,e,U5];exact(K.fB _).laid h t
  ·simp only[aP,e,UT];exact K.fB c
 ·by_cases e:c=(h[0]'hs).toNat
  ·simp only[aP,e,U5] at a;rcases P7 a with rfl|a
   ·exact⟨hs,e.symm⟩
   ·let⟨d,e2⟩:=K.key _ p a;exact⟨d,e2.trans e.symm⟩
  ·simp only[aP,e,UT] at a;exact K.key c p a
def jh.erase{a}(K:jh a)(h:yB)(hs:0<h.size)(d:ew (a (h[0]'hs).toNat) h=true):jh (aP a (h[0]'hs).toNat ((a (h[0]'hs).toNat).eraseIdx (aZ (a (h[0]'hs).toNat) h))):=by
 rw[(K.fB _).Bf d];refine⟨fun c=>?_,fun c p b=>?_⟩
 ·by_cases e:c=(h[0]'hs).toNat
  ·simp only[aP,e,U5];exact(K.fB _).others h
  ·simp only[aP,e,UT];exact K.fB c
 ·by_cases e:c=(h[0]'hs).toNat
  ·simp only[aP,e,U5] at b;let⟨f,e2⟩:=K.key _ p (List.mem_filter.1 b).1;exact⟨f,e2.trans e.symm⟩
  ·simp only[aP,e,UT] at b;exact K.key c p b
def cy(b:Nat)(a:Nat->Value)(k:Nat):Prop:=k=b\/∃c,c<256/\(a c).ownBlock=some k
def gG(base:Nat)(w:World)(b:Nat)(c:Nat->Value)(a:List (yB×yB)):Prop:=∃sh,bZ base w b c sh/\jh sh/\dg sh 256=a
def dP(base:Nat)(w w':World)(b:Nat)(a:Nat->Value)(d:List (yB×yB)):Prop:=
 ∃vs',gG base w' b vs' d/\(∀c,c<256->jY w (a c) (vs' c))/\aU (cy b a) w w'
def aU.weaken{T T' w w'}(h:aU T w w')(c:∀k,T k->T' k):aU T' w w':=
 ⟨h.os,h.tape,h.output,h.size,fun q b a=>h.block q b fun d=>a (c q d)⟩
def zY(b:Nat)(a)(c:Nat)(d:c<256)(k:Nat)(h:k=b\/(a c).ownBlock=some k):cy b a k:=h.imp id fun e=>⟨c,d,e⟩
def yY(w a)(c:Nat)(b)(h:jY w (a c) b):∀d,d<256->jY w (a d) (bd a c b d):=fun d _=>by
 by_cases e:d=c
 ·subst e;simp only[bd,U5];exact h
 ·simp only[bd,e,UT];exact fun g f=>.inl f
def vM(a:Nat->List (yB×yB))(c:Nat)(b:c<256):(a c).length<=(dg a 256).length:=by
 rw[BH];have:ll a c+(a c).length<=ll a 256:=Ai a (c+1) 256 (by omega);omega
def Oc(base:Nat)(w)(b:Nat)(f a)(S:gG base w b f a)(h:yB)(j:a.length<4000000000000):
 yC 118 #[pV (qA b),sV h] w fun e w'=>e=rV (tV #[sV (pz a h),i6 (kG a h)])/\∃n,w'=w.drewN n:=by
 by_cases h32:h.size=32
 ·obtain⟨c,P,K,rfl⟩:=S;have hs:0<h.size:=by omega
  have g:(h[0]'hs).toNat<256:=(h[0]'hs).toNat_lt;refine(OH base w b f c P h h32 hs ((K.fB _).down h) (Nat.lt_of_le_of_lt (vM c _ g) j)).mono ?_;rintro e w' ⟨i,l⟩;refine⟨?_,l⟩;rcases i with⟨d,rfl⟩|⟨d,p,k,rfl⟩
  ·let⟨e1,e2⟩:=Hz (dg c 256) h h32 ((K.wU h hs).trans ((K.fB _).Aa d));rw[e1,e2]
  ·let⟨e1,e2⟩:=Hy (dg c 256) h p.2 h32 ((K.wU h hs).trans ((K.fB _).Ad d k));rw[e1,e2]
 ·let⟨e1,e2⟩:=Ia a h h32;rw[e1,e2];exact(OG w b h h32).mono fun e w' ⟨h1,h2⟩=>⟨h1,0,h2⟩
def NV(base:Nat)(w)(b:Nat)(d a)(S:gG base w b d a)(h:yB)(l:a.length<4000000000000):
 yC 40 #[pV (qA b),sV h] w fun e w'=>e=rV (i6 (kG a h))/\((kG a h≠0/\∃n,w'=w.drewN n)\/(kG a h=0/\dP base w w' b d (others a h))):=by
 by_cases h32:h.size=32
 ·obtain⟨f,P,K,rfl⟩:=S;have hs:0<h.size:=by omega
  have j:(h[0]'hs).toNat<256:=(h[0]'hs).toNat_lt;refine(OB base w b d f P h h32 hs ((K.fB _).down h) (Nat.lt_of_le_of_lt (vM f _ j) l)).mono ?_;rintro e w' (⟨c,rfl,i⟩|⟨c,rfl,⟨r,m,q⟩,i⟩)
  ·let⟨_,e2⟩:=Hz (dg f 256) h h32 ((K.wU h hs).trans ((K.fB _).Aa c));rw[e2];exact⟨rfl,.inl ⟨by decide,i⟩⟩
  ·let⟨p,o,_⟩:=uw c;let⟨_,e2⟩:=Hy (dg f 256) h p.2 h32 ((K.wU h hs).trans ((K.fB _).Ad c o));rw[e2];exact⟨rfl,.inr ⟨rfl,_,⟨_,m,K.erase h hs c,K.RU h hs c⟩,yY w d _ r (fun g k=>.inl (q▸k)),i.weaken (zY b d _ j)⟩⟩
 ·let⟨_,e2⟩:=Ia a h h32;rw[e2];exact(OA w b h h32).mono fun e w' ⟨h1,h2⟩=>⟨h1,.inl ⟨by decide,0,h2⟩⟩
def NW(base:Nat)(w)(b:Nat)(a c)(S:gG base w b a c)(h t:yB)(k:c.length<4000000000000)(i:base<=w.heap.size):
 yC 41 #[pV (qA b),sV h,sV t] w fun e w'=>
  (h.size≠32/\e=rV (i6 2)/\w'=w)\/(h.size=32/\4096<t.size/\e=rV (i6 1)/\w'=w)\/(h.size=32/\t.size<=4096/\e=rV (i6 0)/\dP base w w' b a (fp c h t)):=by
 by_cases h32:h.size=32
 ·by_cases f:4096<t.size
  ·exact(OC w b h t h32 f).mono fun e w' ⟨h1,h2⟩=>.inr (.inl ⟨h32,f,h1,h2⟩)
  ·obtain⟨g,P,K,rfl⟩:=S;have hs:0<h.size:=by omega
   have d:(h[0]'hs).toNat<256:=(h[0]'hs).toNat_lt;refine(OE base w b a g P h t h32 hs (by omega) ((K.fB _).down h) (Nat.lt_of_le_of_lt (vM g _ d) k) i).mono ?_;rintro e w' ⟨j,⟨o,l,m⟩,n⟩;exact .inr (.inr ⟨h32,by omega,j,_,⟨_,l,K.set h t hs,K.Eb h t hs⟩,yY w a _ o m,n.weaken (zY b a _ d)⟩)
 ·exact(OD w b h t h32).mono fun e w' ⟨h1,h2⟩=>.inl ⟨h32,h1,h2⟩
def NT(base:Nat)(w)(b:Nat)(a c)(S:gG base w b a c)(T:aB w)(t:yB)(j:c.length<4000000000000)(h:base<=w.heap.size):
 yC 116 #[pV (qA b),sV t] w fun e w'=>
  (4096<t.size/\e=rV (tV #[sV ⟨#[]⟩,i6 1])/\w'=w)\/(t.size<=4096/\e=rV (tV #[sV (ag t),i6 0])/\dP base w w' b a (fp c (ag t) t)):=by
 by_cases f:4096<t.size
 ·exact(Ox w b t f).mono fun e w' ⟨h1,h2⟩=>.inl ⟨f,h1,h2⟩
 ·obtain⟨g,P,K,rfl⟩:=S;have hs:=jS t;have d:((ag t)[0]'hs).toNat<256:=((ag t)[0]'hs).toNat_lt;refine(Oy base w b a g P T t (by omega) ((K.fB _).down _) (Nat.lt_of_le_of_lt (vM g _ d) j) h).mono ?_;rintro e w' ⟨i,⟨n,k,l⟩,m⟩;exact .inr ⟨by omega,i,_,⟨_,k,K.set _ t hs,K.Eb _ t hs⟩,yY w a _ n l,m.weaken (zY b a _ d)⟩
def Ob(base:Nat)(w)(b:Nat)(d a)(S:gG base w b d a)(c:a.length<4000000000000):
 yC 39 #[pV (qA b)] w fun e w'=>(∃v,e=rV v/\w'.ownsRow w.heap.size 9 1 v a.length (jz a))/\yW w w':=by
 obtain⟨f,P,K,rfl⟩:=S;rw[BH] at c⊢;exact OF base w b d f P c
def JE:∀n,dg (fun _=>[]) n=[]
 | 0=>rfl
 |n+1=>by show dg (fun _=>[]) n++[]=[];rw[JE n];rfl
def QF:jh (fun _=>[]):=⟨fun _=>List.Pairwise.nil,fun _ _ h=>by cases h⟩
def NO(base:Nat)(w:World):gG base (w.alloc (.cells (jj fun _=>lV none 0 0) 71)) w.heap.size (fun _=>lV none 0 0) []:=
 ⟨fun _=>[],⟨UG w _,fun _ _=>U8 _ _ _ _,fun _ _ _ _ _ h _=>by simp[Value.ownBlock] at h,fun _ _ _ h=>by simp[Value.ownBlock] at h⟩,QF,JE 256⟩
def tN(base:Nat)(w):yC 9 #[] w fun e w'=>e=rV (pV (qA w.heap.size))/\gG base w' w.heap.size (fun _=>lV none 0 0) []/\yW w w':=
 (Oz w).mono fun e w' ⟨h1,h2⟩=>⟨h1,by rw[h2];exact NO base w,by rw[h2];exact(Un _ _).alloc (Ug _) _⟩
def gG.kept{base}{w w':World}{b a f}(S:gG base w b a f)(h:∀k,cy b a k->w'.heap[k]? =w.heap[k]?):gG base w' b a f:=by
 let⟨j,P,K,e⟩:=S;exact⟨j,⟨(h b (.inl rfl)).trans P.ai,fun c d=>cM (P.own c d) fun g i=>h g (.inr ⟨c,d,i⟩),P.sep,P.fL⟩,K,e⟩
def gG.eM{base w b a e}(S:gG base w b a e)(k:Nat)(h:cy b a k):k<w.heap.size:=by
 let⟨f,P,_,_⟩:=S;rcases h with rfl|⟨c,d,h⟩
 ·exact(Um.1 P.ai).1
 ·exact((P.own c d).lt k h).2
def dP.refl{base w b a c}(h:gG base w b a c):dP base w w b a c:=⟨a,h,fun _ _ _ hg=>.inl hg,⟨rfl,rfl,rfl,Ug _,fun _ _ _=>rfl⟩⟩
def dP.kept{base w w' b a e}(h:dP base w w' b a e)(x:Nat)(d:x<w.heap.size)(c:¬cy b a x):w'.heap[x]? =w.heap[x]? :=by
 let⟨_,_,_,h3⟩:=h;exact h3.block x d c
def dP.size{base w w' b c a}(h:dP base w w' b c a):w.heap.size<=w'.heap.size:=by
 let⟨_,_,_,h3⟩:=h;exact h3.size
def dP.trans{base w w1 w2 b f i n l}(h1:gG base w1 b i n)(h2:∀c,c<256->jY w (f c) (i c))(h3:aU (cy b f) w w1)(k:dP base w1 w2 b i l):dP base w w2 b f l:=by
 let⟨o,k1,k2,k3⟩:=k;refine⟨o,k1,fun c a g d=>?_,⟨k3.os.trans h3.os,k3.tape.trans h3.tape,k3.output.trans h3.output,Ut h3.size k3.size,fun x j e=>?_⟩⟩
 ·rcases k2 c a g d with h|h
  ·exact h2 c a g h
  ·exact .inr (Ut h3.size h)
 ·rw[k3.block x (Us j h3.size) fun m=>?_,h3.block x j e];rcases m with rfl|⟨c,a,d⟩
  ·exact e (.inl rfl)
  ·rcases h2 c a x d with h|h
   ·exact e (.inr ⟨c,a,h⟩)
   ·omega
def dP.below{base w w1 w2 b c a}(h:dP base w w1 b c a)(k:yW w1 w2):dP base w w2 b c a:=by
 let⟨e,h1,h2,h3⟩:=h;exact dP.trans h1 h2 h3 ⟨e,h1.kept fun q d=>k.block q (h1.eM q d),fun _ _ _ hg=>.inl hg,aU.iP k⟩
def Fs{w b e f}(h2:∀c,c<256->jY w (e c) (f c)){x}(j:x<w.heap.size)(d:¬cy b e x):¬cy b f x:=fun i=>by
 rcases i with rfl|⟨c,a,g⟩
 ·exact d (.inl rfl)
 ·rcases h2 c a x g with h|h
  ·exact d (.inr ⟨c,a,h⟩)
  ·omega
def iO(c:yL)(a:Bool):List yL:=if a=true\/32<=c.length then [c] else []
def Nd.pg:Nd->Nd
 | .ext _ _ k=>k
 | _=>.nil
def Nd.qt:Nd->Nat->Nd
 | .branch _ _ ks=>ks
 | _=>fun _=>.nil
def cf:Nd->Bool->List yL
 | .leaf h p v,top=>iO (Nd.leaf h p v).code top
 | .ext h p k,top=>cf k false++iO (Nd.ext h p k).code top
 | .branch h v ks,top=>(List.range 16).flatMap (fun i=>cf (ks i) false)++iO (Nd.branch h v ks).code top
 | _,_=>[]
def aT(a:List (yB×yB))(l:List yL):List (yB×yB):=l.foldl (fun a c=>fp a (ag (ae c)) (ae c)) a
def wX(c)(a b:List yL):aT c (a++b)=aT (aT c a) b:=List.foldl_append
def Al(a h t):(fp a h t).length<=a.length+1:=by
 unfold fp;have h1:=oW a h;have h2:=tO (others a h) h;simp only[Uq,UN,Uu,UJ,List.length_nil];omega
def Gs:∀(l:List yL) (a),(aT a l).length<=a.length+l.length
 | [],a=>Ug _
 |c::l,a=>by
  have h1:=Gs l (fp a (ag (ae c)) (ae c))
  have h2:=Al a (ag (ae c)) (ae c)
  show(aT _ l).length<=_
  simp only[UJ]
  omega
def FL(n:Nat):(List.range n).flatMap (fun _=>cf .nil false)=[]:=by
 induction n with
 |zero=>rfl
 |succ n ih=>rw[List.range_succ,List.flatMap_append,ih];rfl
def PM{t:Nd}(b:t.read)(a:Bool):cf t a=(cf t.pg false++(List.range 16).flatMap (fun i=>cf (t.qt i) false))++iO t.code a:=by
 cases t with
 |nil=>exact b.elim
 |unread _=>exact b.elim
 |leaf h p v=>
  show iO _ a=([]++(List.range 16).flatMap (fun _=>cf .nil false))++_;rw[FL];rfl
 |ext h p k=>
  show cf k false++iO _ a=(cf k false++(List.range 16).flatMap (fun _=>cf .nil false))++_;rw[FL,UU]
 |branch h v ks=>rfl
def At.Tv{w t S p}(f:At w t S (pV p))(m:t.read):
 ∃(b:Nat) (d:Option Addr) (U:Nat->Option Addr) (j:Nat->Prop) (c:Nat->Nat->Prop),p=some ⟨b,0,Option.none⟩/\S b/\bU w b t (pV d) (fun i=>pV (U i))/\(∀x,j x->S x)/\(∀i x,i<16->c i x->S x)/\At w t.pg j (pV d)/\∀i,i<16->At w (t.qt i) (c i) (pV (U i)):=by
 cases t with
 |nil=>exact m.elim
 |unread _=>exact m.elim
 |leaf h q v=>
  let⟨b,e,s,B⟩:=f;have a:=e;injection a with a;exact⟨b,Option.none,fun _=>Option.none,fun _=>False,fun _ _=>False,a,s,B,fun _ h=>h.elim,fun _ _ _ h=>h.elim,rfl,fun _ _=>rfl⟩
 |ext h q k=>
  let⟨b,n,S',e,s,B,h1,h2⟩:=f;have a:=e;injection a with a;obtain⟨d,rfl⟩:=h2.ptr;exact⟨b,d,fun _=>Option.none,S',fun _ _=>False,a,s,B,fun x g=>(h1 x g).1,fun _ _ _ h=>h.elim,h2,fun _ _=>rfl⟩
 |branch h v ks=>
  let⟨b,U,c,e,s,B,l⟩:=f.kids;exact⟨b,Option.none,U,fun _=>False,c,e,s,B,fun _ h=>h.elim,fun i x hi g=>(l.sub i x hi g).1,rfl,fun i hi=>l.at_ i hi⟩
end Go.Proofs.YtmafnmpeehmndaaGreatDoor
