import Derived.Test.YteaodagofkcgbaaGreatDoorJ
import Derived.Test.YteaodagofkcgbaaGreatDoorK
open Go.Proofs.Tryz
open Go.Proofs.Tryz renaming prog→yP
open Go.Value renaming string→sV,pointer→pV,int→iV,slice→lV,bool→bV,tuple→tV,agg→gV
open Go.Ending renaming returned→rV
namespace Go.Proofs.YteaodagofkcgbaaGreatDoor
open Go.RowKit
set_option maxRecDepth 100000
set_option maxHeartbeats 0
set_option linter.all false
def Q2:∀t:Nd,u9 t:=by
 intro t;induction t with
 |nil=>intro w S p d _ _ h;exact h.elim
 |unread h=>intro w S p d _ _ h;exact h.elim
 |leaf h q v=>exact QY h q v
 |ext h q k ih=>exact Q0 h q k (rq k ih)
 |branch h v ks ih=>exact Q1 h v ks λi _=>rq (ks i) (ih i)
def mR(t:Nd):Prop:=bN 6 t.item=true/\t.code.length<=4096
def RW{t}(h:mR t):ft t.item=ae t.code:=by
 unfold ft;rw[Uj h.1,rG _ (by unfold fH;exact Uw h.2)];rfl
def xH(w t S p)(d:At w t S p)(k:nG t)(g:t.read)(f:mR t):yC 115 #[p] w λe w'=>e=rV (sV (ae t.code))/\yW w w':=by
 have v:=aa (Q2 t w S p 6 d k g f.1);have u:yH (∀(W:World) (S:Nat->Prop) (l:Bool) (s:yB) (a:Option Addr) (m c:Nat),bg 6 W S [bV l,sV s,lV a m c] t.item->yC 128 #[gV #[bV l,sV s,lV a m c]] W λe w'=>e=rV (tV #[sV (ae t.code),i6 (ff t.item)])/\yW W w'):=λW S l s a m c h=>by
  have:=uH W S _ _ _ _ h;rw[RW f] at this;exact this
 obtain⟨b,y,z,rfl,_,_⟩:=d.ai (by cases t<;>first|exact g.elim|trivial);unfold ptr at*;clear d k g f;generalize ff t.item=E at*;generalize ae t.code=C at*;generalize t.item=X at*;go_enter func115,ntmps115
 go_wp2_with fail
 apply v.m;rintro e w1⟨l,s,a,m,c,rfl,q,n⟩;have j:=u.o w1 _ l s a m c q;have x:=aa j;have i:=aa n;clear q n j;go_wp2_with fail
 apply x.m;rintro e w2⟨rfl,o⟩;have r:=aa (i.o.trans (o.mono i.o.size));clear o;go_wp2;go_ret;exact⟨rfl,r.o⟩
def FD(k:Int)(h p v a b c):(fG k h p v b c).setIfInBounds 1 (sV a)=fG k a p v b c:=rfl
def QE(t:Nd):t.mk.kind=t.kind:=by cases t<;>rfl
def Og(t:Nd):t.mk.path=t.path:=by cases t<;>rfl
def Ld(t:Nd):t.mk.value=t.value:=by cases t<;>rfl
def uA(t:Nd)(h:t.read):t.mk.hash=fX t.code:=by cases t<;>first|exact h.elim|rfl
def AO(w t S)(b:Nat)(j k)(y:At w t S (ptr b))(B:bU w b t j k)(z:nG t)(o:t.read)(K:t.hash=[])(g:mR t)(T:aB w):yC 148 #[ptr b] w λe w'=>e=rV (ptr b)/\bU w' b t.mk j k/\Kept b w w':=by
 have s:=aa (xH w t S _ y z o g);have G:yH (∀W,yW w W->yC 23 #[sV (ae t.code)] W λe w'=>e=rV (sV (ae (fe t.code)))/\yW W w'):=λW d=>by
  have:=ja (ae t.code) (by rw[aN];unfold maxLen;have:=g.2;omega) W (T.below d);rw[mX];exact this
 have l:=QE t;have n:=Og t;have q:=Ld t;have m:=uA t o;have L:(ae t.code).size<=4096:=by rw[aN];exact g.2
 have D:(ae t.code).size=t.code.length:=aN _;have E:yH (∀W,W.heap[b]? =w.heap[b]?->fX t.code=[]->bU W b t.mk j k):=λW d h0=>by
  unfold bU;rw[l,n,q,m,h0,<-K];exact d.trans B
 have F:yH (∀W:World,W.heap[b]? =w.heap[b]?->fX t.code=fe t.code->bU (W.setCell ⟨b,1,none⟩ (sV (ae (fe t.code)))) b t.mk j k):=λW d h0=>by
  unfold bU;rw[l,n,q,m,h0,Vo W b 1 _ _ _ (d.trans B),FD]
 have c1:=B.c1;have J:w.frozen? ⟨b,1,none⟩=false:=by simp[World.frozen?,show w.heap[b]? =_ from B]
 have i:=B.lt;have u:yH (32<=t.code.length->fX t.code=fe t.code):=λh=>Uj h
 have v:yH (¬32<=t.code.length->fX t.code=[]):=λh=>Ui h
 unfold ptr at*;clear y z o g T B l n q m;rw[<-D] at u v;clear D;generalize ae t.code=C at*;generalize fX t.code=HO at*;generalize fe t.code=HL at*;by_cases h32:32<=C.size
 .have I:(32:Int)<=(C.size:Int):=by omega
  go_enter func148,ntmps148
  go_wp2_with fail
  apply s.m;rintro e w1⟨rfl,a⟩;have x:=G.o w1 a;have H:=aa x;have c:=aa a;clear a x;go_wp2_with fail
  apply H.m;rintro e w2⟨rfl,A⟩;have f:=c.o.trans (A.mono c.o.size);have d1:=(f.cell (p:=⟨b,1,none⟩) i).trans c1;have e1:=(f.frozen (p:=⟨b,1,none⟩) i).trans J;have r:=aa f;clear A f;go_wp2;go_ret;exact⟨rfl,F.o _ (r.o.block b i) (u.o h32),(Kept.iP r.o b).set 1 _⟩
 have I:¬(32:Int)<=(C.size:Int):=by omega
 go_enter func148,ntmps148
 go_wp2_with fail
 apply s.m;rintro e w1⟨rfl,a⟩;have c:=aa a;clear a;go_wp2;go_ret;exact⟨rfl,E.o _ (c.o.block b i) (v.o h32),Kept.iP c.o b⟩
def gU(u:Nat->Option Addr):Value:=gV #[pV (u 0),pV (u 1),pV (u 2),pV (u 3),pV (u 4),pV (u 5),pV (u 6),pV (u 7),pV (u 8),pV (u 9),pV (u 10),pV (u 11),pV (u 12),pV (u 13),pV (u 14),pV (u 15)]
def yG{w}(T:aB w)(o:Obj):aB (w.alloc o):=T.below ((Un _ _).alloc (Ug _) _)
def rN(w w':World)(t:Nd)(a b)(o:Obj)(d:w'=w.alloc o)(c:o=.cells (fG t.kind (ae t.hash) (ae t.path) (ae t.value) a b) 167):bU w' w.heap.size t a b:=by
 subst d;subst c;exact UG _ _
def Made(w:World)(S:Nat->Prop)(t:Nd)(e:Ending)(w':World):Prop:=∃u,e=rV (pV u)/\At w' t (λx=>S x\/w.heap.size<=x) (pV u)/\yW w w'
def qh(w p v)(c:nG (.leaf [] p v))(g:mR (.leaf [] p v))(T:aB w):yC 132 #[sV (ae p),sV (ae v)] w (Made w (λ_=>False) (Nd.leaf [] p v).mk):=by
 have B:∀W,W=w.alloc (.cells (fG 1 ⟨#[]⟩ (ae p) (ae v) cN (λ_=>cN)) 167)->bU W w.heap.size (.leaf [] p v) cN (λ_=>cN):=λW a=>rN w W _ _ _ _ a rfl
 have h:yH (∀W,W=w.alloc (.cells (fG 1 ⟨#[]⟩ (ae p) (ae v) cN (λ_=>cN)) 167)->yC 148 #[ptr w.heap.size] W λe w'=>e=rV (ptr w.heap.size)/\bU w' w.heap.size (Nd.leaf [] p v).mk cN (λ_=>cN)/\yW w w'):=λW a=>
  (AO W (.leaf [] p v) (λx=>x=w.heap.size) w.heap.size cN (λ_=>cN) ⟨_,rfl,rfl,B W a⟩ (B W a) c trivial rfl g (by rw[a];exact yG T _)).mono λe w'⟨h1,h2,h3⟩=>⟨h1,h2,by
   have i:Kept w.heap.size w W:=by rw[a];exact(Kept.refl _ _).alloc _
   exact(i.trans h3).below (Ug _)⟩
 clear B c g T;unfold ptr at*;generalize hP:ae p=P at*;generalize hV:ae v=V at*;go_enter func132,ntmps132
 go_wp2_with fail
 refine(h.o _ rfl).mono ?_;rintro e w1⟨rfl,d,f⟩;have b:yH (bU w1 w.heap.size (Nd.leaf [] p v).mk cN (λ_=>cN)/\yW w w1):=⟨d,f⟩
 clear d f;go_wp2;go_ret;exact⟨_,rfl,⟨_,rfl,.inr (Ug _),b.o.1⟩,b.o.2⟩
def zU(w p k S u)(f:At w k S (pV u))(g:nG (.ext [] p k))(h:mR (.ext [] p k))(T:aB w):yC 135 #[sV (ae p),pV u] w (Made w S (Nd.ext [] p k).mk):=by
 have c:=f.cut;have B:∀W,W=w.alloc (.cells (fG 2 ⟨#[]⟩ (ae p) ⟨#[]⟩ (pV u) (λ_=>cN)) 167)->bU W w.heap.size (.ext [] p k) (pV u) (λ_=>cN):=λW a=>rN w W _ _ _ _ a rfl
 have j:yH (∀W,W=w.alloc (.cells (fG 2 ⟨#[]⟩ (ae p) ⟨#[]⟩ (pV u) (λ_=>cN)) 167)->yC 148 #[ptr w.heap.size] W λe w'=>e=rV (ptr w.heap.size)/\At w' (Nd.ext [] p k).mk (λx=>S x\/w.heap.size<=x) (ptr w.heap.size)/\yW w w'):=λW a=>by
  have m:At W k (λx=>S x/\x<w.heap.size) (pV u):=by rw[a];exact c.below ((Un _ _).alloc (Ug _) _)
  refine(AO W (.ext [] p k) (λx=>S x\/x=w.heap.size) w.heap.size (pV u) (λ_=>cN) ⟨_,_,_,rfl,.inr rfl,B W a,λx d=>⟨.inl d.1,by omega⟩,m⟩ (B W a) g trivial rfl h (by rw[a];exact yG T _)).mono ?_;rintro e w'⟨h1,h2,h3⟩;have l:Kept w.heap.size w W:=by rw[a];exact(Kept.refl _ _).alloc _
  have b:=(l.trans h3).below (Ug _);exact⟨h1,⟨_,_,_,rfl,.inr (Ug _),h2,λx d=>⟨.inl d.1,by omega⟩,c.below b⟩,b⟩
 clear B g h T f c;unfold ptr at*;generalize hP:ae p=P at*;go_enter func135,ntmps135
 go_wp2_with fail
 refine(j.o _ rfl).mono ?_;rintro e w1⟨rfl,b⟩;have i:=aa b;clear b;go_wp2;go_ret;exact⟨_,rfl,i.o⟩
structure Kids(w:World)(ks:Nat->Nd)(S:Nat->Prop)(u:Nat->Option Addr)(Ss:Nat->Nat->Prop):Prop where
 at_:∀i,i<16->At w (ks i) (Ss i) (pV (u i))
 sub:∀i x,i<16->Ss i x->S x
 jf:∀i j x,i<16->j<16->Ss i x->Ss j x->i=j
def wO(w v)(ks:Nat->Nd)(S)(u:Nat->Option Addr)(d:Nat->Nat->Prop)(f:Kids w ks S u d)(r:nG (.branch [] v ks))(t:mR (.branch [] v ks))(T:aB w):yC 137 #[gU u,sV (ae v)] w (Made w S (Nd.branch [] v ks).mk):=by
 have k:∀i,i<16->At w (ks i) (λx=>d i x/\x<w.heap.size) (pV (u i)):=λi hi=>(f.at_ i hi).cut
 have o:=f.sub;have m:=f.jf;obtain⟨a,l⟩:=yX (w.alloc (.cells #[pV (u 0),pV (u 1),pV (u 2),pV (u 3),pV (u 4),pV (u 5),pV (u 6),pV (u 7),pV (u 8),pV (u 9),pV (u 10),pV (u 11),pV (u 12),pV (u 13),pV (u 14),pV (u 15)] 165));have y:a.heap.size=w.heap.size+1:=by rw[l];simp
 have g:yW w a:=by rw[l];exact(Un _ _).alloc (Ug _) _
 have q:=T.below g;have B:∀W,W=a.alloc (.cells (fG 3 ⟨#[]⟩ ⟨#[]⟩ (ae v) cN (λi=>pV (u i))) 167)->bU W a.heap.size (.branch [] v ks) cN (λi=>pV (u i)):=λW b=>rN a W _ _ _ _ b rfl
 have A:yH (∀W,W=a.alloc (.cells (fG 3 ⟨#[]⟩ ⟨#[]⟩ (ae v) cN (λi=>pV (u i))) 167)->yC 148 #[ptr (w.heap.size+1)] W λe w'=>e=rV (ptr (w.heap.size+1))/\At w' (Nd.branch [] v ks).mk (λx=>S x\/w.heap.size<=x) (ptr (w.heap.size+1))/\yW w w'):=λW b=>by
  have s:yW w W:=by rw[b];exact g.alloc g.size _
  have h:=B W b;rw[y] at h;refine(AO W (.branch [] v ks) (λx=>S x\/x=w.heap.size+1) (w.heap.size+1) cN (λi=>pV (u i)) ⟨_,_,λi x=>d i x/\x<w.heap.size,rfl,.inr rfl,h,λi x hi p=>⟨.inl (o i x hi p.1),by omega⟩,λi j x hi n h1 h2=>m i j x hi n h1.1 h2.1,λi hi=>(k i hi).below s⟩ h r trivial rfl t (by rw[b];exact yG q _)).mono ?_;rintro e w'⟨h1,h2,h3⟩;have C:Kept (w.heap.size+1) w W:=Kept.iP s _;have c:=(C.trans h3).below (Nat.le_succ _);exact⟨h1,⟨_,_,λi x=>d i x/\x<w.heap.size,rfl,.inr (Nat.le_succ _),h2,λi x hi p=>⟨.inl (o i x hi p.1),by omega⟩,λi j x hi n h1 h2=>m i j x hi n h1.1 h2.1,λi hi=>(k i hi).below c⟩,c⟩
 clear B r t T f k o m y g q;unfold ptr gU at*;generalize hP:ae v=V at*;go_enter func137,ntmps137
 go_wp2_with fail
 rw[<-l];refine(A.o _ rfl).mono ?_;rintro e w1⟨rfl,c⟩;have z:=aa c;clear c;go_wp2;go_ret;exact⟨_,rfl,z.o⟩
def js(t:Nd):Prop:=t.hash=fX t.code\/t.hash=fe t.code
def Nd.fY:Nd->Prop
 | .unread _=>True
 | .branch _ _ _=>True
 | _=>False
def aO:Nd->Prop
 | .nil=>True
 | .unread h=>h.length=32
 | .leaf h p v=>js (.leaf h p v)/\aw p/\p.length<=80/\v.length<=160
 | .ext h p k=>js (.ext h p k)/\aw p/\p.length<=80/\k.fY/\aO k
 | .branch h v ks=>js (.branch h v ks)/\v.length<=160/\∀i,i<16->aO (ks i)
def js.cases{t}(h:js t):(t.hash=[]/\t.code.length<32)\/t.hash.length=32:=by
 rcases h with h|h
 .unfold fX at h;by_cases a:32<=t.code.length
  .rw[Uj a] at h;right;rw[h];exact kE _
  rw[Ui a] at h;exact .inl ⟨h,by omega⟩
 right;rw[h];exact kE _
def js.two{t}(h:js t):t.hash=[]\/t.hash.length=32:=h.cases.imp (λh=>h.1) id
def js.short{t}(h:js t)(e:t.hash=[]):t.code.length<32:=by
 rcases h.cases with h|h
 .exact h.2
 rw[e] at h;cases h
def aO.lL:∀{t},aO t->nG t
 | .nil,_=>trivial
 | .unread _,h=>h
 | .leaf _ _ _,h=>⟨h.1.two,h.2⟩
 | .ext _ _ _,h=>⟨h.1.two,h.2.1,h.2.2.1,h.2.2.2.2.lL⟩
 | .branch _ _ _,h=>⟨h.1.two,h.2.1,λi hi=>(h.2.2 i hi).lL⟩
def lT:∀(d:Nat) (x:Tree),bN d x=true->bN (d+1) x=true
 |d,x,h=>by
  rcases uE d x h with⟨t,rfl⟩|⟨e,ks,rfl,rfl,h1,h2⟩
  .exact nz _ _
  rw[nA]
  simp only[Vr,VJ,Vy]
  exact⟨h1,λk a=>lT e k (Vy.1 h2 k a)⟩
def xG:∀(d:Nat) (x:Tree),bN d x=true->bu (d+1) x=bu d x
 |d,x,h=>by
  rcases uE d x h with⟨t,rfl⟩|⟨e,ks,rfl,rfl,h1,h2⟩
  .rw[ij,ij]
  rw[kI,kI]
  congr 2
  exact Vz λk a=>xG e k (Vy.1 h2 k a)
def qm(b:yL):b.length+1<=(gZ b).length/\(gZ b).length<=b.length+9:=by
 unfold gZ;rw[Uq];have:=AK 192 b.length;have:=AJ 192 b.length;omega
def pW(t):1<=(cL t).length/\(cL t).length<=t.length+9:=by
 refine⟨Da t,?_⟩;unfold cL;split
 .omega
 rw[Uq];have:=AK 128 t.length;omega
def re(t:yL)(h:t.length=32):(cL t).length=33:=by
 have a:fN t≠true:=by unfold fN;simp[h]
 unfold cL;rw[Ui a,Uq,h];rfl
def AV:∀(L:List yL),(∀c∈L,1<=c.length)->L.length<=L.flatten.length/\∀c∈L,c.length+L.length<=L.flatten.length+1
 | [],_=>⟨Ug _,λc b=>by cases b⟩
 |a::L,h=>by
  let⟨h1,h2⟩:=AV L λc b=>h c (Ul _ b)
  have d:=h a (Uk ..)
  rw[List.flatten_cons,Uq]
  refine⟨by simp only[UJ];omega,λc b=>?_⟩
  rcases UC.1 b with rfl|b
  .simp only[UJ];omega
  have:=h2 c b;simp only[UJ];omega
def Iv:∀(L:List yL) (m:Nat),(∀c∈L,c.length<=m)->L.flatten.length<=L.length*m
 | [],m,_=>by simp
 |a::L,m,h=>by
  have:=Iv L m λc b=>h c (Ul _ b)
  have d:=h a (Uk ..)
  rw[List.flatten_cons,Uq,UJ,Nat.succ_mul]
  omega
def Ay(t:Nd):∃ks,t.item=bJ ks:=by cases t<;>exact⟨_,rfl⟩
def zj(t:Nd):(∃s,t.ref=ak s)\/(t.ref=t.item/\t.hash=[]/\t.some):=by
 cases t with
 |nil=>exact .inl ⟨_,rfl⟩
 |unread h=>by_cases e:h=[];exact .inr ⟨Uj e,e,trivial⟩;exact .inl ⟨h,Ui e⟩
 |leaf h p v=>by_cases e:h=[];exact .inr ⟨Uj e,e,trivial⟩;exact .inl ⟨h,Ui e⟩
 |ext h p k=>by_cases e:h=[];exact .inr ⟨Uj e,e,trivial⟩;exact .inl ⟨h,Ui e⟩
 |branch h v ks=>by_cases e:h=[];exact .inr ⟨Uj e,e,trivial⟩;exact .inl ⟨h,Ui e⟩
def jQ{t:Nd}(hs:t.some)(h:t.hash≠[]):t.ref=ak t.hash:=by
 cases t<;>first|exact hs.elim|exact Ui h
def ml{t:Nd}(hs:t.some)(h:t.hash=[]):t.ref=t.item:=by
 cases t<;>first|exact hs.elim|exact Uj h
def Nf(d:Nat)(t:Nd):1<=(bu (d+1) t.ref).length:=by
 rcases zj t with⟨s,h⟩|⟨h,_⟩
 .rw[h,ij];exact(pW s).1
 let⟨ks,e⟩:=Ay t;rw[h,e,kI];exact Ut (Nat.le_add_left _ _) (qm _).1
def mM(d:Nat)(v:yL)(ks:Nat->Nd):List yL:=(List.range 16).map (λi=>bu d (ks i).ref)++[cL v]
def Bt(d:Nat)(h v)(ks:Nat->Nd):bu (d+1) (Nd.branch h v ks).item=gZ (mM d v ks).flatten:=by
 show bu (d+1) (bJ _)=_;rw[kI];congr 2;unfold mM;rw[Vl,List.map_map];congr 1;show [bu d (ak v)]=_;rw[ij]
def Bx(d:Nat)(v)(ks:Nat->Nd):(mM d v ks).length=17:=by simp[mM]
def Jv(d:Nat)(v)(ks:Nat->Nd):∀c∈mM (d+1) v ks,1<=c.length:=by
 intro c a;rcases UA.1 a with a|a
 .obtain⟨i,_,rfl⟩:=UO.1 a;exact Nf d (ks i)
 obtain rfl:=Uo.1 a;exact(pW v).1
def Je(d:Nat)(h p k):bu (d+1) (Nd.ext h p k).item=gZ (cL (cR p false)++bu d k.ref):=by
 show bu (d+1) (bJ [ak _,k.ref])=_;rw[kI];simp[ij]
def SE(d:Nat)(h p v):bu (d+1) (Nd.leaf h p v).item=gZ (cL (cR p true)++cL v):=by
 show bu (d+1) (bJ [ak _,ak _])=_;rw[kI];simp[ij]
def Jt(d:Nat)(h v)(ks:Nat->Nd):18<=(bu (d+2) (Nd.branch h v ks).item).length:=by
 rw[Bt];have h1:=(qm (mM (d+1) v ks).flatten).1;have h2:=(AV _ (Jv d v ks)).1;rw[Bx] at h2;omega
def RP(d:Nat)(h p)(k:Nd)(a:k.fY)(b:aO k):20<=(bu (d+3) (Nd.ext h p k).item).length:=by
 rw[Je];have h1:=(qm (cL (cR p false)++bu (d+2) k.ref)).1;rw[Uq] at h1;have h2:=(pW (cR p false)).1;have h3:18<=(bu (d+2) k.ref).length:=by
  cases k with
  |unread x=>
   have c:x≠[]:=λe=>by subst e;cases b
   rw[jQ (t:=.unread x) trivial c,ij];have:=re x b;show 18<=(cL x).length;omega
  |branch x v ks=>
   by_cases e:x=[]
   .rw[ml (t:=.branch x v ks) trivial e];exact Jt d x v ks
   rw[jQ (t:=.branch x v ks) trivial e,ij,re _ (b.1.two.resolve_left e)];omega
  |nil=>exact a.elim
  |leaf _ _ _=>exact a.elim
  |ext _ _ _=>exact a.elim
 omega
def AY(d:Nat)(h p v):bN (d+1) (Nd.leaf h p v).item=true:=by
 show bN (d+1) (bJ [ak _,ak _])=true;rw[nA];simp[nz]
def Iz(d:Nat)(h p)(k:Nd)(a:bN d k.ref=true):bN (d+1) (Nd.ext h p k).item=true:=by
 show bN (d+1) (bJ [ak _,k.ref])=true;rw[nA];simp[nz,a]
def IA(d:Nat)(h v)(ks:Nat->Nd)(b:∀i,i<16->bN d (ks i).ref=true):bN (d+1) (Nd.branch h v ks).item=true:=by
 show bN (d+1) (bJ _)=true;rw[nA];simp only[Vr,VJ,Vy];refine⟨by simp,λx a=>?_⟩;rcases UA.1 a with a|a
 .obtain⟨i,hi,rfl⟩:=UO.1 a;exact b i (Vq.1 hi)
 obtain rfl:=Uo.1 a;exact nz _ _
def GW(h v)(ks:Nat->Nd)(hF:aO (.branch h v ks))(he:h=[]):bN 2 (Nd.branch h v ks).item=true:=by
 refine IA 1 h v ks λi hi=>?_
 rcases zj (ks i) with⟨s,e⟩|⟨e,eh,es⟩
 .rw[e];exact nz _ _
 have hs:(bu 6 (Nd.branch h v ks).item).length<32:=hF.1.short he;rw[Bt] at hs;have h1:=(qm (mM 5 v ks).flatten).1;have h2:(bu 5 (ks i).ref).length+(mM 5 v ks).length<=(mM 5 v ks).flatten.length+1:=(AV _ (Jv 4 v ks)).2 (bu 5 (ks i).ref) (UA.2 (.inl (UO.2 ⟨i,Vq.2 hi,rfl⟩)));rw[Bx] at h2;have A1:(bu 5 (ks i).ref).length<=14:=by omega
 have A0:=hF.2.2 i hi;rw[e] at A1⊢;clear h1 h2 hs e;generalize ks i=K at*;cases K with
 |nil=>exact es.elim
 |unread x=>have:x.length=32:=A0;rw[show x=[] from eh] at this;cases this
 |leaf x p w=>exact AY 0 x p w
 |ext x p k=>have:20<=(bu 5 (Nd.ext x p k).item).length:=RP 2 x p k A0.2.2.2.1 A0.2.2.2.2;exact absurd A1 (by omega)
 |branch x w k=>have:18<=(bu 5 (Nd.branch x w k).item).length:=Jt 3 x w k;exact absurd A1 (by omega)
def xr(t)(a:aO t)(hs:t.some)(d:t.hash=[]):bN 3 t.item=true:=by
 cases t with
 |nil=>exact hs.elim
 |unread x=>have:x.length=32:=a;rw[show x=[] from d] at this;cases this
 |leaf x p v=>exact AY 2 x p v
 |ext x p k=>
  refine Iz 2 x p k ?_;have b:=a.2.2.2.1;have c:=a.2.2.2.2;cases k with
  |unread y=>
   have f:y≠[]:=λe=>by subst e;cases c
   rw[jQ (t:=.unread y) trivial f];exact nz _ _
  |branch y v ks=>
   by_cases e:y=[]
   .rw[ml (t:=.branch y v ks) trivial e];exact GW y v ks c e
   rw[jQ (t:=.branch y v ks) trivial e];exact nz _ _
  |nil=>exact b.elim
  |leaf _ _ _=>exact b.elim
  |ext _ _ _=>exact b.elim
 |branch x v ks=>exact lT 2 _ (GW x v ks a d)
def Et(t)(c:aO t):bN 3 t.ref=true:=by
 rcases zj t with⟨s,e⟩|⟨e,a,b⟩
 .rw[e];exact nz _ _
 rw[e];exact xr t c b a
def Es(t)(a:aO t):(bu 5 t.ref).length<=33:=by
 cases t with
 |nil=>decide
 |unread x=>
  have b:x≠[]:=λe=>by subst e;cases a
  rw[jQ (t:=.unread x) trivial b,ij];have:=re x a;show(cL x).length<=33;omega
 |leaf x p v=>
  by_cases e:x=[]
  .have h1:=a.1.short e;have h2:=xr _ a trivial e;rw[ml (t:=.leaf x p v) trivial e,<-xG 5 _ (lT 4 _ (lT 3 _ h2))];show(Nd.leaf x p v).code.length<=33;omega
  rw[jQ (t:=.leaf x p v) trivial e,ij,re _ (a.1.two.resolve_left e)];omega
 |ext x p v=>
  by_cases e:x=[]
  .have h1:=a.1.short e;have h2:=xr _ a trivial e;rw[ml (t:=.ext x p v) trivial e,<-xG 5 _ (lT 4 _ (lT 3 _ h2))];show(Nd.ext x p v).code.length<=33;omega
  rw[jQ (t:=.ext x p v) trivial e,ij,re _ (a.1.two.resolve_left e)];omega
 |branch x p v=>
  by_cases e:x=[]
  .have h1:=a.1.short e;have h2:=xr _ a trivial e;rw[ml (t:=.branch x p v) trivial e,<-xG 5 _ (lT 4 _ (lT 3 _ h2))];show(Nd.branch x p v).code.length<=33;omega
  rw[jQ (t:=.branch x p v) trivial e,ij,re _ (a.1.two.resolve_left e)];omega
def ov(h p v:yL)(a:p.length<=80)(b:v.length<=160):mR (.leaf h p v):=by
 refine⟨AY 5 h p v,?_⟩;show(bu 6 (Nd.leaf h p v).item).length<=4096;rw[SE];have h1:=(qm (cL (cR p true)++cL v)).2;have h2:=(pW (cR p true)).2;have h3:=(pW v).2;rw[rD] at h2;rw[Uq] at h1;omega
def uN(h p:yL)(k)(b:p.length<=80)(a:aO k):mR (.ext h p k):=by
 refine⟨Iz 5 h p k (lT 4 _ (lT 3 _ (Et k a))),?_⟩;show(bu 6 (Nd.ext h p k).item).length<=4096;rw[Je];have h1:=(qm (cL (cR p false)++bu 5 k.ref)).2;have h2:=(pW (cR p false)).2;have h3:=Es k a;rw[rD] at h2;rw[Uq] at h1;omega
def sq(h v:yL)(ks:Nat->Nd)(d:v.length<=160)(b:∀i,i<16->aO (ks i)):mR (.branch h v ks):=by
 refine⟨IA 5 h v ks λi hi=>lT 4 _ (lT 3 _ (Et _ (b i hi))),?_⟩;show(bu 6 (Nd.branch h v ks).item).length<=4096;rw[Bt];have h1:=(qm (mM 5 v ks).flatten).2;have h2:=Iv (mM 5 v ks) 169 (λc a=>by
  rcases UA.1 a with a|a
  .obtain⟨i,hi,rfl⟩:=UO.1 a;have:=Es _ (b i (Vq.1 hi));omega
  obtain rfl:=Uo.1 a;have:=(pW v).2;omega)
 rw[Bx] at h2;omega
def aO.ow{t}(h:aO t)(a:t.read):mR t:=by
 cases t with
 |nil=>exact a.elim
 |unread _=>exact a.elim
 |leaf x p v=>exact ov x p v h.2.2.1 h.2.2.2
 |ext x p k=>exact uN x p k h.2.2.1 h.2.2.2.2
 |branch x v ks=>exact sq x v ks h.2.1 h.2.2
def dw(p v:yL):Nd:=(Nd.leaf [] p v).mk
def gm(p:yL)(k:Nd):Nd:=(Nd.ext [] p k).mk
def dN(ks:Nat->Nd)(v:yL):Nd:=(Nd.branch [] v ks).mk
def pA{p v:yL}(a:aw p)(b:p.length<=80)(c:v.length<=160):aO (dw p v):=⟨.inl rfl,a,b,c⟩
def uG{p}{k:Nd}(c:aw p)(d:p.length<=80)(a:k.fY)(b:aO k):aO (gm p k):=⟨.inl rfl,c,d,a,b⟩
def r6{v:yL}{ks}(b:v.length<=160)(a:∀i,i<16->aO (ks i)):aO (dN ks v):=⟨.inl rfl,b,a⟩
def aX(p:yL):Nd->Nd
 | .leaf h q v=>if p=[] then .leaf h q v else dw (p++q) v
 | .ext h q k=>if p=[] then .ext h q k else gm (p++q) k
 | .nil=>if p=[] then .nil else gm p .nil
 | .unread h=>if p=[] then .unread h else gm p (.unread h)
 | .branch h v ks=>if p=[] then .branch h v ks else gm p (.branch h v ks)
def mG(t):aX [] t=t:=by cases t<;>simp[aX]
def lg{a b}(c:aw a)(d:aw b):aw (a++b):=λx e=>(UA.1 e).elim (c x) (d x)
def Ba{p}{t:Nd}(c:aw p)(d:p.length+t.path.length<=80)(hs:t.some)(a:aO t):aO (aX p t):=by
 by_cases b:p=[]
 .subst b;rwa[mG]
 cases t with
 |nil=>exact hs.elim
 |leaf h q v=>simp only[aX,Ui b];exact pA (lg c a.2.1) (by rwa[Uq]) a.2.2.2
 |ext h q k=>simp only[aX,Ui b];exact uG (lg c a.2.1) (by rwa[Uq]) a.2.2.2.1 a.2.2.2.2
 |unread h=>simp only[aX,Ui b];exact uG c (by have:(Nd.unread h).path.length=0:=rfl;omega) trivial a
 |branch h v ks=>simp only[aX,Ui b];exact uG c (by have:(Nd.branch h v ks).path.length=0:=rfl;omega) trivial a
def Made.mono{w S S' t e w'}(h:Made w S t e w')(hs:∀x,S x->S' x):Made w S' t e w':=by
 let⟨u,h1,h2,h3⟩:=h;exact⟨u,h1,h2.mono λx a=>a.imp (hs x) id,h3⟩
def Made.after{w w0:World}{S t e w'}(a:yW w w0)(h:Made w0 S t e w'):Made w S t e w':=by
 let⟨u,h1,h2,h3⟩:=h;exact⟨u,h1,h2.mono λx b=>b.imp id (Ut a.size),a.trans (h3.mono a.size)⟩
def QT(w t S u)(a:At w t S (pV u)):yC 114 #[sV ⟨#[]⟩,pV u] w (Made w S t):=by
 have b:yH (At w t (λx=>S x\/w.heap.size<=x) (pV u)):=a.mono λx c=>.inl c
 clear a;go_enter func114,ntmps114
 go_wp2;go_ret;exact⟨u,rfl,b.o,Un _ _⟩
def QU(w)(p h q v:yL)(hp:p≠[])(S u)(hn:aw p)(hl:p.length+q.length<=80)(hF:aO (.leaf h q v))(hA:At w (.leaf h q v) S (pV u))(T:aB w):yC 114 #[sV (ae p),pV u] w (Made w S (dw (p++q) v)):=by
 obtain⟨b,hu,hs,B⟩:=hA;cases hu;have c0:yc w b 0 (i6 1):=B.c0;have c2:yc w b 2 (sV (ae q)):=B.c2;have c3:yc w b 3 (sV (ae v)):=B.c3;have A2:=B.lt;have he:(ae p).toList.isEmpty=false:=by rw[ke];simp[hp]
 have A0:=pA (lg hn hF.2.1) (by rw[Uq];exact hl) hF.2.2.2;have HL:yH (∀W,yW w W->yC 132 #[sV (ae p++ae q),sV (ae v)] W (Made w S (dw (p++q) v))):=λW hW=>by
  rw[rh];exact(qh W (p++q) v ⟨.inl rfl,A0.2⟩ (ov _ _ _ A0.2.2.1 A0.2.2.2) (T.below hW)).mono λe w' h=>(h.mono λx hx=>hx.elim).after hW
 have A3:(ae p).size+(ae q).size<=80:=by rw[aN,aN];exact hl
 clear B A0 hF hp hn T;generalize ae p=P at*;generalize ae q=Q at*;generalize hV:ae v=V at*;go_enter func114,ntmps114
 go_wp2_with fail
 go_region_with (go_at_call 132;refine(HL.o _ (by first|exact Un _ _ |exact(Un _ _).drew)).mono ?_;rintro e1 w1⟨u1,rfl,A1⟩)
 all_goals
  have HF:yH _:=A1;clear A1;go_wp2;go_ret;exact⟨u1,rfl,HF.o⟩
def QV(w)(p h q:yL)(k)(hp:p≠[])(S u)(hn:aw p)(hl:p.length+q.length<=80)(hF:aO (.ext h q k))(hA:At w (.ext h q k) S (pV u))(T:aB w):yC 114 #[sV (ae p),pV u] w (Made w S (gm (p++q) k)):=by
 obtain⟨b,kp,S1,hu,hs,B,A2,hK⟩:=hA;cases hu;obtain⟨uk,rfl⟩:=hK.ptr;have c0:yc w b 0 (i6 2):=B.c0;have c2:yc w b 2 (sV (ae q)):=B.c2;have c4:yc w b 4 (pV uk):=B.c4;have A3:=B.lt;have he:(ae p).toList.isEmpty=false:=by rw[ke];simp[hp]
 have A0:=uG (lg hn hF.2.1) (by rw[Uq];exact hl) hF.2.2.2.1 hF.2.2.2.2;have HL:yH (∀W,yW w W->yC 135 #[sV (ae p++ae q),pV uk] W (Made w S (gm (p++q) k))):=λW hW=>by
  rw[rh];exact(zU W (p++q) k S1 uk (hK.below hW) ⟨.inl rfl,A0.2.1,A0.2.2.1,hF.2.2.2.2.lL⟩ (uN _ _ _ A0.2.2.1 hF.2.2.2.2) (T.below hW)).mono λe w' h=>(h.mono λx hx=>(A2 x hx).1).after hW
 have A4:(ae p).size+(ae q).size<=80:=by rw[aN,aN];exact hl
 clear B A0 hF hp hn T hK A2;generalize ae p=P at*;generalize ae q=Q at*;go_enter func114,ntmps114
 go_wp2_with fail
 go_region_with (go_at_call 135;refine(HL.o _ (by first|exact Un _ _ |exact(Un _ _).drew)).mono ?_;rintro e1 w1⟨u1,rfl,A1⟩)
 all_goals
  have HF:yH _:=A1;clear A1;go_wp2;go_ret;exact⟨u1,rfl,HF.o⟩
def GN(w p)(t:Nd)(h:p≠[])(S u)(g:aw p)(f:p.length<=80)(e:t.fY)(c:aO t)(a:At w t S (pV u))(T:aB w):yC 114 #[sV (ae p),pV u] w (Made w S (gm p t)):=by
 have j:=aa (zU w p t S u a ⟨.inl rfl,g,f,c.lL⟩ (uN _ _ _ f c) T);obtain⟨b,o,q,l,hs,B⟩:=a.ai (by cases t<;>first|exact e.elim|trivial);cases l;have k:t.kind=0\/t.kind=3:=by cases t<;>first|exact e.elim|exact .inl rfl|exact .inr rfl
 have c0:=B.c0;have n:=B.lt;have m:(ae p).toList.isEmpty=false:=by rw[ke];simp[h]
 clear B c h g T a;generalize t.kind=K at*;generalize ae p=P at*;rcases k with rfl|rfl;all_goals
  go_enter func114,ntmps114
  go_wp2_with fail
  apply j.m;rintro e1 w1⟨u1,rfl,d⟩;have i:yH _:=d;clear d;go_wp2;go_ret;exact⟨u1,rfl,i.o⟩
def xj(w p)(t:Nd)(S u)(d:aw p)(e:p.length+t.path.length<=80)(hs:t.some)(c:aO t)(b:At w t S (pV u))(T:aB w):yC 114 #[sV (ae p),pV u] w (Made w S (aX p t)):=by
 by_cases a:p=[]
 .subst a;rw[mG];exact QT w t S u b
 cases t with
 |nil=>exact hs.elim
 |leaf h q v=>simp only[aX,Ui a];exact QU w p h q v a S u d e c b T
 |ext h q k=>simp only[aX,Ui a];exact QV w p h q k a S u d e c b T
 |unread h=>simp only[aX,Ui a];exact GN w p _ a S u d (by have:(Nd.unread h).path.length=0:=rfl;omega) trivial c b T
 |branch h v ks=>simp only[aX,Ui a];exact GN w p _ a S u d (by have:(Nd.branch h v ks).path.length=0:=rfl;omega) trivial c b T
def pH(u:Nat->Option Addr):Array Value:=((List.range 16).map (λi=>Value.pointer (u i))).toArray
def gx(u:Nat->Option Addr)(d:Nat)(x:Option Addr):Nat->Option Addr:=λi=>if i=d then x else u i
def eZ(w:World)(g:Nat)(u:Nat->Option Addr):Prop:=w.heap[g]? =some (.cells (pH u) 165 (0,0))
def BG(u:Nat->Option Addr):(pH u).size=16:=by simp[pH]
def xN(u:Nat->Option Addr)(i:Nat)(h:i<16):(pH u)[i]? =some (pV (u i)):=by
 unfold pH;rw[Vu,UK,List.getElem?_range h];rfl
def TH(u:Nat->Option Addr)(d:Nat)(x)(h:d<16):(pH u).setIfInBounds d (pV x)=pH (gx u d x):=by
 apply Vw;intro j;rw[Vi];by_cases a:d=j
 .subst a;rw[Uj rfl,Uj (by rw[BG];exact h),xN _ _ h];simp[gx]
 rw[Ui a];by_cases b:j<16
 .rw[xN _ _ b,xN _ _ b];simp[gx,Ne.symm a]
 rw[UF (by rw[BG];omega),UF (by rw[BG];omega)]
namespace eZ
variable {w : World} {g : Nat} {u : Nat → Option Addr}
def lt(h:eZ w g u):g<w.heap.size:=(Um.1 h).1
def cell(h:eZ w g u)(i:Nat)(hi:i<16):w.cell? ⟨g,i,none⟩=some (pV (u i)):=by rw[Ur w g i _ _ _ h,xN u i hi]
def free(h:eZ w g u)(o:Nat):w.frozen? ⟨g,o,none⟩=false:=by simp[World.frozen?,show w.heap[g]? =_ from h]
def set(h:eZ w g u)(d:Nat)(x)(a:d<16):eZ (w.setCell ⟨g,d,none⟩ (pV x)) g (gx u d x):=by
 unfold eZ;rw[Vo w g d _ _ _ h,TH u d x a]
def kept{w':World}(h:eZ w g u)(k:w'.heap[g]? =w.heap[g]?):eZ w' g u:=k.trans h
def made(w:World)(u:Nat->Option Addr):eZ (w.alloc (.cells (pH u) 165)) w.heap.size u:=UG _ _
def all(h:eZ w g u):yc w g 0 (pV (u 0))/\yc w g 1 (pV (u 1))/\yc w g 2 (pV (u 2))/\yc w g 3 (pV (u 3))/\yc w g 4 (pV (u 4))/\yc w g 5 (pV (u 5))/\yc w g 6 (pV (u 6))/\yc w g 7 (pV (u 7))/\yc w g 8 (pV (u 8))/\yc w g 9 (pV (u 9))/\yc w g 10 (pV (u 10))/\yc w g 11 (pV (u 11))/\yc w g 12 (pV (u 12))/\yc w g 13 (pV (u 13))/\yc w g 14 (pV (u 14))/\yc w g 15 (pV (u 15)):=⟨h.cell 0 (by omega),h.cell 1 (by omega),h.cell 2 (by omega),h.cell 3 (by omega),h.cell 4 (by omega),h.cell 5 (by omega),h.cell 6 (by omega),h.cell 7 (by omega),h.cell 8 (by omega),h.cell 9 (by omega),h.cell 10 (by omega),h.cell 11 (by omega),h.cell 12 (by omega),h.cell 13 (by omega),h.cell 14 (by omega),h.cell 15 (by omega)⟩
end eZ
def gJ(t:Nd)(p:yL):Nd:=match t with
 | .leaf _ _ v=>dw p v
 | .ext _ _ k=>aX p k
 |t=>t
def qu(p)(t:Nd)(h:t.some):(aX p t).some:=by
 by_cases a:p=[]
 .subst a;rwa[mG]
 cases t<;>first|exact h.elim| (simp only[aX,Ui a];trivial)
def oq{t:Nd}(h:t.fY):t.some:=by cases t<;>first|exact h.elim|trivial
def Im{t:Nd}(h:t.fY):t.path=[]:=by cases t<;>first|exact h.elim|rfl
def ID{t:Nd}{p}(b:t.kind=1\/t.kind=2)(d:aw p)(c:p.length<=80)(a:aO t):aO (gJ t p):=by
 cases t with
 |nil=>rcases b with h|h<;>cases h
 |unread _=>rcases b with h|h<;>cases h
 |branch _ _ _=>rcases b with h|h<;>cases h
 |leaf h q v=>exact pA d c a.2.2.2
 |ext h q k=>exact Ba d (by rwa[Im a.2.2.2.1]) (oq a.2.2.2.1) a.2.2.2.2
def Dj(w)(t:Nd)(p S u)(hk:t.kind=1\/t.kind=2)(hn:aw p)(hl:p.length<=80)(hF:aO t)(hA:At w t S (pV u))(T:aB w):yC 149 #[pV u,sV (ae p)] w (Made w S (gJ t p)):=by
 cases t with
 |nil=>rcases hk with h|h<;>cases h
 |unread _=>rcases hk with h|h<;>cases h
 |branch _ _ _=>rcases hk with h|h<;>cases h
 |leaf h q v=>
  obtain⟨b,hu,hs,B⟩:=hA;cases hu;have c0:yc w b 0 (i6 1):=B.c0;have c3:yc w b 3 (sV (ae v)):=B.c3;have HL:yH (yC 132 #[sV (ae p),sV (ae v)] w (Made w S (dw p v))):=
   (qh w p v ⟨.inl rfl,hn,hl,hF.2.2.2⟩ (ov _ _ _ hl hF.2.2.2) T).mono λe w' h=>h.mono λx hx=>hx.elim
  show yC 149 _ w (Made w S (dw p v));clear B hk hF hn T hl;generalize dw p v=R at*;generalize ae p=P at*;generalize ae v=V at*;go_enter func149,ntmps149
  go_wp2_with fail
  apply HL.m;rintro e1 w1⟨u1,rfl,A0⟩;have HF:yH _:=A0;clear A0;go_wp2;go_ret;exact⟨u1,rfl,HF.o⟩
 |ext h q k=>
  obtain⟨b,kp,S1,hu,hs,B,A1,hK⟩:=hA;cases hu;obtain⟨uk,rfl⟩:=hK.ptr;have c0:yc w b 0 (i6 2):=B.c0;have c4:yc w b 4 (pV uk):=B.c4;have HL:yH (yC 114 #[sV (ae p),pV uk] w (Made w S (aX p k))):=
   (xj w p k S1 uk hn (by rw[Im hF.2.2.2.1];exact hl) (oq hF.2.2.2.1) hF.2.2.2.2 hK T).mono λe w' h=>h.mono λx hx=>(A1 x hx).1
  show yC 149 _ w (Made w S (aX p k));clear B hk hF hn T hl hK A1;generalize aX p k=R at*;generalize ae p=P at*;go_enter func149,ntmps149
  go_wp2_with fail
  apply HL.m;rintro e1 w1⟨u1,rfl,A0⟩;have HF:yH _:=A0;clear A0;go_wp2;go_ret;exact⟨u1,rfl,HF.o⟩
def aJ(ks:Nat->Nd)(d:Nat)(k:Nd):Nat->Nd:=λi=>if i=d then k else ks i
def fQ(a:Nat->Nat->Prop)(d:Nat)(F:Nat->Prop):Nat->Nat->Prop:=λi=>if i=d then F else a i
def dK(ks:Nat->Nd)(d:Nat)(k):aJ ks d k d=k:=by simp[aJ]
def e9(ks:Nat->Nd)(d:Nat)(k)(i:Nat)(h:i≠d):aJ ks d k i=ks i:=by simp[aJ,h]
def Kids.put{w w':World}{ks S u b}(h:Kids w ks S u b)(l:∀x,S x->x<w.heap.size->w'.heap[x]? =w.heap[x]?)(d:Nat) (k:Nd) (x:Option Addr) (F:Nat->Prop) (g:At w' k F (pV x)) (c:∀y,F y->S y/\∀i,i<16->i≠d->¬b i y):Kids w' (aJ ks d k) S (gx u d x) (fQ b d F):=by
 refine⟨λi hi=>?_,λi y hi a=>?_,λi j y hi f h1 h2=>?_⟩
 .by_cases e:i=d
  .subst e;simp only[aJ,gx,fQ,U5];exact g
  simp only[aJ,gx,fQ,e,UT];exact(h.at_ i hi).kept λy a=>l y (h.sub i y hi a)
 .by_cases e:i=d
  .subst e;simp only[fQ,U5] at a;exact(c y a).1
  simp only[fQ,e,UT] at a;exact h.sub i y hi a
 by_cases e:i=d
 .by_cases e2:j=d
  .omega
  subst e;simp only[fQ,U5,e2,UT] at h1 h2;exact((c y h1).2 j f e2 h2).elim
 by_cases e2:j=d
 .subst e2;simp only[fQ,U5,e,UT] at h1 h2;exact((c y h2).2 i hi e h1).elim
 simp only[fQ,e,e2,UT] at h1 h2;exact h.jf i j y hi f h1 h2
def Kids.cut{w ks S u a}(h:Kids w ks S u a):Kids w ks S u (λi x=>a i x/\x<w.heap.size):=
 ⟨λi hi=>(h.at_ i hi).cut,λi x hi c=>h.sub i x hi c.1,λi j x hi b h1 h2=>h.jf i j x hi b h1.1 h2.1⟩
def Kids.none(w S):Kids w (λ_=>.nil) S (λ_=>none) (λ_ _=>False):=⟨λ_ _=>rfl,λ_ _ _ h=>h.elim,λ_ _ _ _ _ h=>h.elim⟩
def Kids.mono{w ks S S' u a}(h:Kids w ks S u a)(hs:∀x,S x->S' x):Kids w ks S' u a:=
 ⟨h.at_,λi x hi b=>hs x (h.sub i x hi b),h.jf⟩
def Kids.kept{w w':World}{ks S u a}(h:Kids w ks S u a)(b:∀x,S x->x<w.heap.size->w'.heap[x]? =w.heap[x]?):Kids w' ks S u a:=
 ⟨λi hi=>(h.at_ i hi).kept λy c=>b y (h.sub i y hi c),h.sub,h.jf⟩
def dX(n:Nd)(s:Nat):Nat->Nd:=if s<n.path.length then aJ (λ_=>.nil) (n.path.getD s 0).toNat (gJ n (n.path.drop (s+1))) else λ_=>.nil
def dF(n:Nd)(path v:yL)(s:Nat):Nat->Nd:=if s<path.length then aJ (dX n s) (path.getD s 0).toNat (dw (path.drop (s+1)) v) else dX n s
def fy(n:Nd)(path v:yL)(s:Nat):yL:=if s<path.length then(if s<n.path.length then [] else n.value) else v
def gi(n:Nd)(path v:yL)(s:Nat):Nd:=aX (path.take s) (dN (dF n path v s) (fy n path v s))
def LY(r)(n:Nat):(ae r).extract 0 n=ae (r.take n):=by
 apply Go.WideShapes.bytes_inj;rw[Lib.extract_data,eU,eU];simp
def da{a}(h:aw a)(n:Nat):aw (a.drop n):=λx b=>h x (List.mem_of_mem_drop b)
def Fx{a}(h:aw a)(n:Nat):aw (a.take n):=λx b=>h x (List.mem_of_mem_take b)
def kB{a}(h:aw a)(n:Nat):(a.getD n 0).toNat<16:=by
 by_cases b:n<a.length
 .rw[Up,Uh b];exact h _ (Vc b)
 rw[Up,U9 (by omega)];decide
def vI(r)(n:Nat)(h:n<(ae r).size):(ae r)[n]=r.getD n 0:=by
 have a:n<r.length:=by rwa[aN] at h
 rw[Up,Uh a];rfl
def sD(c:UInt8)(h:c.toNat<16):bits .and .u8 (c.toNat:Int) 15=(c.toNat:Int):=by
 have a:=qK c;have b:lo c=c:=by apply l9;rw[rQ];omega
 rwa[b] at a
def IE{n:Nd}{path v:yL}{s}(c:n.kind=1\/n.kind=2)(d:aw path)(g:path.length<=80)(f:v.length<=160)(b:aO n)(e:aw n.path)(h:n.path.length<=80):∀i,aO (dF n path v s i):=by
 have a:∀i,aO (dX n s i):=λi=>by
  unfold dX;split
  .unfold aJ;split
   .exact ID c (da e _) (by rw[Uu];omega) b
   trivial
  trivial
 intro i;unfold dF;split
 .unfold aJ;split
  .exact pA (da d _) (by rw[Uu];omega) f
  exact a i
 exact a i
def aO.Le{n}(a:aO n):n.value.length<=160:=by
 cases n with
 |nil=>exact UD _
 |unread _=>exact UD _
 |leaf _ _ _=>exact a.2.2.2
 |ext _ _ _=>exact UD _
 |branch _ _ _=>exact a.2.1
def DA{n}{path v:yL}{s}(b:v.length<=160)(a:aO n):(fy n path v s).length<=160:=by
 unfold fy;split
 .split
  .exact UD _
  exact a.Le
 exact b
def IF{n:Nd}{path v:yL}{s}(d:n.kind=1\/n.kind=2)(b:aw path)(e:path.length<=80)(c:v.length<=160)(a:aO n)(f:aw n.path)(g:n.path.length<=80):aO (gi n path v s):=
 Ba (Fx b s) (by show(path.take s).length+0<=80;rw[UN];omega) trivial (r6 (DA c a) λi _=>IE d b e c a f g i)
end Go.Proofs.YteaodagofkcgbaaGreatDoor
