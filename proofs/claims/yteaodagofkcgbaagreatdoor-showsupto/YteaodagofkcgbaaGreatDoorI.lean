import Derived.Test.YteaodagofkcgbaaGreatDoorD
import Derived.Test.YteaodagofkcgbaaGreatDoorH
open Go.Proofs.Tryz
open Go.Proofs.Tryz renaming prog→yP
open Go.Value renaming string→sV,pointer→pV,int→iV,slice→lV,bool→bV,tuple→tV,agg→gV
open Go.Ending renaming returned→rV
namespace Go.Proofs.YteaodagofkcgbaaGreatDoor
open Go.RowKit
set_option maxRecDepth 100000
set_option maxHeartbeats 0
set_option linter.all false
def tz(a:(Nat->Int)×Nat):yB:=uy (wA (ny (ny a.1 a.2 1) 135 128))
def dz(a:(Nat->Int)×Nat):(tz a).size=32:=Rk _
def tA:(Nat->Int)×Nat:=(ya,0)
def ag(s:yB):yB:=tz (ju tA s.data.toList)
def aB.below{w w'}(h:aB w)(k:yW w w'):aB w':=h.kept (Kept.iP k 3) (Ug _)
def Tu{n b w w1 w2}(h1:Below n w w1)(h:Kept b w1 w2)(c:n<=w.heap.size)(d:n<=b):Below n w w2:=
 ⟨h.os.trans h1.os,h.tape.trans h1.tape,h.output.trans h1.output,Ut h1.size h.size,λk a=>(h.block k (Us a (Ut c h1.size)) (by omega)).trans (h1.block k a)⟩
def Tx{n w w1 w2}(h1:Below n w w1)(h:yW w1 w2)(a:n<=w.heap.size):Below n w w2:=
 h1.trans (h.mono (Ut a h1.size))
def Jz{v}{w w1 w4 w5:World}(b:w.heap.size=v)(h1:Below v w w1)(h4:Kept v w1 w4)(a:yW w4 w5):yW w w5:=by
 subst b;exact Tx (Tu h1 h4 (Ug _) (Ug _)) a (Ug _)
def It(a:Nat->Int)(t:Int)(i c:Nat)(hi:i<136)(d:c<256)(w)(b:Nat)(H:cU w b a t):Calls yP 89 #[pV (qA b),iV .i64 i,iV .u8 c] w λe w'=>e=rV (tV #[])/\cU w' b (ny a i c) t/\Kept b w w':=
 (Iu i c d (a (i / 8)) w b hi (H.at_ _ (by omega)) (H.free _)).mono λe w'⟨he,hw⟩=>by
  subst hw
  exact⟨he,(H.set (i / 8) _ (by omega)).drew,((Kept.refl _ _).set _ _).drew⟩
def LU(c:(Nat->Int)×Nat)(w)(b:Nat)(H:cU w b c.1 c.2)(q:c.2<136)(T:aB w):Calls yP 50 #[pV (some ⟨b,0,none⟩)] w λe w'=>e=rV (sV (tz c))/\Below w.heap.size w w':=by
 obtain⟨a,t⟩:=c;have h3:=T.size;have u:yH (tz (a,t)=uy (wA (ny (ny a t 1) 135 128))):=rfl;simp only at H q;go_enter func50,ntmps50
 go_wp2_with fail
 refine(So a t _ b H).mono ?_;rintro e w1⟨rfl,g⟩;have f:cU w1 w.heap.size a t:=by rw[g];exact⟨UG _ _⟩
 have d:Below w.heap.size w w1:=by rw[g];exact((Un _ _).alloc (Ug _) _).drew
 have p:=T.below d;have x:=aa f;have s:=aa d;have D:=aa p;have l:=aa h3;have c1:=f.taken;clear g f d p H T h3;generalize hv:w.heap.size=v at*;go_wp2_with fail
 refine(It a t t 1 q (by omega) _ v x.o).mono ?_;rintro e w2⟨rfl,h,m⟩;have y:=aa h;have B:=aa m;clear h m c1;go_wp2_with fail
 refine(It _ t 135 128 (by omega) (by omega) _ v y.o).mono ?_;rintro e w3⟨rfl,i,n⟩;have z:=aa i;have k:=aa (B.o.trans n);clear i n;go_wp2_with fail
 refine(FU _ t _ v z.o (D.o.kept k.o l.o) l.o).mono ?_;rintro e w4⟨rfl,j,o⟩;have A:=aa j;have C:=aa (k.o.trans o);clear j o;go_wp2_with fail
 refine(Ri _ t _ v A.o).mono ?_;rintro e w5⟨rfl,r⟩;go_wp2_with fail
 go_ret;refine⟨by rw[u.o];rfl,?_⟩;have h4:=C.o;have h1:=s.o;exact Jz hv h1 h4 r
def ja(s:yB)(hs:s.size<=maxLen)(w)(T:aB w):Calls yP 23 #[sV s] w λe w'=>e=rV (sV (ag s))/\Below w.heap.size w w':=by
 have h3:=T.size;have n:yH (ag s=tz (ju tA s.data.toList)):=rfl;have k:(ju tA s.data.toList).2<136:=Cp _ _ (by decide);have q:=aa k;clear k;go_enter func23,ntmps23
 go_wp2_with fail
 refine(PE _).mono ?_;rintro e w1⟨rfl,b⟩;have c:cU w1 w.heap.size ya 0:=by rw[b];exact⟨UG _ _⟩
 have a:Below w.heap.size w w1:=by rw[b];exact(Un _ _).alloc (Ug _) _
 have j:=T.below a;have o:=aa c;have m:=aa a;have g:=aa j;have h:=aa h3;clear b c a j T h3;generalize hv:w.heap.size=v at*;go_wp2_with fail
 refine(Kk tA s hs _ v o.o (by decide) g.o h.o).mono ?_;rintro e w2⟨rfl,d,i⟩;have p:=aa d;have f:=aa i;clear d i;generalize ju tA s.data.toList=st at*;go_wp2_with fail
 refine(LU st _ v p.o q.o (g.o.kept f.o h.o)).mono ?_;rintro e w5⟨rfl,l⟩;go_wp2_with fail
 go_ret;refine⟨by rw[n.o];rfl,?_⟩;have h4:=f.o;have h1:=m.o;exact Jz hv h1 h4 l
inductive Nd where
 |nil
 |unread (h:yL)
 |leaf (h p v:yL)
 |ext (h p:yL) (k:Nd)
 |branch (h v:yL) (ks:Nat->Nd)
def Nd.hash:Nd->yL
 | .nil=>[]
 | .unread h=>h
 | .leaf h _ _=>h
 | .ext h _ _=>h
 | .branch h _ _=>h
def Nd.path:Nd->yL
 | .leaf _ p _=>p
 | .ext _ p _=>p
 | _=>[]
def Nd.value:Nd->yL
 | .leaf _ _ v=>v
 | .branch _ v _=>v
 | _=>[]
def Nd.kind:Nd->Nat
 | .leaf _ _ _=>1
 | .ext _ _ _=>2
 | .branch _ _ _=>3
 | _=>0
def Nd.some:Nd->Prop
 | .nil=>False
 | _=>True
def Nd.read:Nd->Prop
 | .nil=>False
 | .unread _=>False
 | _=>True
def Nd.gY(h:yL):Nd->Nd
 | .nil=>.nil
 | .unread _=>.unread h
 | .leaf _ p v=>.leaf h p v
 | .ext _ p k=>.ext h p k
 | .branch _ v ks=>.branch h v ks
def fe(l:yL):yL:=(ag (ae l)).data.toList
def kE(l):(fe l).length=32:=by
 unfold fe;have:(ag (ae l)).data.toList.length=(ag (ae l)).size:=by simp
 rw[this];exact dz _
def mX(l):ae (fe l)=ag (ae l):=gA _
def ko(n:Nd)(a:Tree):Tree:=match n with
 | .nil=>ak []
 |n=>if n.hash=[] then a else ak n.hash
def Nd.item:Nd->Tree
 | .leaf _ p v=>bJ [ak (cR p true),ak v]
 | .ext _ p k=>bJ [ak (cR p false),ko k k.item]
 | .branch _ v ks=>bJ ((List.range 16).map (λi=>ko (ks i) (ks i).item)++[ak v])
 | _=>bJ [ak (cR [] false),ak []]
def Nd.ref(n:Nd):Tree:=ko n n.item
def Nd.code(n:Nd):yL:=bu 6 n.item
def fX(c:yL):yL:=if 32<=c.length then fe c else []
def Nd.mk(n:Nd):Nd:=n.gY (fX n.code)
def QX(h)(n:Nd):(n.gY h).item=n.item:=by cases n<;>rfl
def Jd(h)(n:Nd):(n.gY h).code=n.code:=by unfold Nd.code;rw[QX]
def fG(k:Int)(h p v:yB)(a:Value)(b:Nat->Value):Array Value:=
 ([iV .i64 k,sV h,sV p,sV v,a]++(List.range 16).map b).toArray
def rK(k:Int)(h p v a b):(fG k h p v a b).size=21:=by simp[fG]
def tY(k:Int)(h p v b a)(i:Nat)(hi:i<16):(fG k h p v b a)[5+i]? =some (a i):=by
 unfold fG;rw[Vu,Vf (by simp)];simp[hi]
def cN:Value:=pV none
def ptr(b:Nat):Value:=pV (qA b)
def bU(w:World)(b:Nat)(t:Nd)(a:Value)(c:Nat->Value):Prop:=
 w.heap[b]? =some (.cells (fG t.kind (ae t.hash) (ae t.path) (ae t.value) a c) 167 (0,0))
def At(w:World):Nd->(Nat->Prop)->Value->Prop
 | .nil,_,p=>p=pV none
 | .unread h,S,p=>∃b,p=ptr b/\S b/\bU w b (.unread h) cN (λ_=>cN)
 | .leaf h q v,S,p=>∃b,p=ptr b/\S b/\bU w b (.leaf h q v) cN (λ_=>cN)
 | .ext h q k,S,p=>∃(b:Nat)(c:Value)(S':Nat->Prop),p=ptr b/\S b/\bU w b (.ext h q k) c (λ_=>cN)/\(∀x,S' x->S x/\x≠b)/\At w k S' c
 | .branch h v ks,S,p=>∃(b:Nat)(d:Nat->Value)(a:Nat->Nat->Prop),p=ptr b/\S b/\bU w b (.branch h v ks) cN d/\(∀i x,i<16->a i x->S x/\x≠b)/\
  (∀i j x,i<16->j<16->a i x->a j x->i=j)/\∀i,i<16->At w (ks i) (a i) (d i)
def At.mono{w}:∀{t S S' p},At w t S p->(∀x,S x->S' x)->At w t S' p
 | .nil,_,_,_,h,_=>h
 | .unread _,_,_,_,⟨b,e,s,k⟩,hs=>⟨b,e,hs b s,k⟩
 | .leaf _ _ _,_,_,_,⟨b,e,s,k⟩,hs=>⟨b,e,hs b s,k⟩
 | .ext _ _ _,_,_,_,⟨b,kp,S1,e,s,k,h1,h2⟩,hs=>⟨b,kp,S1,e,hs b s,k,λx a=>⟨hs x (h1 x a).1,(h1 x a).2⟩,h2⟩
 | .branch _ _ _,_,_,_,⟨b,kps,Ss,e,s,k,h1,h2,h3⟩,hs=>⟨b,kps,Ss,e,hs b s,k,λi x hi a=>⟨hs x (h1 i x hi a).1,(h1 i x hi a).2⟩,h2,h3⟩
def At.kept{w w':World}:∀{t S p},At w t S p->(∀x,S x->x<w.heap.size->w'.heap[x]? =w.heap[x]?)->At w' t S p:=by
 have lt:∀{b:Nat} {t:Nd} {k:Value} {ks:Nat->Value},bU w b t k ks->b<w.heap.size:=λh=>(Um.1 h).1
 intro t;induction t with
 |nil=>intro S p h _;exact h
 |unread x=>intro S p ⟨b,e,s,k⟩ hs;exact⟨b,e,s,(hs b s (lt k)).trans k⟩
 |leaf x y z=>intro S p ⟨b,e,s,k⟩ hs;exact⟨b,e,s,(hs b s (lt k)).trans k⟩
 |ext x y z ih=>intro S p ⟨b,f,c,e,s,k,h1,h2⟩ hs;exact⟨b,f,c,e,s,(hs b s (lt k)).trans k,h1,ih h2 λx a=>hs x (h1 x a).1⟩
 |branch x y z ih=>intro S p ⟨b,g,d,e,s,k,h1,h2,h3⟩ hs;exact⟨b,g,d,e,s,(hs b s (lt k)).trans k,h1,h2,λi hi=>ih i (h3 i hi) λx a=>hs x (h1 i x hi a).1⟩
def At.below{w w' t S p}(h:At w t S p)(k:yW w w'):At w' t S p:=h.kept λx _ a=>k.block x a
def At.cut{w}:∀{t S p},At w t S p->At w t (λx=>S x/\x<w.heap.size) p:=by
 have lt:∀{b:Nat} {t:Nd} {k:Value} {ks:Nat->Value},bU w b t k ks->b<w.heap.size:=λh=>(Um.1 h).1
 intro t;induction t with
 |nil=>intro S p h;exact h
 |unread x=>intro S p ⟨b,e,s,k⟩;exact⟨b,e,⟨s,lt k⟩,k⟩
 |leaf x y z=>intro S p ⟨b,e,s,k⟩;exact⟨b,e,⟨s,lt k⟩,k⟩
 |ext x y z ih=>intro S p ⟨b,f,l,e,s,k,h1,h2⟩;exact⟨b,f,_,e,⟨s,lt k⟩,k,λx a=>⟨⟨(h1 x a.1).1,a.2⟩,(h1 x a.1).2⟩,ih h2⟩
 |branch x y z ih=>intro S p ⟨b,g,c,e,s,k,h1,h2,h3⟩;exact⟨b,g,λi x=>c i x/\x<w.heap.size,e,⟨s,lt k⟩,k,λi x hi a=>⟨⟨(h1 i x hi a.1).1,a.2⟩,(h1 i x hi a.1).2⟩,λi j x hi d h4 h5=>h2 i j x hi d h4.1 h5.1,λi hi=>ih i (h3 i hi)⟩
def At.ai{w t S p}(h:At w t S p)(a:t.some):∃b kid kids,p=ptr b/\S b/\bU w b t kid kids:=by
 cases t with
 |nil=>exact a.elim
 |unread _=>let⟨b,e,s,k⟩:=h;exact⟨b,_,_,e,s,k⟩
 |leaf _ _ _=>let⟨b,e,s,k⟩:=h;exact⟨b,_,_,e,s,k⟩
 |ext _ _ _=>let⟨b,c,_,e,s,k,_⟩:=h;exact⟨b,_,_,e,s,k⟩
 |branch _ _ _=>let⟨b,d,_,e,s,k,_⟩:=h;exact⟨b,_,_,e,s,k⟩
def bU.lt{w b t a c}(h:bU w b t a c):b<w.heap.size:=(Um.1 h).1
def bU.c0{w b t a c}(h:bU w b t a c):w.cell? ⟨b,0,none⟩=some (i6 t.kind):=by rw[Ur w b 0 _ _ _ h];rfl
def bU.c1{w b t a c}(h:bU w b t a c):w.cell? ⟨b,1,none⟩=some (sV (ae t.hash)):=by rw[Ur w b 1 _ _ _ h];rfl
def bU.c2{w b t a c}(h:bU w b t a c):w.cell? ⟨b,2,none⟩=some (sV (ae t.path)):=by rw[Ur w b 2 _ _ _ h];rfl
def bU.c3{w b t a c}(h:bU w b t a c):w.cell? ⟨b,3,none⟩=some (sV (ae t.value)):=by rw[Ur w b 3 _ _ _ h];rfl
def bU.c4{w b t a c}(h:bU w b t a c):w.cell? ⟨b,4,none⟩=some a:=by rw[Ur w b 4 _ _ _ h];rfl
def bU.ck{w b t c a}(h:bU w b t c a)(i:Nat)(hi:i<16):w.cell? ⟨b,5+i,none⟩=some (a i):=by rw[Ur w b (5+i) _ _ _ h,tY _ _ _ _ _ _ i hi]
def At.ptr{w t S p}(h:At w t S p):∃u,p=pV u:=by
 cases t with
 |nil=>exact⟨_,h⟩
 |unread _=>let⟨b,e,_⟩:=h;exact⟨_,e⟩
 |leaf _ _ _=>let⟨b,e,_⟩:=h;exact⟨_,e⟩
 |ext _ _ _=>let⟨b,a,_,e,_⟩:=h;exact⟨_,e⟩
 |branch _ _ _=>let⟨b,c,_,e,_⟩:=h;exact⟨_,e⟩
def At.none{w t S p}(h:At w t S p):p=pV none↔t=.nil:=by
 constructor
 .intro e;cases t with
  |nil=>rfl
  |unread _=>let⟨b,e1,_⟩:=h;rw[e] at e1;cases e1
  |leaf _ _ _=>let⟨b,e1,_⟩:=h;rw[e] at e1;cases e1
  |ext _ _ _=>let⟨b,a,_,e1,_⟩:=h;rw[e] at e1;cases e1
  |branch _ _ _=>let⟨b,c,_,e1,_⟩:=h;rw[e] at e1;cases e1
 intro e;subst e;exact h
def cz(p:Value)(r:yB)(d:Nat)(bl:Bool):Value:=gV #[p,sV r,iV .i64 (d:Int),bV bl]
def Cq{w w1:World}{x y z u T}(a:Below (w.alloc (.cells #[x,y,z,u] T)).heap.size (w.alloc (.cells #[x,y,z,u] T)) w1):(w1.cell? ⟨w.heap.size,0,none⟩=some x/\w1.cell? ⟨w.heap.size,1,none⟩=some y/\w1.cell? ⟨w.heap.size,2,none⟩=some z/\w1.cell? ⟨w.heap.size,3,none⟩=some u)/\(w1.frozen? ⟨w.heap.size,0,none⟩=false/\w1.frozen? ⟨w.heap.size,1,none⟩=false/\w1.frozen? ⟨w.heap.size,2,none⟩=false/\w1.frozen? ⟨w.heap.size,3,none⟩=false)/\yW w w1:=by
 obtain⟨h1,h2⟩:=sA a;refine⟨⟨?_,?_,?_,?_⟩,⟨?_,?_,?_,?_⟩,((Un w.heap.size w).alloc (Ug _) _).trans (a.mono (by simp))⟩
 .rw[h1 _ _ (by simp)];simp
 .rw[h1 _ _ (by simp)];simp
 .rw[h1 _ _ (by simp)];simp
 .rw[h1 _ _ (by simp)];simp
 .rw[h2 _ _ (by simp)];simp
 .rw[h2 _ _ (by simp)];simp
 .rw[h2 _ _ (by simp)];simp
 rw[h2 _ _ (by simp)];simp
def Tt{n w w1}(h:Below n w w1)(a b c d):Below n w ((((w1.setCell ⟨n,0,none⟩ a).setCell ⟨n,1,none⟩ b).setCell ⟨n,2,none⟩ c).setCell ⟨n,3,none⟩ d):=
 (((h.setCell (Ug _) _).setCell (Ug _) _).setCell (Ug _) _).setCell (Ug _) _
def vJ(u:Option Addr)(s:yB)(hs:s.size<=4096)(w:World):yC 79 #[pV u,sV s] w λe w'=>e=rV (cz (pV u) (ae (ch s.data.toList)) 0 false)/\yW w w':=by
 have d:=aa (ES s hs);go_enter func79,ntmps79
 go_wp2_with fail
 refine(d.o _).mono ?_;rintro e w1⟨rfl,a⟩;obtain⟨⟨c0,c1,c2,c3⟩,⟨f0,f1,f2,f3⟩,b⟩:=Cq a;have c:=aa b;clear a b;generalize hR:ae (ch s.data.toList)=R at*;have f:=aa hR;clear hR;go_wp2;exact UB (v:=cz (pV u) R 0 false) (by simp[results,results79,go_sem,cz,c0,c1,c2,c3]) rfl ⟨by rw[f.o],Tt c.o _ _ _ _⟩
def Nd.at(t:Nd)(r:yL):yL:=if t.kind≠2/\r=t.path then t.value else []
def Lc(r:yB)(d:Nat)(bl:Bool)(w:World):yC 77 #[cz (pV none) r d bl] w λe w'=>e=rV (sV ⟨#[]⟩)/\yW w w':=by
 unfold cz;go_enter func77,ntmps77
 go_wp2;go_ret;exact⟨rfl,(Un _ _).alloc (Ug _) _⟩
def Below.drewN{n w w1}(h:Below n w w1)(m:Nat):Below n w (w1.drewN m):=⟨h.os,h.tape,h.output,h.size,h.block⟩
def pX(a b):((ae a).toList == (ae b).toList)=decide (a=b):=by
 rw[ByteArray.toList_eq,ByteArray.toList_eq,eU,eU];by_cases h:a=b
 .subst h;simp
 simp[h]
def ke(a):((ae a).toList.isEmpty)=decide (a=[]):=by
 rw[ByteArray.toList_eq,eU];cases a<;>simp
def Lf(b:Nat)(t n o)(r:yL)(d:Nat)(bl:Bool)(w)(B:bU w b t n o):yC 77 #[cz (pV (qA b)) (ae r) d bl] w λe w'=>e=rV (sV (ae (t.at r)))/\yW w w':=by
 have c0:=B.c0;have c2:=B.c2;have c3:=B.c3;have k:=B.lt;obtain⟨V,j⟩:=yX (t.at r);rw[<-j];have i:=aa j;unfold cz;clear B j;have f:yW w (w.alloc (.cells #[pV (qA b),sV (ae r),i6 (d:Int),bV bl] 127)):=(Un _ _).alloc (Ug _) _;have g:=aa f;have l:=(f.cell (p:=⟨b,0,none⟩) k).trans c0;have q:=(f.cell (p:=⟨b,2,none⟩) k).trans c2;have s:=(f.cell (p:=⟨b,3,none⟩) k).trans c3;clear c0 c2 c3 f;by_cases h2:t.kind=2
 .have c:yH (V=[]):=by show _=_;rw[i.o];unfold Nd.at;rw[Ui (λh=>h.1 h2)]
  rw[h2] at l;have m:((((2:Nat):Int)) != 2)=false:=rfl;go_enter func77,ntmps77
  go_wp2;go_quiet (fail)
  go_wp2;go_ret;exact⟨by rw[c.o];rfl,Below.drewN g.o _⟩
 have m:(((t.kind:Nat):Int) != 2)=true:=by simp;omega
 have hs:=pX r t.path;by_cases a:r=t.path
 .have c:yH (V=t.value):=by show _=_;rw[i.o];unfold Nd.at;rw[Uj ⟨h2,a⟩]
  rw[Uw a] at hs;clear a;generalize t.path=P at*;generalize t.kind=K at*;generalize hvv:t.value=VV at*;generalize ae r=R at*;generalize ae P=PP at*;go_enter func77,ntmps77
  go_wp2;go_quiet (fail)
  go_wp2;go_ret;exact⟨by rw[c.o];rfl,Below.drewN g.o _⟩
 have c:yH (V=[]):=by show _=_;rw[i.o];unfold Nd.at;rw[Ui (λh=>a h.2)]
 rw[Uv a] at hs;clear a;generalize t.path=P at*;generalize t.kind=K at*;generalize ae r=R at*;generalize ae P=PP at*;go_enter func77,ntmps77
 go_wp2;go_quiet (fail)
 go_wp2;go_ret;exact⟨by rw[c.o];rfl,Below.drewN g.o _⟩
def wN(b:Nat)(h v)(ks:Nat->Nd)(q l)(c:UInt8)(r:yL)(o:c.toNat<16)(u)(j:l c.toNat=pV u)(p:r.length<4096)(d:Nat)(x:d<4096)(bl:Bool)(w)(B:bU w b (.branch h v ks) q l):yC 112 #[cz (pV (qA b)) (ae (c::r)) d bl] w λe w'=>e=rV (cz (pV u) (ae r) (d+1) false)/\yW w w':=by
 have c0:=B.c0;have s:w.cell? ⟨b,5+c.toNat,none⟩=some (pV u):=by rw[B.ck _ o,j]
 have z:=B.lt;obtain⟨R,a⟩:=yX (ae (c::r));have i:R.size=r.length+1:=by rw[a,aN];rfl
 have g:0<R.size:=by omega
 have h0:R[0]'g=c:=by subst a;rfl
 have k:R.extract 1 R.size=ae r:=by
  subst a;apply Go.WideShapes.bytes_inj;rw[Lib.extract_data,eU,eU];exact U4 (by rw[i];simp)
 have y:R.toList.isEmpty=false:=by rw[a,ke];simp
 have m:=aa k;have A:(0:Int)<(R.size:Int):=by omega
 have C:=g;have n:=qK c;have f:lo c=c:=by apply l9;rw[rQ];omega
 rw[f] at n;have t:(c.toNat:Int)<16:=by omega
 rw[<-a];unfold cz;clear B a i k f j p;go_enter func112,ntmps112
 go_wp2;go_region
 all_goals
  go_wp2;exact UB (v:=cz (pV u) (R.extract 1 R.size) (d+1) false) (by simp[results,results112,go_sem,cz]) rfl ⟨by rw[m.o];rfl,(((Un _ _).alloc (Ug _) _).alloc (by simp) _).drew⟩
def nG:Nd->Prop
 | .nil=>True
 | .unread h=>h.length=32
 | .leaf h p v=>(h=[]\/h.length=32)/\aw p/\p.length<=80/\v.length<=160
 | .ext h p k=>(h=[]\/h.length=32)/\aw p/\p.length<=80/\nG k
 | .branch h v ks=>(h=[]\/h.length=32)/\v.length<=160/\∀i,i<16->nG (ks i)
def pM(d:Nat)(w:World)(x:Tree)(e:Ending)(w':World):Prop:=
 ∃l t a m c,e=rV (gV #[bV l,sV t,lV a m c])/\bg d w' (λb=>w.heap.size<=b) [bV l,sV t,lV a m c] x/\yW w w'
def u9(t:Nd):Prop:=∀(w:World) (S:Nat->Prop) (p:Value) (d:Nat),At w t S p->nG t->t.read->bN d t.item=true->yC 138 #[p] w (pM d w t.item)
def BN(t:Nd):Prop:=∀(w:World) (S:Nat->Prop) (p:Value) (d:Nat),At w t S p->nG t->bN d t.ref=true->yC 150 #[p] w (pM d w t.ref)
def Ng(w)(d:Nat):yC 150 #[pV none] w (pM d w (ak [])):=by
 go_enter func150,ntmps150
 go_wp2;exact UB (v:=gV #[bV false,sV ⟨#[]⟩,lV none 0 0]) (by simp[results,results150,go_sem]) rfl ⟨false,⟨#[]⟩,none,0,0,rfl,nw d _ _ ⟨#[]⟩ _ (by decide),(Un _ _).alloc (Ug _) _⟩
def vW(w)(b:Nat)(t e f)(d:Nat)(B:bU w b t e f)(a:t.hash≠[])(h:t.hash.length<=4096):yC 150 #[pV (qA b)] w (pM d w (ak t.hash)):=by
 have c1:=B.c1;have i:=B.lt;have g:(ae t.hash).toList.isEmpty=false:=by rw[ke];simp[a]
 have c:yH (∀W S,bg d W S [bV false,sV (ae t.hash),lV none 0 0] (ak t.hash)):=λW S=>by
  have:=nw d W S (ae t.hash) (lV none 0 0) (by rw[aN];omega);rw[eU] at this;exact this
 clear B a;generalize ae t.hash=H at*;generalize ak t.hash=X at*;go_enter func150,ntmps150
 go_wp2;exact UB (v:=gV #[bV false,sV H,lV none 0 0]) (by simp[results,results150,go_sem]) rfl ⟨false,H,none,0,0,rfl,c.o _ _,(Un _ _).alloc (Ug _) _⟩
def zk(w)(b:Nat)(t p r)(d:Nat)(x:Tree)(B:bU w b t p r)(h:t.hash=[])(hi:∀W,yW w W->yC 138 #[pV (qA b)] W (pM d W x)):yC 150 #[pV (qA b)] w (pM d w x):=by
 have c1:=B.c1;have u:=B.lt;have s:(ae t.hash).toList.isEmpty=true:=by rw[ke];simp[h]
 have k:yH (yC 138 #[pV (qA b)] (w.alloc (.cells #[bV false,sV ⟨#[]⟩,lV none 0 0] 155)) (pM d (w.alloc (.cells #[bV false,sV ⟨#[]⟩,lV none 0 0] 155)) x)):=hi _ ((Un _ _).alloc (Ug _) _);clear B h hi;generalize ae t.hash=H at*;go_enter func150,ntmps150
 go_wp2_with fail
 apply k.m;rintro e w1⟨l,t1,a,m,c,rfl,i,g⟩;obtain⟨k0,k1,k2,f0,f1,f2⟩:=iB g;have j:=aa (((Un w.heap.size w).alloc (Ug _) _).trans (g.mono (by simp)));have n:yH (∀W:World,(∀q,q≠w.heap.size->W.heap[q]? =w1.heap[q]?)->bg d W (λq=>w.heap.size<=q) [bV l,sV t1,lV a m c] x):=λW o=>
  bg.move (λq f _=>⟨by have:w.heap.size+1<=q:=(by simpa using f);omega,o q (by have:w.heap.size+1<=q:=(by simpa using f);omega)⟩) d _ _ i
 clear i g;go_wp2;exact UB (v:=gV #[bV l,sV t1,lV a m c]) (by simp[results,results150,go_sem,k0,k1,k2]) rfl ⟨l,t1,a,m,c,rfl,n.o _ (λq f=>by simp[Uy,f]),sy j.o _ _ _⟩
def rq(t)(l:u9 t):BN t:=by
 intro w S p d g c f;cases t with
 |nil=>cases g;exact Ng w d
 |unread h=>
  obtain⟨b,rfl,_,B⟩:=g;have a:h≠[]:=λe=>by subst e;cases c
  have e:(Nd.unread h).ref=ak h:=by unfold Nd.ref ko;exact Ui a
  rw[e];exact vW w b _ _ _ d B a (by show h.length<=4096;rw[show h.length=32 from c];omega)
 |leaf h q v=>
  obtain⟨b,rfl,hs,B⟩:=g;by_cases a:h=[]
  .have e:(Nd.leaf h q v).ref=(Nd.leaf h q v).item:=by unfold Nd.ref ko;exact Uj a
   rw[e] at f⊢;exact zk w b _ _ _ d _ B a λW i=>l W S _ d (At.below (t:=.leaf h q v) ⟨b,rfl,hs,B⟩ i) c trivial f
  have e:(Nd.leaf h q v).ref=ak h:=by unfold Nd.ref ko;exact Ui a
  rw[e];exact vW w b _ _ _ d B a (by rcases c.1 with h1|h1;exact absurd h1 a;show h.length<=4096;omega)
 |ext h q k=>
  obtain⟨b,o,m,rfl,hs,B,j⟩:=g;by_cases a:h=[]
  .have e:(Nd.ext h q k).ref=(Nd.ext h q k).item:=by unfold Nd.ref ko;exact Uj a
   rw[e] at f⊢;exact zk w b _ _ _ d _ B a λW i=>l W S _ d (At.below (t:=.ext h q k) ⟨b,o,m,rfl,hs,B,j⟩ i) c trivial f
  have e:(Nd.ext h q k).ref=ak h:=by unfold Nd.ref ko;exact Ui a
  rw[e];exact vW w b _ _ _ d B a (by rcases c.1 with h1|h1;exact absurd h1 a;show h.length<=4096;omega)
 |branch h v ks=>
  obtain⟨b,r,n,rfl,hs,B,j⟩:=g;by_cases a:h=[]
  .have e:(Nd.branch h v ks).ref=(Nd.branch h v ks).item:=by unfold Nd.ref ko;exact Uj a
   rw[e] at f⊢;exact zk w b _ _ _ d _ B a λW i=>l W S _ d (At.below (t:=.branch h v ks) ⟨b,r,n,rfl,hs,B,j⟩ i) c trivial f
  have e:(Nd.branch h v ks).ref=ak h:=by unfold Nd.ref ko;exact Ui a
  rw[e];exact vW w b _ _ _ d B a (by rcases c.1 with h1|h1;exact absurd h1 a;show h.length<=4096;omega)
def xO(W:World)(o:Obj)(g:Nat)(h:g=W.heap.size):(W.alloc o).heap[g]? =some o:=by subst h;exact UG _ _
def EZ(e:Nat)(W:World)(S:Nat->Prop)(g:Nat)(a0 a1 a2 b0 b1 b2:Value)(T:TypeId)(a:Nat×Nat)(x y:Tree)(t:yB)(b:W.heap[g]? =some (.cells #[a0,a1,a2,b0,b1,b2] T a)) (hs:S g) (c:bg e W S [a0,a1,a2] x) (d:bg e W S [b0,b1,b2] y):bg (e+1) W S [bV true,sV t,lV (qA g) 2 2] (bJ [x,y]):=by
 refine xm e W S t _ [x,y] [a0,a1,a2,b0,b1,b2] ⟨rfl,.inr ⟨g,0,2,rfl,hs,λj f=>?_⟩⟩ (by simp) λi hi=>?_
 .rw[Vj,Ur W g j _ _ _ b,Vu]
 match i,hi with
 | 0,_=>exact c
 | 1,_=>exact d
def Ix(d:Nat)(x y:Tree)(h:bN d (bJ [x,y])=true):∃e,d=e+1/\bN e x=true/\bN e y=true:=by
 cases d with
 |zero=>rw[AW] at h;cases h
 |succ e=>rw[nA] at h;simp at h;exact⟨e,rfl,h.1,h.2⟩
def xk(d:Nat)(w S)(l:yL)(k)(h:l.length<=8192)(a:vg k:=by exact⟨_,_,_,rfl⟩):bg d w S [bV false,sV (ae l),k] (ak l):=by
 have:=nw d w S (ae l) k (by rw[aN];omega) a;rwa[eU] at this
def QY(h q v):u9 (.leaf h q v):=by
 intro w S p d hA hS _ hf;obtain⟨b,rfl,hs,B⟩:=hA;obtain⟨_,hn,hq,hv⟩:=hS;have c0:yc w b 0 (i6 1):=B.c0;have c2:yc w b 2 (sV (ae q)):=B.c2;have c3:yc w b 3 (sV (ae v)):=B.c3;have A1:=B.lt;have HP:yH (∀W:World,yC 151 #[sV (ae q),bV true] W λe w'=>e=rV (tV #[sV (ae (cR q true)),i6 0])/\yW W w'):=λW=>by
  have:=Fb (ae q) true (by rw[aN];omega) (by rw[eU];exact hn) W;rw[eU] at this;exact this
 obtain⟨e,rfl,_,_⟩:=Ix d _ _ hf;have HX:yH (∀(W:World) (g:Nat) (S:Nat->Prop) (fr:Nat×Nat),W.heap[g]? =some (.cells #[bV false,sV (ae (cR q true)),lV none 0 0,bV false,sV (ae v),lV none 0 0] 155 fr)->S g->
  bg (e+1) W S [bV true,sV ⟨#[]⟩,lV (qA g) 2 2] (Nd.leaf h q v).item):=λW g S fr hg hs=>
  EZ e W S g _ _ _ _ _ _ 155 fr _ _ _ hg hs (xk e W S _ _ (by rw[rD];omega)) (xk e W S _ _ (by omega))
 clear B hn hf;unfold ptr;generalize (Nd.leaf h q v).item=X at*;generalize hQ:ae q=Q at*;generalize hVV:ae v=V at*;generalize hPK:ae (cR q true)=PK at*;go_enter func138,ntmps138
 have A2:yH (yW w (w.alloc (.cells #[bV false,sV ⟨#[]⟩,lV none 0 0] 155))):=(Un _ _).alloc (Ug _) _;go_upto_region 9 with fail
 go_cut [5] (λu wx=>u=sV PK/\Below (w.alloc (.cells #[bV false,sV ⟨#[]⟩,lV none 0 0] 155)).heap.size (w.alloc (.cells #[bV false,sV ⟨#[]⟩,lV none 0 0] 155)) wx)
 .go_region_with (go_at_call 151;refine(HP.o _).mono ?_;rintro e1 w1⟨rfl,B1⟩)
  all_goals (have A0:yH _:=B1;clear B1;go_wp2_with fail;go_meet;exact⟨rfl,by first|exact A0.o|exact A0.o.drew|exact(Un _ _).drew.trans A0.o⟩)
 obtain⟨rfl,B1⟩:=hcut;obtain⟨k0,k1,k2,f0,f1,f2⟩:=iB B1;have A0:=aa (A2.o.trans (B1.mono (by simp)));have d0:=(A0.o.cell (p:=⟨b,0,none⟩) A1).trans c0;have d3:=(A0.o.cell (p:=⟨b,3,none⟩) A1).trans c3;have hz:w.heap.size<wc.heap.size:=by have:=B1.size;simp at this;omega
 have A3:b<wc.heap.size:=by omega
 clear B1;go_wp2;refine UB (v:=gV #[bV true,sV ⟨#[]⟩,lV (some ⟨wc.heap.size+1,0,none⟩) 2 2]) (by simp[results,results138,go_sem,k0,k1,k2,hz]) rfl ⟨true,⟨#[]⟩,_,_,_,rfl,HX.o _ _ _ (0,0) ?_ ?_,?_⟩
 .exact xO _ _ _ (by simp)
 .show w.heap.size<=wc.heap.size+1;omega
 exact(oB A0.o hz _ _ _ _).alloc (by simp;omega) _
end Go.Proofs.YteaodagofkcgbaaGreatDoor
