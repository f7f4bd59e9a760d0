import Derived.Test.YtiimkkahmpmhdaaGreatDoorE
import Derived.Test.YtiimkkahmpmhdaaGreatDoorF
open Go.Proofs.Tryz
open Go.Proofs.Tryz renaming prog→yP
open Go.Value renaming string→sV,pointer→pV,int→iV,slice→lV,bool→bV,tuple→tV,agg→gV
open Go.Ending renaming returned→rV
namespace Go.Proofs.YtiimkkahmpmhdaaGreatDoor
open Go.RowKit
set_option maxRecDepth 100000
set_option maxHeartbeats 0
set_option linter.all false
inductive Nd where
 |nil
 |unread (h:yL)
 |leaf (h p v:yL)
 |ext (h p:yL) (k:Nd)
 |branch (h v:yL) (ks:Nat->Nd)
def Nd.hash:Nd->yL
 | .nil=>[]
 | .unread h=>h
 | .leaf h _ _=>h
 | .ext h _ _=>h
 | .branch h _ _=>h
def Nd.path:Nd->yL
 | .leaf _ p _=>p
 | .ext _ p _=>p
 | _=>[]
def Nd.value:Nd->yL
 | .leaf _ _ v=>v
 | .branch _ v _=>v
 | _=>[]
def Nd.kind:Nd->Nat
 | .leaf _ _ _=>1
 | .ext _ _ _=>2
 | .branch _ _ _=>3
 | _=>0
def Nd.some:Nd->Prop
 | .nil=>False
 | _=>True
def Nd.read:Nd->Prop
 | .nil=>False
 | .unread _=>False
 | _=>True
def Nd.gy(h:yL):Nd->Nd
 | .nil=>.nil
 | .unread _=>.unread h
 | .leaf _ p v=>.leaf h p v
 | .ext _ p k=>.ext h p k
 | .branch _ v ks=>.branch h v ks
def dS(l:yL):yL:=(ai (str l)).data.toList
theorem jY(l):(dS l).length=32:=by
 unfold dS;have:(ai (str l)).data.toList.length=(ai (str l)).size:=by simp
 rw[this];exact eL _
theorem lW(l):str (dS l)=ai (str l):=jc _
def jT(n:Nd)(a:Tree):Tree:=match n with
 | .nil=>ay []
 |n=>if n.hash=[] then a else ay n.hash
def Nd.item:Nd->Tree
 | .leaf _ p v=>bH [ay (cN p true),ay v]
 | .ext _ p k=>bH [ay (cN p false),jT k k.item]
 | .branch _ v ks=>bH ((List.range 16).map (fun i=>jT (ks i) (ks i).item)++[ay v])
 | _=>bH [ay (cN [] false),ay []]
def Nd.ref(n:Nd):Tree:=jT n n.item
def Nd.code(n:Nd):yL:=bm 6 n.item
def fv(c:yL):yL:=if 32<=c.length then dS c else []
def Nd.mk(n:Nd):Nd:=n.gy (fv n.code)
theorem NO(h)(n:Nd):(n.gy h).item=n.item:=by cases n<;>rfl
theorem Gc(h)(n:Nd):(n.gy h).code=n.code:=by unfold Nd.code;rw[NO]
def eX(k:Int)(h p v:yB)(a:Value)(b:Nat->Value):Array Value:=
 ([iV .i64 k,sV h,sV p,sV v,a]++(List.range 16).map b).toArray
theorem qF(k:Int)(h p v a b):(eX k h p v a b).size=21:=by simp[eX]
theorem sB(k:Int)(h p v b a)(i:Nat)(hi:i<16):(eX k h p v b a)[5+i]? =some (a i):=by
 unfold eX;rw[Sl,RY (by simp)];simp[hi]
def cL:Value:=pV none
def ptr(b:Nat):Value:=pV (qA b)
def bL(w:World)(b:Nat)(t:Nd)(a:Value)(c:Nat->Value):Prop:=
 w.heap[b]? =some (.cells (eX t.kind (str t.hash) (str t.path) (str t.value) a c) 167 (0,0))
def At(w:World):Nd->(Nat->Prop)->Value->Prop
 | .nil,_,p=>p=pV none
 | .unread h,S,p=>∃b,p=ptr b/\S b/\bL w b (.unread h) cL (fun _=>cL)
 | .leaf h q v,S,p=>∃b,p=ptr b/\S b/\bL w b (.leaf h q v) cL (fun _=>cL)
 | .ext h q k,S,p=>∃(b:Nat) (c:Value) (S':Nat->Prop),p=ptr b/\S b/\bL w b (.ext h q k) c (fun _=>cL)/\(∀x,S' x->S x/\x≠b)/\At w k S' c
 | .branch h v ks,S,p=>∃(b:Nat) (d:Nat->Value) (a:Nat->Nat->Prop),p=ptr b/\S b/\bL w b (.branch h v ks) cL d/\(∀i x,i<16->a i x->S x/\x≠b)/\
  (∀i j x,i<16->j<16->a i x->a j x->i=j)/\∀i,i<16->At w (ks i) (a i) (d i)
theorem At.mono{w}:∀{t S S' p},At w t S p->(∀x,S x->S' x)->At w t S' p
 | .nil,_,_,_,h,_=>h
 | .unread _,_,_,_,⟨b,e,s,k⟩,hs=>⟨b,e,hs b s,k⟩
 | .leaf _ _ _,_,_,_,⟨b,e,s,k⟩,hs=>⟨b,e,hs b s,k⟩
 | .ext _ _ _,_,_,_,⟨b,kp,S1,e,s,k,h1,h2⟩,hs=>⟨b,kp,S1,e,hs b s,k,fun x a=>⟨hs x (h1 x a).1,(h1 x a).2⟩,h2⟩
 | .branch _ _ _,_,_,_,⟨b,kps,Ss,e,s,k,h1,h2,h3⟩,hs=>⟨b,kps,Ss,e,hs b s,k,fun i x hi a=>⟨hs x (h1 i x hi a).1,(h1 i x hi a).2⟩,h2,h3⟩
theorem At.kept{w w':World}:∀{t S p},At w t S p->(∀x,S x->x<w.heap.size->w'.heap[x]? =w.heap[x]?)->At w' t S p:=by
 have lt:∀{b:Nat} {t:Nd} {k:Value} {ks:Nat->Value},bL w b t k ks->b<w.heap.size:=fun h=>(Q0.1 h).1
 intro t;induction t with
 |nil=>intro S p h _;exact h
 |unread x=>intro S p ⟨b,e,s,k⟩ a;exact⟨b,e,s,(a b s (lt k)).trans k⟩
 |leaf x y z=>intro S p ⟨b,e,s,k⟩ a;exact⟨b,e,s,(a b s (lt k)).trans k⟩
 |ext x y z ih=>
  intro S p ⟨b,g,d,e,s,k,h1,h2⟩ a;exact⟨b,g,d,e,s,(a b s (lt k)).trans k,h1,ih h2 fun x c=>a x (h1 x c).1⟩
 |branch x y z ih=>
  intro S p ⟨b,j,f,e,s,k,h1,h2,h3⟩ a;exact⟨b,j,f,e,s,(a b s (lt k)).trans k,h1,h2,fun i hi=>ih i (h3 i hi) fun x c=>a x (h1 i x hi c).1⟩
theorem At.below{w w' t S p}(h:At w t S p)(k:yW w w'):At w' t S p:=h.kept fun x _ a=>k.block x a
theorem At.cut{w}:∀{t S p},At w t S p->At w t (fun x=>S x/\x<w.heap.size) p:=by
 have lt:∀{b:Nat} {t:Nd} {k:Value} {ks:Nat->Value},bL w b t k ks->b<w.heap.size:=fun h=>(Q0.1 h).1
 intro t;induction t with
 |nil=>intro S p h;exact h
 |unread x=>intro S p ⟨b,e,s,k⟩;exact⟨b,e,⟨s,lt k⟩,k⟩
 |leaf x y z=>intro S p ⟨b,e,s,k⟩;exact⟨b,e,⟨s,lt k⟩,k⟩
 |ext x y z ih=>
  intro S p ⟨b,f,l,e,s,k,h1,h2⟩;exact⟨b,f,_,e,⟨s,lt k⟩,k,fun x a=>⟨⟨(h1 x a.1).1,a.2⟩,(h1 x a.1).2⟩,ih h2⟩
 |branch x y z ih=>
  intro S p ⟨b,g,c,e,s,k,h1,h2,h3⟩;exact⟨b,g,fun i x=>c i x/\x<w.heap.size,e,⟨s,lt k⟩,k,fun i x hi a=>⟨⟨(h1 i x hi a.1).1,a.2⟩,(h1 i x hi a.1).2⟩,fun i j x hi d h4 h5=>h2 i j x hi d h4.1 h5.1,fun i hi=>ih i (h3 i hi)⟩
theorem At.ah{w t S p}(h:At w t S p)(a:t.some):∃b kid kids,p=ptr b/\S b/\bL w b t kid kids:=by
 cases t with
 |nil=>exact a.elim
 |unread _=>obtain⟨b,e,s,k⟩:=h;exact⟨b,_,_,e,s,k⟩
 |leaf _ _ _=>obtain⟨b,e,s,k⟩:=h;exact⟨b,_,_,e,s,k⟩
 |ext _ _ _=>obtain⟨b,c,_,e,s,k,_⟩:=h;exact⟨b,_,_,e,s,k⟩
 |branch _ _ _=>obtain⟨b,d,_,e,s,k,_⟩:=h;exact⟨b,_,_,e,s,k⟩
theorem bL.lt{w b t a c}(h:bL w b t a c):b<w.heap.size:=(Q0.1 h).1
theorem bL.c0{w b t a c}(h:bL w b t a c):w.cell? ⟨b,0,none⟩=some (iV .i64 t.kind):=by rw[Q5 w b 0 _ _ _ h];rfl
theorem bL.c1{w b t a c}(h:bL w b t a c):w.cell? ⟨b,1,none⟩=some (sV (str t.hash)):=by rw[Q5 w b 1 _ _ _ h];rfl
theorem bL.c2{w b t a c}(h:bL w b t a c):w.cell? ⟨b,2,none⟩=some (sV (str t.path)):=by rw[Q5 w b 2 _ _ _ h];rfl
theorem bL.c3{w b t a c}(h:bL w b t a c):w.cell? ⟨b,3,none⟩=some (sV (str t.value)):=by rw[Q5 w b 3 _ _ _ h];rfl
theorem bL.c4{w b t a c}(h:bL w b t a c):w.cell? ⟨b,4,none⟩=some a:=by rw[Q5 w b 4 _ _ _ h];rfl
theorem bL.ck{w b t c a}(h:bL w b t c a)(i:Nat)(hi:i<16):w.cell? ⟨b,5+i,none⟩=some (a i):=by rw[Q5 w b (5+i) _ _ _ h,sB _ _ _ _ _ _ i hi]
theorem At.ptr{w t S p}(h:At w t S p):∃u,p=pV u:=by
 cases t with
 |nil=>exact⟨_,h⟩
 |unread _=>obtain⟨b,e,_⟩:=h;exact⟨_,e⟩
 |leaf _ _ _=>obtain⟨b,e,_⟩:=h;exact⟨_,e⟩
 |ext _ _ _=>obtain⟨b,a,_,e,_⟩:=h;exact⟨_,e⟩
 |branch _ _ _=>obtain⟨b,c,_,e,_⟩:=h;exact⟨_,e⟩
theorem At.none{w t S p}(h:At w t S p):p=pV none↔t=.nil:=by
 constructor
 ·intro e;cases t with
  |nil=>rfl
  |unread _=>obtain⟨b,e1,_⟩:=h;rw[e] at e1;cases e1
  |leaf _ _ _=>obtain⟨b,e1,_⟩:=h;rw[e] at e1;cases e1
  |ext _ _ _=>obtain⟨b,a,_,e1,_⟩:=h;rw[e] at e1;cases e1
  |branch _ _ _=>obtain⟨b,c,_,e1,_⟩:=h;rw[e] at e1;cases e1
 ·intro e;subst e;exact h
def cd(p:Value)(r:yB)(d:Nat)(bl:Bool):Value:=gV #[p,sV r,iV .i64 (d:Int),bV bl]
theorem Ax{w w1:World}{x y z u T}(a:Below (w.alloc (.cells #[x,y,z,u] T)).heap.size (w.alloc (.cells #[x,y,z,u] T)) w1):
 (w1.cell? ⟨w.heap.size,0,none⟩=some x/\w1.cell? ⟨w.heap.size,1,none⟩=some y/\w1.cell? ⟨w.heap.size,2,none⟩=some z/\w1.cell? ⟨w.heap.size,3,none⟩=some u)/\(w1.frozen? ⟨w.heap.size,0,none⟩=false/\w1.frozen? ⟨w.heap.size,1,none⟩=false/\w1.frozen? ⟨w.heap.size,2,none⟩=false/\w1.frozen? ⟨w.heap.size,3,none⟩=false)/\yW w w1:=by
 obtain⟨h1,h2⟩:=rf a;refine⟨⟨?_,?_,?_,?_⟩,⟨?_,?_,?_,?_⟩,((Q1 w.heap.size w).alloc (QU _) _).trans (a.mono (by simp))⟩
 ·rw[h1 _ _ (by simp)];simp
 ·rw[h1 _ _ (by simp)];simp
 ·rw[h1 _ _ (by simp)];simp
 ·rw[h1 _ _ (by simp)];simp
 ·rw[h2 _ _ (by simp)];simp
 ·rw[h2 _ _ (by simp)];simp
 ·rw[h2 _ _ (by simp)];simp
 ·rw[h2 _ _ (by simp)];simp
theorem Qj{n w w1}(h:Below n w w1)(a b c d):Below n w ((((w1.setCell ⟨n,0,none⟩ a).setCell ⟨n,1,none⟩ b).setCell ⟨n,2,none⟩ c).setCell ⟨n,3,none⟩ d):=
 (((h.setCell (QU _) _).setCell (QU _) _).setCell (QU _) _).setCell (QU _) _
theorem uo(u:Option Addr)(s:yB)(g:s.size<=4096)(w:World):
 Calls yP 80 #[pV u,sV s] w fun e w'=>e=rV (cd (pV u) (str (bZ s.data.toList)) 0 false)/\yW w w':=by
 have d:=aa (Ct s g);go_enter func80,ntmps80
 go_wp2_with fail
 refine(d.out _).mono ?_;rintro e w1 ⟨rfl,a⟩;obtain⟨⟨c0,c1,c2,c3⟩,⟨f0,f1,f2,f3⟩,b⟩:=Ax a;have c:=aa b;clear a b;generalize hR:str (bZ s.data.toList)=R at*;have f:=aa hR;clear hR;go_wp2_with fail
 exact Rf (v:=cd (pV u) R 0 false) (by simp[results,results80,go_sem,cd,c0,c1,c2,c3]) rfl ⟨by rw[f.out],Qj c.out _ _ _ _⟩
def Nd.at(t:Nd)(r:yL):yL:=if t.kind≠2/\r=t.path then t.value else []
theorem Im(r:yB)(d:Nat)(bl:Bool)(w:World):
 Calls yP 78 #[cd (pV none) r d bl] w fun e w'=>e=rV (sV ⟨#[]⟩)/\yW w w':=by
 unfold cd;go_enter func78,ntmps78
 go_wp2_with fail
 go_ret
 exact⟨rfl,(Q1 _ _).alloc (QU _) _⟩
theorem Below.drewN{n w w1}(h:Below n w w1)(m:Nat):Below n w (w1.drewN m):=⟨h.os,h.tape,h.output,h.size,h.block⟩
theorem oT(a b):((str a).toList == (str b).toList)=decide (a=b):=by
 rw[ByteArray.toList_eq,ByteArray.toList_eq,dV,dV];by_cases h:a=b
 ·subst h;simp
 ·simp[h]
theorem jP(a):((str a).toList.isEmpty)=decide (a=[]):=by
 rw[ByteArray.toList_eq,dV];cases a<;>simp
theorem Iq(b:Nat)(t o q)(r:yL)(d:Nat)(bl:Bool)(w)(B:bL w b t o q):
 Calls yP 78 #[cd (pV (qA b)) (str r) d bl] w fun e w'=>e=rV (sV (str (t.at r)))/\yW w w':=by
 have c0:=B.c0;have c2:=B.c2;have c3:=B.c3;have k:=B.lt;obtain⟨V,j⟩:=yX (t.at r)
 rw[<-j];have i:=aa j;unfold cd;clear B j;have f:yW w (w.alloc (.cells #[pV (qA b),sV (str r),iV .i64 (d:Int),bV bl] 127)):=(Q1 _ _).alloc (QU _) _;have g:=aa f;have m:=(f.cell (p:=⟨b,0,none⟩) k).trans c0;have s:=(f.cell (p:=⟨b,2,none⟩) k).trans c2;have u:=(f.cell (p:=⟨b,3,none⟩) k).trans c3;clear c0 c2 c3 f;by_cases h2:t.kind=2
 ·have c:Hid (V=[]):=by show _=_;rw[i.out];unfold Nd.at;rw[QW (fun h=>h.1 h2)]
  rw[h2] at m;have n:((((2:Nat):Int)) != 2)=false:=rfl;go_enter func78,ntmps78
  go_wp2_with fail
  go_quiet (fail)
  go_wp2_with fail
  go_ret
  exact⟨by rw[c.out];rfl,Below.drewN g.out _⟩
 ·have n:(((t.kind:Nat):Int) != 2)=true:=by simp;omega
  have l:=oT r t.path;by_cases a:r=t.path
  ·have c:Hid (V=t.value):=by show _=_;rw[i.out];unfold Nd.at;rw[QX ⟨h2,a⟩]
   rw[Ra a] at l;clear a;generalize t.path=P at*;generalize t.kind=K at*;generalize hvv:t.value=VV at*;generalize str r=R at*;generalize str P=PP at*;go_enter func78,ntmps78
   go_wp2_with fail
   go_quiet (fail)
   go_wp2_with fail
   go_ret
   exact⟨by rw[c.out];rfl,Below.drewN g.out _⟩
  ·have c:Hid (V=[]):=by show _=_;rw[i.out];unfold Nd.at;rw[QW (fun h=>a h.2)]
   rw[Q9 a] at l;clear a;generalize t.path=P at*;generalize t.kind=K at*;generalize str r=R at*;generalize str P=PP at*;go_enter func78,ntmps78
   go_wp2_with fail
   go_quiet (fail)
   go_wp2_with fail
   go_ret
   exact⟨by rw[c.out];rfl,Below.drewN g.out _⟩
theorem u7(b:Nat)(h v)(ks:Nat->Nd)(q l)(c:UInt8)(r:yL)(o:c.toNat<16)(u)(j:l c.toNat=pV u)(p:r.length<4096)(d:Nat)(x:d<4096)(bl:Bool)(w)(B:bL w b (.branch h v ks) q l):
 Calls yP 113 #[cd (pV (qA b)) (str (c::r)) d bl] w fun e w'=>e=rV (cd (pV u) (str r) (d+1) false)/\yW w w':=by
 have c0:=B.c0;have s:w.cell? ⟨b,5+c.toNat,none⟩=some (pV u):=by rw[B.ck _ o,j]
 have z:=B.lt;obtain⟨R,a⟩:=yX (str (c::r))
 have i:R.size=r.length+1:=by rw[a,aH];rfl
 have g:0<R.size:=by omega
 have h0:R[0]'g=c:=by subst a;rfl
 have k:R.extract 1 R.size=str r:=by
  subst a;apply Go.WideShapes.bytes_inj;rw[Lib.extract_data,dV,dV];exact RI (by rw[i];simp)
 have y:R.toList.isEmpty=false:=by rw[a,jP];simp
 have m:=aa k;have A:(0:Int)<(R.size:Int):=by omega
 have C:=g;have n:=pG c;have f:lo c=c:=by apply lq;rw[qL];omega
 rw[f] at n;have t:(c.toNat:Int)<16:=by omega
 rw[<-a];unfold cd;clear B a i k f j p;go_enter func113,ntmps113
 go_wp2_with fail
 go_region
 all_goals
  go_wp2_with fail
  exact Rf (v:=cd (pV u) (R.extract 1 R.size) (d+1) false) (by simp[results,results113,go_sem,cd]) rfl ⟨by rw[m.out];rfl,(((Q1 _ _).alloc (QU _) _).alloc (by simp) _).drew⟩
def mz:Nd->Prop
 | .nil=>True
 | .unread h=>h.length=32
 | .leaf h p v=>(h=[]\/h.length=32)/\ak p/\p.length<=80/\v.length<=160
 | .ext h p k=>(h=[]\/h.length=32)/\ak p/\p.length<=80/\mz k
 | .branch h v ks=>(h=[]\/h.length=32)/\v.length<=160/\∀i,i<16->mz (ks i)
def oM(d:Nat)(w:World)(x:Tree)(e:Ending)(w':World):Prop:=
 ∃l t a m c,e=rV (gV #[bV l,sV t,lV a m c])/\aY d w' (fun b=>w.heap.size<=b) [bV l,sV t,lV a m c] x/\yW w w'
def tM(t:Nd):Prop:=∀(w:World) (S:Nat->Prop) (p:Value) (d:Nat),At w t S p->mz t->t.read->bK d t.item=true->Calls yP 139 #[p] w (oM d w t.item)
def zW(t:Nd):Prop:=∀(w:World) (S:Nat->Prop) (p:Value) (d:Nat),At w t S p->mz t->bK d t.ref=true->Calls yP 151 #[p] w (oM d w t.ref)
theorem Kg(w)(d:Nat):Calls yP 151 #[pV none] w (oM d w (ay [])):=by
 go_enter func151,ntmps151
 go_wp2_with fail
 exact Rf (v:=gV #[bV false,sV ⟨#[]⟩,lV none 0 0]) (by simp[results,results151,go_sem]) rfl ⟨false,⟨#[]⟩,none,0,0,rfl,mi d _ _ ⟨#[]⟩ _ (by decide),(Q1 _ _).alloc (QU _) _⟩
theorem uF(w)(b:Nat)(t e f)(d:Nat)(B:bL w b t e f)(a:t.hash≠[])(h:t.hash.length<=4096):Calls yP 151 #[pV (qA b)] w (oM d w (ay t.hash)):=by
 have c1:=B.c1;have i:=B.lt;have g:(str t.hash).toList.isEmpty=false:=by rw[jP];simp[a]
 have c:Hid (∀W S,aY d W S [bV false,sV (str t.hash),lV none 0 0] (ay t.hash)):=fun W S=>by
  have:=mi d W S (str t.hash) (lV none 0 0) (by rw[aH];omega);rw[dV] at this;exact this
 clear B a;generalize str t.hash=H at*;generalize ay t.hash=X at*;go_enter func151,ntmps151
 go_wp2_with fail
 exact Rf (v:=gV #[bV false,sV H,lV none 0 0]) (by simp[results,results151,go_sem]) rfl ⟨false,H,none,0,0,rfl,c.out _ _,(Q1 _ _).alloc (QU _) _⟩
theorem xO(w)(b:Nat)(t p r)(d:Nat)(x:Tree)(B:bL w b t p r)(i:t.hash=[])
 (hi:∀W,yW w W->Calls yP 139 #[pV (qA b)] W (oM d W x)):Calls yP 151 #[pV (qA b)] w (oM d w x):=by
 have c1:=B.c1;have u:=B.lt;have s:(str t.hash).toList.isEmpty=true:=by rw[jP];simp[i]
 have h:Hid (Calls yP 139 #[pV (qA b)] (w.alloc (.cells #[bV false,sV ⟨#[]⟩,lV none 0 0] 155)) (oM d (w.alloc (.cells #[bV false,sV ⟨#[]⟩,lV none 0 0] 155)) x)):=hi _ ((Q1 _ _).alloc (QU _) _);clear B i hi;generalize str t.hash=H at*;go_enter func151,ntmps151
 go_wp2_with fail
 refine h.out.mono ?_;rintro e w1 ⟨l,t1,a,m,c,rfl,j,g⟩;obtain⟨k0,k1,k2,f0,f1,f2⟩:=fV g;have k:=aa (((Q1 w.heap.size w).alloc (QU _) _).trans (g.mono (by simp)));have n:Hid (∀W:World,(∀q,q≠w.heap.size->W.heap[q]? =w1.heap[q]?)->aY d W (fun q=>w.heap.size<=q) [bV l,sV t1,lV a m c] x):=fun W o=>
  aY.move (fun q f _=>⟨by have:w.heap.size+1<=q:=(by simpa using f);omega,o q (by have:w.heap.size+1<=q:=(by simpa using f);omega)⟩) d _ _ j
 clear j g h;go_wp2_with fail
 exact Rf (v:=gV #[bV l,sV t1,lV a m c]) (by simp[results,results151,go_sem,k0,k1,k2]) rfl ⟨l,t1,a,m,c,rfl,n.out _ (fun q f=>by simp[Rc,f]),re k.out _ _ _⟩
theorem qo(t)(m:tM t):zW t:=by
 intro w S p d g c f;cases t with
 |nil=>cases g;exact Kg w d
 |unread h=>
  obtain⟨b,rfl,_,B⟩:=g;have a:h≠[]:=fun e=>by subst e;cases c
  have e:(Nd.unread h).ref=ay h:=by unfold Nd.ref jT;exact QW a
  rw[e];exact uF w b _ _ _ d B a (by show h.length<=4096;rw[show h.length=32 from c];omega)
 |leaf h q v=>
  obtain⟨b,rfl,j,B⟩:=g;by_cases a:h=[]
  ·have e:(Nd.leaf h q v).ref=(Nd.leaf h q v).item:=by unfold Nd.ref jT;exact QX a
   rw[e] at f⊢;exact xO w b _ _ _ d _ B a fun W i=>m W S _ d (At.below (t:=.leaf h q v) ⟨b,rfl,j,B⟩ i) c trivial f
  ·have e:(Nd.leaf h q v).ref=ay h:=by unfold Nd.ref jT;exact QW a
   rw[e];exact uF w b _ _ _ d B a (by rcases c.1 with h1|h1;exact absurd h1 a;show h.length<=4096;omega)
 |ext h q k=>
  obtain⟨b,r,n,rfl,j,B,l⟩:=g;by_cases a:h=[]
  ·have e:(Nd.ext h q k).ref=(Nd.ext h q k).item:=by unfold Nd.ref jT;exact QX a
   rw[e] at f⊢;exact xO w b _ _ _ d _ B a fun W i=>m W S _ d (At.below (t:=.ext h q k) ⟨b,r,n,rfl,j,B,l⟩ i) c trivial f
  ·have e:(Nd.ext h q k).ref=ay h:=by unfold Nd.ref jT;exact QW a
   rw[e];exact uF w b _ _ _ d B a (by rcases c.1 with h1|h1;exact absurd h1 a;show h.length<=4096;omega)
 |branch h v ks=>
  obtain⟨b,s,o,rfl,j,B,l⟩:=g;by_cases a:h=[]
  ·have e:(Nd.branch h v ks).ref=(Nd.branch h v ks).item:=by unfold Nd.ref jT;exact QX a
   rw[e] at f⊢;exact xO w b _ _ _ d _ B a fun W i=>m W S _ d (At.below (t:=.branch h v ks) ⟨b,s,o,rfl,j,B,l⟩ i) c trivial f
  ·have e:(Nd.branch h v ks).ref=ay h:=by unfold Nd.ref jT;exact QW a
   rw[e];exact uF w b _ _ _ d B a (by rcases c.1 with h1|h1;exact absurd h1 a;show h.length<=4096;omega)
theorem wh(W:World)(o:Obj)(g:Nat)(h:g=W.heap.size):(W.alloc o).heap[g]? =some o:=by subst h;exact Rl _ _
theorem CA(e:Nat)(W:World)(S:Nat->Prop)(g:Nat)(a0 a1 a2 b0 b1 b2:Value)(T:TypeId)(a:Nat×Nat)(x y:Tree)(t:yB)
 (b:W.heap[g]? =some (.cells #[a0,a1,a2,b0,b1,b2] T a)) (c:S g) (d:aY e W S [a0,a1,a2] x) (f:aY e W S [b0,b1,b2] y):
 aY (e+1) W S [bV true,sV t,lV (qA g) 2 2] (bH [x,y]):=by
 refine vG e W S t _ [x,y] [a0,a1,a2,b0,b1,b2] ⟨rfl,.inr ⟨g,0,2,rfl,c,fun j h=>?_⟩⟩ (by simp) fun i hi=>?_
 ·rw[R5,Q5 W g j _ _ _ b,Sl]
 ·match i,hi with
  | 0,_=>exact d
  | 1,_=>exact f
theorem Fs(d:Nat)(x y:Tree)(h:bK d (bH [x,y])=true):∃e,d=e+1/\bK e x=true/\bK e y=true:=by
 cases d with
 |zero=>rw[zo] at h;cases h
 |succ e=>
  rw[mq] at h;simp at h;exact⟨e,rfl,h.1,h.2⟩
theorem vF(d:Nat)(w S)(l:yL)(k)(h:l.length<=8192)(a:tN k:=by exact⟨_,_,_,rfl⟩):aY d w S [bV false,sV (str l),k] (ay l):=by
 have:=mi d w S (str l) k (by rw[aH];omega) a;rw[dV] at this;exact this
theorem NT(h q v):tM (.leaf h q v):=by
 intro w S p d hA hS _ hf;obtain⟨b,rfl,hs,B⟩:=hA;obtain⟨_,hn,hq,hv⟩:=hS;have c0:w.cell? ⟨b,0,none⟩=some (iV .i64 1):=B.c0;have c2:w.cell? ⟨b,2,none⟩=some (sV (str q)):=B.c2;have c3:w.cell? ⟨b,3,none⟩=some (sV (str v)):=B.c3;have A1:=B.lt;have HP:Hid (∀W:World,Calls yP 152 #[sV (str q),bV true] W fun e w'=>e=rV (tV #[sV (str (cN q true)),iV .i64 0])/\yW W w'):=fun W=>by
  have:=CF (str q) true (by rw[aH];omega) (by rw[dV];exact hn) W;rw[dV] at this;exact this
 obtain⟨e,rfl,_,_⟩:=Fs d _ _ hf;have HX:Hid (∀(W:World) (g:Nat) (S:Nat->Prop) (fr:Nat×Nat),W.heap[g]? =some (.cells #[bV false,sV (str (cN q true)),lV none 0 0,bV false,sV (str v),lV none 0 0] 155 fr)->S g->
  aY (e+1) W S [bV true,sV ⟨#[]⟩,lV (qA g) 2 2] (Nd.leaf h q v).item):=fun W g S fr hg hs=>
  CA e W S g _ _ _ _ _ _ 155 fr _ _ _ hg hs (vF e W S _ _ (by rw[qy];omega)) (vF e W S _ _ (by omega))
 clear B hn hf;unfold ptr;generalize (Nd.leaf h q v).item=X at*;generalize hQ:str q=Q at*;generalize hVV:str v=V at*;generalize hPK:str (cN q true)=PK at*;go_enter func139,ntmps139
 have A2:Hid (yW w (w.alloc (.cells #[bV false,sV ⟨#[]⟩,lV none 0 0] 155))):=(Q1 _ _).alloc (QU _) _;go_upto_region 9 with fail
 go_cut [5] (fun u wx=>u=sV PK/\Below (w.alloc (.cells #[bV false,sV ⟨#[]⟩,lV none 0 0] 155)).heap.size (w.alloc (.cells #[bV false,sV ⟨#[]⟩,lV none 0 0] 155)) wx)
 case first=>
  go_region_with (go_at_call 152;refine(HP.out _).mono ?_;rintro e1 w1 ⟨rfl,B1⟩)
  all_goals (have A0:Hid _:=B1;clear B1;go_wp2_with fail;go_meet;exact⟨rfl,by first|exact A0.out|exact A0.out.drew|exact(Q1 _ _).drew.trans A0.out⟩)
 case rest=>
  obtain⟨rfl,B1⟩:=hcut;obtain⟨k0,k1,k2,f0,f1,f2⟩:=fV B1;have A0:=aa (A2.out.trans (B1.mono (by simp)));have d0:=(A0.out.cell (p:=⟨b,0,none⟩) A1).trans c0;have d3:=(A0.out.cell (p:=⟨b,3,none⟩) A1).trans c3;have hz:w.heap.size<wc.heap.size:=by have:=B1.size;simp at this;omega
  have A3:b<wc.heap.size:=by omega
  clear B1;go_wp2_with fail
  refine Rf (v:=gV #[bV true,sV ⟨#[]⟩,lV (some ⟨wc.heap.size+1,0,none⟩) 2 2]) (by simp[results,results139,go_sem,k0,k1,k2,hz]) rfl ⟨true,⟨#[]⟩,_,_,_,rfl,HX.out _ _ _ (0,0) ?_ ?_,?_⟩
  ·exact wh _ _ _ (by simp)
  ·show w.heap.size<=wc.heap.size+1;omega
  ·exact(nz A0.out hz _ _ _ _).alloc (by simp;omega) _
theorem q9{n g w w1}(h:Below n w w1)(e:n<=g)(a b c d):Below n w ((((w1.setCell ⟨g,0,none⟩ a).setCell ⟨g,1,none⟩ b).setCell ⟨g,2,none⟩ c).setCell ⟨g,3,none⟩ d):=
 (((h.setCell e _).setCell e _).setCell e _).setCell e _
theorem pF(w:World)(o p:Obj):yW w ((w.alloc o).alloc p):=((Q1 _ _).alloc (QU _) _).alloc (by simp) _
theorem p9(r)(n:Nat):(str r).extract n (str r).size=str (r.drop n):=by
 apply Go.WideShapes.bytes_inj;rw[Lib.extract_data,dV,dV];exact RI (by rw[aH];simp)
theorem uZ(b:Nat)(h p:yL)(k u A3)(r:yL)(hp:p.length<=4096)(hr:r.length<=4096)(A1:aF r p=p.length)(d:Nat)(hd:d<4096)(bl:Bool)(w)(B:bL w b (.ext h p k) (.pointer u) A3):
 Calls yP 113 #[cd (.pointer (qA b)) (str r) d bl] w fun e w'=>e=.returned (cd (.pointer u) (str (r.drop p.length)) (d+p.length) true)/\yW w w':=by
 have c0:w.cell? ⟨b,0,none⟩=some (.int .i64 2):=B.c0;have c2:w.cell? ⟨b,2,none⟩=some (.string (str p)):=B.c2;have c4:w.cell? ⟨b,4,none⟩=some (.pointer u):=B.c4;have A5:=B.lt;have HS:Hid (∀w:World,Calls yP 135 #[.string (str r),.string (str p)] w fun e w'=>e=.returned (.int .i64 ((str p).size:Int))/\∃n,w'=w.drewN n):=fun w=>by
  have:=rW (str r) (str p) (by rw[aH];unfold maxLen;omega) (by rw[aH];unfold maxLen;omega) w;rw[dV,dV,A1] at this;rw[aH];exact this
 have HX:Hid ((str r).extract (str p).size (str r).size=str (r.drop p.length)):=by show _=_;rw[aH p,p9]
 have A0:=(g9 r p).1;rw[A1] at A0;have A4:(str p).size<=(str r).size:=by rw[aH,aH];exact A0
 have A6:(str p).size<=4096:=by rw[aH];exact hp
 have A2:=aa ((aH p).symm);unfold cd;clear B A1 A0 hp;generalize str r=R at*;generalize str p=P at*;go_enter func113,ntmps113
 go_wp2_with fail
 go_quiet ((go_at_call 135;refine Calls.quiet_of (HS.out _)))
 go_wp2_with fail
 go_region
 all_goals
  go_wp2_with fail
  exact Rf (v:=cd (.pointer u) (R.extract P.size R.size) (d+P.size) true) (by simp[results,results113,go_sem,cd]) rfl ⟨by rw[HX.out,A2.out];rfl,q9 (Below.drewN (pF w _ _) _) (Nat.le_succ _) _ _ _ _⟩
theorem yk(b:Nat)(h p:yL)(k A1 A2)(r:yL)(hp:p.length<=4096)(hr:r.length<=4096)(A0:aF r p≠p.length)(d:Nat)(bl:Bool)(w)(B:bL w b (.ext h p k) A1 A2):
 Calls yP 113 #[cd (.pointer (qA b)) (str r) d bl] w fun e w'=>e=.returned (cd (.pointer none) ⟨#[]⟩ 0 false)/\yW w w':=by
 have c0:w.cell? ⟨b,0,none⟩=some (.int .i64 2):=B.c0;have c2:w.cell? ⟨b,2,none⟩=some (.string (str p)):=B.c2;have A3:=B.lt;obtain⟨m,hm⟩:=yX (aF r p)
 have HS:Hid (∀w:World,Calls yP 135 #[.string (str r),.string (str p)] w fun e w'=>e=.returned (.int .i64 (m:Int))/\∃n,w'=w.drewN n):=fun w=>by
  have:=rW (str r) (str p) (by rw[aH];unfold maxLen;omega) (by rw[aH];unfold maxLen;omega) w;rw[dV,dV,<-hm] at this;exact this
 have A4:((m:Int) == ((str p).size:Int))=false:=RW.2 (by rw[aH,hm];omega);have A5:(str p).size<=4096:=by rw[aH];exact hp
 unfold cd;clear B A0 hp hm;generalize str r=R at*;generalize str p=P at*;go_enter func113,ntmps113
 go_wp2_with fail
 go_quiet ((go_at_call 135;refine Calls.quiet_of (HS.out _)))
 go_wp2_with fail
 exact Rf (v:=cd (.pointer none) ⟨#[]⟩ 0 false) (by simp[results,results113,go_sem,cd]) rfl ⟨rfl,q9 (Below.drewN (pF w _ _) _) (Nat.le_succ _) _ _ _ _⟩
theorem yj(b:Nat)(h p v:yL)(A0 A1)(r:yL)(hp:p.length<=4096)(d:Nat)(bl:Bool)(w)(B:bL w b (.leaf h p v) A0 A1):
 Calls yP 113 #[cd (.pointer (qA b)) (str r) d bl] w fun e w'=>e=.returned (cd (.pointer none) ⟨#[]⟩ 0 false)/\yW w w':=by
 have c0:w.cell? ⟨b,0,none⟩=some (.int .i64 1):=B.c0;have c2:w.cell? ⟨b,2,none⟩=some (.string (str p)):=B.c2;have A2:=B.lt;have A3:(str p).size<=4096:=by rw[aH];exact hp
 unfold cd;clear B hp;generalize str r=R at*;generalize str p=P at*;go_enter func113,ntmps113
 go_wp2_with fail
 go_quiet (fail)
 go_wp2_with fail
 exact Rf (v:=cd (.pointer none) ⟨#[]⟩ 0 false) (by simp[results,results113,go_sem,cd]) rfl ⟨rfl,q9 (Below.drewN (pF w _ _) _) (Nat.le_succ _) _ _ _ _⟩
theorem yl(b:Nat)(h v)(ks:Nat->Nd)(a c)(d:Nat)(bl:Bool)(w)(B:bL w b (.branch h v ks) a c):
 Calls yP 113 #[cd (pV (qA b)) ⟨#[]⟩ d bl] w fun e w'=>e=rV (cd (pV none) ⟨#[]⟩ 0 false)/\yW w w':=by
 have c0:=B.c0;have c2:=B.c2;have f:=B.lt;unfold cd;clear B;go_enter func113,ntmps113
 go_wp2_with fail
 go_quiet (fail)
 go_wp2_with fail
 exact Rf (v:=cd (pV none) ⟨#[]⟩ 0 false) (by simp[results,results113,go_sem,cd]) rfl ⟨rfl,q9 (Below.drewN (pF w _ _) _) (Nat.le_succ _) _ _ _ _⟩
end Go.Proofs.YtiimkkahmpmhdaaGreatDoor
