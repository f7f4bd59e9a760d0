import Derived.Test.YteaodagofkcgbaaGreatDoorO
open Go.Proofs.Tryz
open Go.Proofs.Tryz renaming prog→yP
open Go.Value renaming string→sV,pointer→pV,int→iV,slice→lV,bool→bV,tuple→tV,agg→gV
open Go.Ending renaming returned→rV
namespace Go.Proofs.YteaodagofkcgbaaGreatDoor
open Go.RowKit
set_option maxRecDepth 100000
set_option maxHeartbeats 0
set_option linter.all false
def JV(d:Nat):Prop:=∀(w:World) (S:Nat->Prop) (f0 f1 f2 s0 s1 s2:Value) (x y:Tree) (dep:Nat),bg d w S [f0,f1,f2] x->bg d w S [s0,s1,s2] y->dep+d<=4096->
 yC 152 #[gV #[f0,f1,f2],gV #[s0,s1,s2],iV .i64 (dep:Int)] w (iL w (jy (a6 d) x y dep))
def uu{d w S v0 v1 v2 x}(h:bg d w S [v0,v1,v2] x):∃l t,v0=bV l/\v1=sV t:=by
 rcases lp h with⟨t,rfl,rfl,_⟩|⟨e,t,ks,a,_,rfl,rfl,_⟩
 .exact⟨false,t,rfl,rfl⟩
 exact⟨true,t,rfl,rfl⟩
def Oh(w:World)(f1:yB)(f2:Value)(s0:Bool)(s1:yB)(s2:Value)(dep:Nat):yC 152 #[gV #[bV true,sV f1,f2],gV #[bV s0,sV s1,s2],i6 (dep:Int)] w (iL w none):=by
 go_enter func152,ntmps152
 go_wp2;go_ret;exact⟨rfl,qJ w _ _⟩
def EP(w:World)(t:yB)(f2:Value)(s0:Bool)(s1:yB)(s2:Value)(dep:Nat)(ht:t.size<=maxLen)(hb:4096<t.size\/¬jT t.data.toList):yC 152 #[gV #[bV false,sV t,f2],gV #[bV s0,sV s1,s2],i6 (dep:Int)] w (iL w none):=by
 obtain⟨E,hE⟩:∃E:Int,E=if 4096<t.size then 1 else 7:=⟨_,rfl⟩
 have HU:yH (∀W:World,yC 159 #[sV t] W λe w'=>e=rV (tV #[sV ByteArray.empty,bV false,i6 E])/\w'=W):=λW=>by
  rw[hE];exact Lk t ht hb W
 have A0:(E != 0)=true:=by rw[hE];split<;>rfl
 clear hb ht hE;go_enter func152,ntmps152
 go_wp2_with fail
 refine(HU.o _).mono ?_;rintro e w1⟨rfl,rfl⟩;go_wp2;go_ret;exact⟨rfl,qJ w _ _⟩
def rn{w w1:World}{o x y z T}(a:Below ((w.alloc o).alloc (.cells #[x,y,z] T)).heap.size ((w.alloc o).alloc (.cells #[x,y,z] T)) w1):yc w1 (w.heap.size+1) 0 x/\yc w1 (w.heap.size+1) 1 y/\yc w1 (w.heap.size+1) 2 z/\yW w w1/\w.heap.size+1<w1.heap.size:=by
 let⟨h0,h1,h2,_⟩:=iB (w:=w.alloc o) a;have e:(w.alloc o).heap.size=w.heap.size+1:=by simp
 rw[e] at h0 h1 h2;refine⟨h0,h1,h2,(qJ w _ _).trans (a.mono (by simp;omega)),?_⟩;have:=a.size;simp at this;omega
def Ol(w:World)(t:yB)(f2:Value)(s0:Bool)(s1:yB)(s2:Value)(dep:Nat)(k:dep<=4096)(f:t.size<=4096)(c:jT t.data.toList)(i:80<dep+(bm t.data.toList).length)(d:(bm t.data.toList).length<=8192):yC 152 #[gV #[bV false,sV t,f2],gV #[bV s0,sV s1,s2],i6 (dep:Int)] w (iL w none):=by
 have h:=aa (vz t f c);have l:(ae (bm t.data.toList)).size<=8192:=by rw[aN];exact d
 have j:(80:Int)<(dep:Int)+((ae (bm t.data.toList)).size:Int):=by rw[aN];omega
 clear f c i d;generalize ae (bm t.data.toList)=P at*;generalize fT t.data.toList=L at*;go_enter func152,ntmps152
 go_wp2_with fail
 refine(h.o _).mono ?_;rintro e w1⟨rfl,a⟩;obtain⟨_,_,_,b,_⟩:=rn a;have g:=aa b;clear a b;go_wp2;go_ret;exact⟨rfl,g.o⟩
def EO(w:World)(t:yB)(f2:Value)(s0:Bool)(s1:yB)(s2:Value)(dep:Nat)(j:t.size<=4096)(g:jT t.data.toList)(l:dep+(bm t.data.toList).length<=80)(i:fT t.data.toList=true)(d:s0=true\/s1.size=0\/160<s1.size):yC 152 #[gV #[bV false,sV t,f2],gV #[bV s0,sV s1,s2],i6 (dep:Int)] w (iL w none):=by
 have f:yH (∀W:World,yC 159 #[sV t] W λe w'=>e=rV (tV #[sV (ae (bm t.data.toList)),bV true,i6 0])/\yW W w'):=λW=>by have:=vz t j g W;rw[i] at this;exact this
 have o:(ae (bm t.data.toList)).size<=80:=by rw[aN];omega
 have m:¬(80:Int)<(dep:Int)+((ae (bm t.data.toList)).size:Int):=by rw[aN];omega
 have n:dep<=80:=by omega
 clear j g l i;generalize ae (bm t.data.toList)=P at*;cases s0 with
 |true=>
  go_enter func152,ntmps152
  go_wp2_with fail
  refine(f.o _).mono ?_;rintro e w1⟨rfl,a⟩;obtain⟨k0,k1,_,b,_⟩:=rn a;have c:=aa b;clear a b d;go_wp2;go_ret;exact⟨rfl,c.o⟩
 |false=>
  by_cases h0:s1.size=0
  .have k:s1.toList.isEmpty=true:=by rw[g7];exact h0
   clear d h0;go_enter func152,ntmps152
   go_wp2_with fail
   refine(f.o _).mono ?_;rintro e w1⟨rfl,a⟩;obtain⟨k0,k1,_,b,_⟩:=rn a;have c:=aa b;clear a b;go_wp2;go_ret;exact⟨rfl,c.o⟩
  have h160:(160:Int)<(s1.size:Int):=by
   have:160<s1.size:=by rcases d with h|h|h;cases h;exact absurd h h0;exact h
   omega
  have k:s1.toList.isEmpty=false:=by rw[iv];omega
  clear d h0;go_enter func152,ntmps152
  go_wp2_with fail
  refine(f.o _).mono ?_;rintro e w1⟨rfl,a⟩;obtain⟨k0,k1,_,b,_⟩:=rn a;have c:=aa b;clear a b;go_wp2;go_ret;exact⟨rfl,c.o⟩
def Oj(w:World)(t:yB)(f2:Value)(s1:yB)(s2:Value)(dep:Nat)(g:t.size<=4096)(d:jT t.data.toList)(j:dep+(bm t.data.toList).length<=80)(f:fT t.data.toList=true)(h0:s1.size≠0) (h1:s1.size<=160):yC 152 #[gV #[bV false,sV t,f2],gV #[bV false,sV s1,s2],i6 (dep:Int)] w (iL w (some (.leaf [] (bm t.data.toList) s1.data.toList))):=by
 have i:yH (∀W:World,yC 159 #[sV t] W λe w'=>e=rV (tV #[sV (ae (bm t.data.toList)),bV true,i6 0])/\yW W w'):=λW=>by have:=vz t g d W;rw[f] at this;exact this
 have h:yH (∀W:World,bU (W.alloc (.cells (fG 1 ⟨#[]⟩ (ae (bm t.data.toList)) s1 cN (λ_=>cN)) 167)) W.heap.size (.leaf [] (bm t.data.toList) s1.data.toList) cN (λ_=>cN)):=λW=>rN W _ _ _ _ _ rfl (by show _=Obj.cells (fG 1 _ _ (ae s1.data.toList) _ _) 167;rw[gA];rfl)
 have n:(ae (bm t.data.toList)).size<=80:=by rw[aN];omega
 have k:¬(80:Int)<(dep:Int)+((ae (bm t.data.toList)).size:Int):=by rw[aN];omega
 have l:dep<=80:=by omega
 have h160:¬(160:Int)<(s1.size:Int):=by omega
 have m:s1.toList.isEmpty=false:=by rw[iv];omega
 clear g d j f h0 h1;generalize hPP:bm t.data.toList=PP at*;generalize hSP:ae PP=P at*;go_enter func152,ntmps152
 go_wp2_with fail
 refine(i.o _).mono ?_;rintro e w1⟨rfl,b⟩;obtain⟨k0,k1,_,c,o⟩:=rn b;have a:=aa c;clear b c;go_wp2;go_ret;exact⟨_,rfl,⟨_,rfl,a.o.size,h.o w1⟩,a.o.alloc a.o.size _⟩
def se(p:yL)(r:Option Nd):Option Nd:=match r with
 |some k=>if k.isNil=true\/p=[] then none else some (.ext [] p k)
 |none=>none
def Be(p k):se p (some k)=if k.isNil=true\/p=[] then none else some (.ext [] p k):=rfl
def GS(k:Nd):k.isNil=true↔k=.nil:=by cases k<;>simp[Nd.isNil]
def Ok(w:World)(t:yB)(f2:Value)(s0:Bool)(s1:yB)(s2:Value)(dep:Nat)(R:Option Nd)(v:t.size<=4096)(p:jT t.data.toList)(D:dep+(bm t.data.toList).length<=80)(r:fT t.data.toList=false)(q:∀W,yW w W->yC 160 #[gV #[bV s0,sV s1,s2],i6 ((dep+(bm t.data.toList).length:Nat):Int),bV true] W (sP W R)):yC 152 #[gV #[bV false,sV t,f2],gV #[bV s0,sV s1,s2],i6 (dep:Int)] w (iL w (se (bm t.data.toList) R)):=by
 have B:yH (∀W:World,yC 159 #[sV t] W λe w'=>e=rV (tV #[sV (ae (bm t.data.toList)),bV false,i6 0])/\yW W w'):=λW=>by have:=vz t v p W;rw[r] at this;exact this
 have s:(ae (bm t.data.toList)).toList.isEmpty=decide (bm t.data.toList=[]):=ke _;have z:yH (∀W,yW w W->yC 160 #[gV #[bV s0,sV s1,s2],i6 ((dep:Int)+((ae (bm t.data.toList)).size:Int)),bV true] W (sP W R)):=λW C=>by
  have:=q W C;rw[aN];rw[show(((dep+(bm t.data.toList).length:Nat)):Int)=(dep:Int)+((bm t.data.toList).length:Int) by omega] at this;exact this
 have G:(ae (bm t.data.toList)).size<=80:=by rw[aN];omega
 have E:¬(80:Int)<(dep:Int)+((ae (bm t.data.toList)).size:Int):=by rw[aN];omega
 have F:dep<=80:=by omega
 clear v p D r q;generalize hPP:bm t.data.toList=PP at*;have A:yH (∀(W:World) (k:Nd) (u:Option Addr),bU (W.alloc (.cells (fG 2 ⟨#[]⟩ (ae PP) ⟨#[]⟩ (pV u) (λ_=>cN)) 167)) W.heap.size (.ext [] PP k) (pV u) (λ_=>cN)):=λW k u=>rN W _ _ _ _ _ rfl rfl
 generalize hSP:ae PP=P at*;clear hPP;go_enter func152,ntmps152
 go_wp2_with fail
 refine(B.o _).mono ?_;rintro e w1⟨rfl,n⟩;obtain⟨k0,k1,k2,o,H⟩:=rn n;have f:=aa o;clear n o;go_wp2_with fail
 refine(z.o _ f.o).mono ?_;cases R with
 |none=>rintro e w2⟨rfl,d⟩;have a:=aa (f.o.trans (d.mono f.o.size));clear d;go_wp2;go_ret;exact⟨rfl,a.o⟩
 |some k=>
  rintro e w2⟨u,rfl,c,d⟩;have a:=aa (f.o.trans (d.mono f.o.size));by_cases j:k=.nil
  .have m:Value.pointer u=pV none:=by rw[j] at c;exact c
   cases m;have i:yH (se PP (some k)=none):=by show _=_;rw[Be,Uj (.inl ((GS k).2 j))]
   clear d c;go_wp2;go_ret;rw[i.o];exact⟨rfl,a.o⟩
  obtain⟨b,I,J,m,_,_⟩:=c.ai (by cases k<;>first|exact absurd rfl j|trivial);cases m;by_cases g:PP=[]
  .have i:yH (se PP (some k)=none):=by show _=_;rw[Be,Uj (.inr g)]
   rw[Uw g] at s;clear d c g;go_wp2;go_ret;rw[i.o];exact⟨rfl,a.o⟩
  have i:yH (se PP (some k)=some (.ext [] PP k)):=by show _=_;rw[Be,Ui (by rw[GS];exact λh=>h.elim j g)]
  have y:yH (At w2 k (λx=>w.heap.size<=x/\x<w2.heap.size) (pV (qA b))):=c.cut.mono λx l=>⟨Ut f.o.size l.1,l.2⟩
  rw[Uv g] at s;clear d c g;go_wp2;go_ret;rw[i.o];exact⟨_,rfl,⟨_,_,λx=>w.heap.size<=x/\x<w2.heap.size,rfl,a.o.size,A.o w2 k _,λx l=>⟨l.1,by omega⟩,y.o.below ((Un _ _).alloc (Ug _) _)⟩,a.o.alloc a.o.size _⟩
def On(l)(h:l≠[]):2*(l.length - 1)<=(bm l).length/\(bm l).length<=2*l.length:=by
 unfold bm;rw[Uq,py,Uu];have:l.length≠0:=λe=>h (UH.1 e)
 split<;>simp<;>omega
def Om(d:Nat)(p:Cd d)(r:d<=6):JV d:=by
 intro w S f0 f1 f2 s0 s1 s2 x y dep o l s;obtain⟨c,a,rfl,rfl⟩:=uu l;rcases lp o with⟨t,rfl,rfl,rfl,B⟩|⟨e,t,ks,q,_,rfl,rfl,rfl,_⟩
 .have u:t.data.toList.length=t.size:=by simp
  have m:jy (a6 d) (ak t.data.toList) y dep=if nx t.data.toList=false\/80<dep+(bm t.data.toList).length then none else if fT t.data.toList=true then(match y with| .lit (.string v)=>if v=[]\/160<v.length then none else some (.leaf [] (bm t.data.toList) v) | _=>none) else se (bm t.data.toList) (jC (a6 d) y (dep+(bm t.data.toList).length) true):=rfl;rw[m];by_cases b:jT t.data.toList
  .have j:=(uC _).2 b;let⟨z,A⟩:=On _ b.1;by_cases i:80<dep+(bm t.data.toList).length
   .rw[Uj (.inr i)];by_cases h4:4096<t.size
    .exact EP w t f2 c a s2 dep (by unfold maxLen;omega) (.inl h4)
    exact Ol w t f2 c a s2 dep (by omega) (by omega) b i (by omega)
   have g:t.size<=4096:=by omega
   rw[Ui (by rw[j];exact λh=>h.elim (λh=>by cases h) i)];cases hlf:fT t.data.toList with
   |true=>
    rw[Uj rfl];rcases lp l with⟨v,h1,h2,rfl,C⟩|⟨e,v,ks,q,_,h1,h2,rfl,_⟩
    .cases h1;cases h2;have k:a.data.toList.length=a.size:=by simp
     show Calls _ _ _ _ (iL w (if a.data.toList=[]\/160<a.data.toList.length then none else some (.leaf [] (bm t.data.toList) a.data.toList)));by_cases f:a.size=0\/160<a.size
     .rw[Uj (by rw[k];exact f.imp (λh=>UH.1 (by omega)) id)];exact EO w t f2 false a s2 dep g b (by omega) hlf (.inr f)
     have h0:a.size≠0:=λh=>f (.inl h)
     have h1:a.size<=160:=by have:¬160<a.size:=λh=>f (.inr h);omega
     rw[Ui (by rw[k];exact λh=>h.elim (λh=>h0 (by rw[<-k,h];rfl)) (λh=>by omega))];exact Oj w t f2 a s2 dep g b (by omega) hlf h0 h1
    cases h1;cases h2;exact EO w t f2 true a s2 dep g b (by omega) hlf (.inl rfl)
   |false=>rw[Ui (by decide)];exact Ok w t f2 c a s2 dep _ g b (by omega) hlf λW n=>p W S _ _ _ y _ true (l.below n) (by omega)
  have j:nx t.data.toList=false:=by
   cases h:nx t.data.toList with
   |false=>rfl
   |true=>exact absurd ((uC _).1 h) b
  rw[Uj (.inl j)];exact EP w t f2 c a s2 dep (by unfold maxLen;omega) (.inr b)
 exact Oh w t f2 c a s2 dep
def PF(k:Int)(h p v a b)(d:Nat)(x)(c:d<16):(fG k h p v a b).setIfInBounds (5+d) x=fG k h p v a (λj=>if j=d then x else b j):=by
 apply Vw;intro j;rw[Vi];by_cases e:5+d=j
 .subst e;rw[Uj rfl,Uj (by rw[rK];omega),tY _ _ _ _ _ _ d c,Uj rfl]
 rw[Ui e];by_cases f:j<5
 .match j,f with
  | 0,_=>rfl
  | 1,_=>rfl
  | 2,_=>rfl
  | 3,_=>rfl
  | 4,_=>rfl
 by_cases g:j<21
 .obtain⟨i,rfl⟩:∃i,j=5+i:=⟨j - 5,by omega⟩
  rw[tY _ _ _ _ _ _ i (by omega),tY _ _ _ _ _ _ i (by omega),Ui (by omega)]
 rw[UF (by rw[rK];omega),UF (by rw[rK];omega)]
def qp(f:Nat->Option Nd)(i:Nat):Nat->Nd:=λj=>if j<i then(f j).getD .nil else .nil
def Qw(f:Nat->Option Nd)(i:Nat)(k)(h:f i=some k):qp f (i+1)=aJ (qp f i) i k:=by
 funext j
 unfold qp aJ;by_cases e:j=i
 .subst e;rw[Uj (by omega),Uj rfl,h];rfl
 rw[Ui e];by_cases a:j<i
 .simp only[a,U5];rw[Uj (by omega)]
 simp only[a,UT];rw[Ui (by omega)]
def GA(a:Tree->Nat->Bool->Option Nd)(ks:List Tree)(dep i:Nat)(h:gW a ks dep i=none):∀n,i<n->kD a ks dep n=false
 | 0,hi=>by omega
 |n+1,hi=>by
  show(kD a ks dep n && (gW a ks dep n).isSome)=false
  by_cases e:i=n
  .subst e;rw[h];simp
  rw[GA a ks dep i h n (by omega)];rfl
def Ar(a:Tree->Nat->Bool->Option Nd)(ks:List Tree)(dep:Nat)(v):∀n,iH a ks dep v n<=n+1
 | 0=>by simp only[iH];split<;>omega
 |n+1=>by
  have:=Ar a ks dep v n
  simp only[iH]
  split<;>omega
def jZ(w:World)(g:Nat)(v:yB)(U:Nat->Option Addr):Prop:=w.heap[g]? =some (.cells (fG 3 ⟨#[]⟩ ⟨#[]⟩ v cN (λj=>pV (U j))) 167 (0,0))
def jZ.lt{w g v U}(h:jZ w g v U):g<w.heap.size:=(Um.1 h).1
def jZ.cell{w g v U}(h:jZ w g v U)(i:Nat)(hi:i<16):w.cell? ⟨g,5+i,none⟩=some (pV (U i)):=by rw[Ur w g (5+i) _ _ _ h,tY _ _ _ _ _ _ i hi]
def jZ.free{w g v U}(h:jZ w g v U)(o:Nat):w.frozen? ⟨g,o,none⟩=false:=by simp[World.frozen?,show w.heap[g]? =_ from h]
def jZ.set{w g v U}(h:jZ w g v U)(i:Nat)(x)(hi:i<16):jZ (w.setCell ⟨g,5+i,none⟩ (pV x)) g v (gx U i x):=by
 unfold jZ;rw[Vo w g (5+i) _ _ _ h,PF _ _ _ _ _ _ i _ hi];congr 3;funext j
 unfold gx;split<;>rfl
def Ke(d:Nat):Prop:=∀(w:World) (S:Nat->Prop) (a:Option Addr) (c:Nat) (ks:List Tree) (b:List Value) (dep:Nat),ik w S (lV a 17 c) ks.length b->ks.length=17->(∀i,i<ks.length->bg d w S ((b.drop (3*i)).take 3) (ks.getD i (ak [])))->dep+d+1<=4096->
 yC 153 #[lV a 17 c,iV .i64 (dep:Int)] w (iL w (iI (a6 d) ks dep))
def Ju(w:World)(c:Nat)(dep:Nat)(g o:Nat)(l0:Bool)(l1 b)(e d:Nat)(c0:yc w g (o+48) (bV l0))(c1:yc w g (o+48+1) (sV l1))(c2:yc w g (o+48+2) (lV b e d))(a:l0=true\/160<l1.size):yC 153 #[lV (some ⟨g,o,none⟩) 17 c,i6 (dep:Int)] w (iL w none):=by
 cases l0 with
 |true=>
  go_enter func153,ntmps153
  go_wp2;go_ret;exact⟨rfl,(Un _ _).alloc (Ug _) _⟩
 |false=>
  have h160:(160:Int)<(l1.size:Int):=by have:=a.elim (λh=>by cases h) id;omega
  clear a;go_enter func153,ntmps153
  go_wp2;go_ret;exact⟨rfl,(Un _ _).alloc (Ug _) _⟩
def Tl(d:Nat)(B6:Cd d):Ke d:=by
 intro w S a c ks xs dep hr hn hk A5;obtain⟨g,o,l0,l1,l2,ha,c0,c1,c2,O⟩:=tI (d:=d) (n:=17) hr hn.symm hk 16 (by omega);subst ha;obtain⟨l0,l1,rfl,rfl⟩:=uu O;obtain⟨la,ln,lc,rfl⟩:=rU O;have B0:yH (∀i,i<17->∃v0 v1 C E D,yc w g (o+i*3) (bV v0)/\yc w g (o+i*3+1) (sV v1)/\yc w g (o+i*3+2) (lV C E D)/\bg d w S [bV v0,sV v1,lV C E D] (ks.getD i (ak []))):=λi hi=>by
  obtain⟨g',o',v0,v1,v2,B2,e0,e1,e2,A⟩:=tI (d:=d) (n:=17) hr hn.symm hk i hi;cases B2;obtain⟨b0,t1,rfl,rfl⟩:=uu A;obtain⟨C,E,D,rfl⟩:=rU A;exact⟨b0,t1,C,E,D,e0,e1,e2,A⟩
 have A0:g<w.heap.size:=UE w _ c0;clear hr hk;rcases lp O with⟨t,h1,h2,M,_⟩|⟨e,t,C1,C2,_,h1,h2,M,_⟩
 .cases h1;cases h2;have s:iI (a6 d) ks dep=if 160<l1.data.toList.length then none else if kD (a6 d) ks dep 16=true/\2<=iH (a6 d) ks dep l1.data.toList 16 then some (.branch [] l1.data.toList (λi=>(gW (a6 d) ks dep i).getD .nil)) else none:=by
   unfold iI;rw[M];rfl
  have A2:l1.data.toList.length=l1.size:=by simp
  by_cases h160:160<l1.size
  .rw[s,Uj (by rw[A2];exact h160)];exact Ju w c dep g o false l1 la ln lc c0 c1 c2 (.inr h160)
  rw[Ui (by rw[A2];exact h160)] at s;obtain⟨R,Z⟩:=yX (iI (a6 d) ks dep);rw[<-Z];rw[<-Z] at s;have HB:=aa s;have B7:¬(160:Int)<(l1.size:Int):=by omega
  clear Z s M O A2 h160;obtain⟨F,L⟩:=yX (iH (a6 d) ks dep l1.data.toList 0);have A8:=aa L;have A9:=aa A5;have B8:(dep:Int)<5000:=by omega
  have hC:(l1.toList.isEmpty=true/\F=0)\/(l1.toList.isEmpty=false/\F=1):=by
   by_cases hz:l1.size=0
   .refine .inl ⟨by rw[g7];exact hz,?_⟩;rw[L];simp only[iH];rw[Uj (UH.1 (by rw[Array.length_toList];exact hz))]
   refine .inr ⟨by rw[iv];omega,?_⟩;rw[L];simp only[iH];rw[Ui (λh=>hz (by have:=congrArg List.length h;rw[Array.length_toList] at this;exact this))]
  clear L A5;rcases hC with⟨B3,rfl⟩|⟨B3,rfl⟩;all_goals
   go_enter func153,ntmps153
   go_wp2;go_loopg [7,8] 16 (λgk s7 s8 wr=>∃(i:Nat)(U:Nat->Option Addr)(G:Nat->Nat->Prop),gk=16 - i/\i<=16/\s7=i6 ((iH (a6 d) ks dep l1.data.toList i:Nat):Int)/\s8=i6 (i:Int)/\yH (kD (a6 d) ks dep i=true)/\
    yH (jZ wr (w.heap.size+1) l1 U)/\yH (Kids wr (qp (gW (a6 d) ks dep) i) (λx=>w.heap.size+2<=x) U G)/\yH (yW w wr))
   .refine⟨0,λ_=>none,λ_ _=>False,rfl,by omega,by rw[<-A8.o];rfl,rfl,rfl,?_,?_,?_⟩
    .show jZ _ _ _ _;unfold jZ;rw[show w.heap.size+1=(w.alloc (.cells #[bV false,sV l1,lV la ln lc] 155)).heap.size from by simp,UG];rfl
    .exact Kids.none _ _
    exact((Un _ _).alloc (Ug _) _).alloc (by simp) _
   obtain⟨i,U,G,hg,hi,rfl,rfl,I,r,k,f⟩:=hrel;have HG:=aa hg;clear hg;by_cases h16:i<16
   .obtain⟨v0,v1,C,E,D,e0,e1,e2,A⟩:=B0.o i (by omega);have d0:=(f.o.cell (p:=⟨g,o+i*3,none⟩) A0).trans e0;have d1:=(f.o.cell (p:=⟨g,o+i*3+1,none⟩) A0).trans e1;have d2:=(f.o.cell (p:=⟨g,o+i*3+2,none⟩) A0).trans e2;have X:yH (∀W,yW w W->yC 160 #[gV #[bV v0,sV v1,lV C E D],i6 ((dep:Int)+1),bV false] W (sP W (gW (a6 d) ks dep i))):=λW hW=>by
     have:=B6 W S _ _ _ _ (dep+1) false (A.below hW) (by have:=A9.o;omega);rw[show((dep+1:Nat):Int)=(dep:Int)+1 from by omega] at this;exact this
    have hI:(i:Int)<16:=by omega
    have H:=Ar (a6 d) ks dep l1.data.toList i;obtain⟨b,v⟩:=yX (iH (a6 d) ks dep l1.data.toList i);have A3:=aa v;rw[<-v] at H⊢;have A4:(b:Int)<=18:=by omega
    have B4:=r.o.lt;clear v A e0 e1 e2;obtain⟨Q,A1⟩:=yX (gW (a6 d) ks dep i);have z:=aa A1;rw[<-A1] at X;clear A1;cases Q with
    |none=>
     go_wp2_with fail
     refine(X.o _ f.o).mono ?_;rintro e w1⟨rfl,m⟩;have T:=aa (f.o.trans (m.mono f.o.size));clear m;go_wp2;go_ret;rw[HB.o,Ui (λh=>by rw[GA _ _ _ i z.o.symm 16 h16] at h;cases h.1)];exact⟨rfl,T.o⟩
    |some n=>
     go_wp2_with fail
     refine(X.o _ f.o).mono ?_;rintro e w1⟨u,rfl,K,m⟩;have J:yH (jZ w1 (w.heap.size+1) l1 U):=(m.block _ B4).trans r.o;have m0:=J.o.cell i h16;have m1:=J.o.free (5+i);have B9:=J.o.lt;have B1:yH (Kids w1 (qp (gW (a6 d) ks dep) i) (λx=>w.heap.size+2<=x) U (λj x=>G j x/\x<wr.heap.size)):=k.o.cut.kept λx _ B=>m.block x B
     have A6:=aa K;have T:=aa (f.o.trans (m.mono f.o.size));have l:yH (jZ (w1.setCell ⟨w.heap.size+1,5+i,none⟩ (pV u)) (w.heap.size+1) l1 (gx U i u)/\Kids (w1.setCell ⟨w.heap.size+1,5+i,none⟩ (pV u)) (qp (gW (a6 d) ks dep) (i+1)) (λx=>w.heap.size+2<=x) (gx U i u) (fQ (λj x=>G j x/\x<wr.heap.size) i (λx=>wr.heap.size<=x))/\yW w (w1.setCell ⟨w.heap.size+1,5+i,none⟩ (pV u))/\kD (a6 d) ks dep (i+1)=true):=by
      refine⟨J.o.set i u h16,?_,T.o.setCell (by simp) _,?_⟩
      .rw[Qw _ i n z.o.symm];refine B1.o.put (λx B _=>Uy _ _ _ _ (by show x≠w.heap.size+1;have:w.heap.size+2<=x:=B;omega)) i n u _ (A6.o.kept λx B _=>Uy _ _ _ _ (by show x≠w.heap.size+1;omega)) λy hy=>⟨by omega,λj _ _ h=>by omega⟩
      show(kD (a6 d) ks dep i && (gW (a6 d) ks dep i).isSome)=true;rw[I.o,<-z.o];rfl
     have P:=K.none;cases u with
     |none=>
      have V:yH (b=iH (a6 d) ks dep l1.data.toList (i+1)):=by
       show _=_;rw[P.1 rfl] at z;simp only[iH];rw[<-z.o,<-A3.o];rfl
      clear P K m k r I d0 d1 d2;go_wp2;go_roundg (16 - (i+1))
      .exact⟨i+1,_,_,rfl,by omega,by rw[<-V.o],by go_num,l.o.2.2.2,l.o.1,l.o.2.1,l.o.2.2.1⟩
      have:=HG.o;omega
     |some ub=>
      have V:yH (b+1=iH (a6 d) ks dep l1.data.toList (i+1)):=by
       show _=_;simp only[iH];rw[<-z.o,<-A3.o];have B5:n≠.nil:=λh=>by cases P.2 h
       have:n.isNil=false:=by cases n<;>first|rfl|exact absurd rfl B5
       rw[Option.getD_some,this];rfl
      clear P K m k r I d0 d1 d2;go_wp2;go_roundg (16 - (i+1))
      .exact⟨i+1,_,_,rfl,by omega,by rw[<-V.o];go_num,by go_num,l.o.2.2.2,l.o.1,l.o.2.1,l.o.2.2.1⟩
      have:=HG.o;omega
   obtain rfl:i=16:=by omega
   have hI:¬((16:Nat):Int)<16:=by omega
   have A7:yH (At wr (.branch [] l1.data.toList (λi=>(gW (a6 d) ks dep i).getD .nil)) (λx=>w.heap.size<=x) (pV (some ⟨w.heap.size+1,0,none⟩))):=by
    refine⟨w.heap.size+1,λj=>pV (U j),G,rfl,by omega,?_,λj x N B=>?_,k.o.jf,λj N=>?_⟩
    .have:=r.o;unfold jZ at this;show _=_;rw[this];show _=some (Obj.cells (fG 3 (ae []) (ae []) (ae l1.data.toList) cN λj=>pV (U j)) 167 (0,0));rw[gA];rfl
    .have:=k.o.sub j x N B;exact⟨by omega,by omega⟩
    have:=k.o.at_ j N;unfold qp at this;rw[Uj N] at this;exact this
   obtain⟨b,v⟩:=yX (iH (a6 d) ks dep l1.data.toList 16);have q:=HB.o;rw[<-v] at q⊢;have H:=Ar (a6 d) ks dep l1.data.toList 16;rw[<-v] at H;clear v;by_cases h2:2<=b
   .rw[Uj ⟨I.o,h2⟩] at q;have Y:=aa q;have A4:¬(b:Int)<2:=by omega
    clear q H h2 k r;go_wp2;go_ret;rw[Y.o];exact⟨_,rfl,A7.o,f.o⟩
   rw[Ui (λh=>h2 h.2)] at q;have Y:=aa q;have A4:(b:Int)<2:=by omega
   clear q H h2 k r;go_wp2;go_ret;rw[Y.o];exact⟨rfl,f.o⟩
 cases h1;cases h2;have s:iI (a6 d) ks dep=none:=by unfold iI;rw[M];rfl
 rw[s];exact Ju w c dep g o true l1 la ln lc c0 c1 c2 (.inl rfl)
def Ft(w:World)(t:yB)(a:Option Addr)(c b:Nat)(dep:Nat)(bl:Bool):yC 139 #[gV #[bV false,sV t,lV a c b],i6 (dep:Int),bV bl] w (iL w none):=by
 go_enter func139,ntmps139
 go_wp2;go_ret;exact⟨rfl,(Un _ _).alloc (Ug _) _⟩
def Po(w:World)(t:yB)(c:Option Addr)(n d:Nat)(dep:Nat)(bl:Bool)(h:n≠17)(h2:¬(n=2/\bl=false))(a:n<140737488355329):yC 139 #[gV #[bV true,sV t,lV c n d],i6 (dep:Int),bV bl] w (iL w none):=by
 have h17:((n:Int) == 17)=false:=by simp;omega
 have f:(n:Int)<140737488355329:=by omega
 by_cases h3:n=2
 .subst h3;have b:bl=true:=by cases bl with|true=>rfl|false=>exact absurd ⟨rfl,rfl⟩ h2
  subst b;clear h2 h a;go_enter func139,ntmps139
  go_wp2;go_ret;exact⟨rfl,(Un _ _).alloc (Ug _) _⟩
 have e:((n:Int) == 2)=false:=by simp;omega
 clear h2 h a h3;go_enter func139,ntmps139
 go_wp2;go_ret;exact⟨rfl,(Un _ _).alloc (Ug _) _⟩
def u7(w:World)(r:Option Nd)(u:Option Addr)(w':World):Prop:=match r with
 |none=>u=none/\yW w w'
 |some n=>∃b,u=some ⟨b,0,none⟩/\At w' n (λx=>w.heap.size<=x) (pV (qA b))/\yW w w'
def zL{w W w1:World}{r e}(a:yW w W)(h:iL W r e w1):∃u,e=rV (pV u)/\yH (u7 w r u w1):=by
 cases r with
 |none=>exact⟨none,h.1,rfl,a.trans (h.2.mono a.size)⟩
 |some n=>let⟨b,h1,h2,h3⟩:=h;exact⟨_,h1,b,rfl,h2.mono λx c=>Ut a.size c,a.trans (h3.mono a.size)⟩
def Fu{w w1 r u}(h:u7 w r u w1):iL w r (rV (pV u)) w1:=by
 cases r with
 |none=>exact⟨by rw[h.1],h.2⟩
 |some n=>obtain⟨b,rfl,h2⟩:=h;exact⟨b,rfl,h2⟩
def Pn(d:Nat)(E:JV d)(w S)(t:yB)(a)(c:Nat)(ks:List Tree)(A:List Value)(dep:Nat)(p:ik w S (lV a 2 c) ks.length A)(m:ks.length=2)(l:∀i,i<ks.length->bg d w S ((A.drop (3*i)).take 3) (ks.getD i (ak [])))(q:dep+d<=4096):yC 139 #[gV #[bV true,sV t,lV a 2 c],i6 (dep:Int),bV false] w (iL w (jy (a6 d) (ks.getD 0 (ak [])) (ks.getD 1 (ak [])) dep)):=by
 obtain⟨g,o,p0,p1,p2,k,c0,c1,c2,f⟩:=tI (d:=d) (n:=2) p m.symm l 0 (by omega);subst k;obtain⟨F,H,q0,q1,q2,k,e0,e1,e2,j⟩:=tI (d:=d) (n:=2) p m.symm l 1 (by omega);cases k;obtain⟨p0,p1,rfl,rfl⟩:=uu f;obtain⟨r,v,s,rfl⟩:=rU f;obtain⟨q0,q1,rfl,rfl⟩:=uu j;obtain⟨x,z,y,rfl⟩:=rU j;have C:yH (∀W,yW w W->yC 152 #[gV #[bV p0,sV p1,lV r v s],gV #[bV q0,sV q1,lV x z y],i6 (dep:Int)] W (iL W (jy (a6 d) (ks.getD 0 (ak [])) (ks.getD 1 (ak [])) dep))):=λW b=>E W S _ _ _ _ _ _ _ _ dep (f.below b) (j.below b) q
 have G:g<w.heap.size:=UE w _ c0;rw[Nat.zero_mul,Nat.add_zero] at c0 c1 c2;rw[Nat.one_mul] at e0 e1 e2;clear p l f j q m;generalize jy (a6 d) (ks.getD 0 (ak [])) (ks.getD 1 (ak [])) dep=R at*;go_enter func139,ntmps139
 go_wp2_with fail
 have D:yH (∀W,yW w W->yC 152 #[gV #[bV p0,sV p1,lV r v s],gV #[bV q0,sV q1,lV x z y],i6 (dep:Int)] W λe w1=>∃u,e=rV (pV u)/\yH (u7 w R u w1)):=λW b=>(C.o W b).mono λe w1 h=>zL b h
 go_region_with (go_at_call 152;refine(D.o _ (by first|exact(Un _ _).alloc (Ug _) _ |exact((Un _ _).alloc (Ug _) _).drew)).mono ?_;rintro e1 w1⟨u,rfl,B⟩)
 all_goals
  go_wp2;go_ret;exact Fu B.o
def Pq(d:Nat)(p:Ke d)(w S)(t:yB)(a)(c:Nat)(ks:List Tree)(f:List Value)(dep:Nat)(bl:Bool)(k:ik w S (lV a 17 c) ks.length f)(o:ks.length=17)(j:∀i,i<ks.length->bg d w S ((f.drop (3*i)).take 3) (ks.getD i (ak [])))(g:dep+d+1<=4096):yC 139 #[gV #[bV true,sV t,lV a 17 c],i6 (dep:Int),bV bl] w (iL w (iI (a6 d) ks dep)):=by
 have m:yH (∀W,yW w W->yC 153 #[lV a 17 c,i6 (dep:Int)] W (iL W (iI (a6 d) ks dep))):=λW b=>p W S a c ks f dep (k.below b) o (λi hi=>(j i hi).below b) g
 clear k j g;generalize iI (a6 d) ks dep=R at*;have n:yH (∀W,yW w W->yC 153 #[lV a 17 c,i6 (dep:Int)] W λe w1=>∃u,e=rV (pV u)/\yH (u7 w R u w1)):=λW b=>(m.o W b).mono λe w1 h=>zL b h
 go_enter func139,ntmps139
 go_wp2_with fail
 refine(n.o _ ((Un _ _).alloc (Ug _) _)).mono ?_;rintro e w1⟨u,rfl,l⟩;go_wp2;go_ret;exact Fu l.o
def Pp:∀d,d<=7->BW d:=by
 intro d;induction d with
 |zero=>
  intro _ w S v0 v1 v2 x dep bl i p;obtain⟨b,j,f,rfl⟩:=rU i;rcases lp i with⟨t,rfl,rfl,rfl,r⟩|⟨e,t,ks,k,q,_⟩
  .exact Ft w t b j f dep bl
  omega
 |succ d ih=>
  intro u w S v0 v1 v2 x dep bl i p;have s:=ih (by omega);have m:=QH d (by omega) s;obtain⟨b,j,f,rfl⟩:=rU i;rcases lp i with⟨t,rfl,rfl,rfl,r⟩|⟨e,t,ks,k,q,rfl,rfl,rfl,g,o,l⟩
  .exact Ft w t b j f dep bl
  obtain rfl:e=d:=by omega
  let⟨a,c,h⟩:=g.slice;cases h;have n:a6 (e+1) (bJ ks) dep bl=if ks.length=2/\bl=false then jy (a6 e) (ks.getD 0 (ak [])) (ks.getD 1 (ak [])) dep else if ks.length=17 then iI (a6 e) ks dep else none:=rfl;rw[n];by_cases h2:ks.length=2/\bl=false
  .obtain⟨h2,rfl⟩:=h2;rw[Uj ⟨h2,rfl⟩];have:=Pn e (Om e m (by omega)) w S t b f ks k dep (by rw[h2] at g⊢;exact g) h2 l (by omega);rwa[<-h2] at this
  rw[Ui h2];by_cases h17:ks.length=17
  .rw[Uj h17];have:=Pq e (Tl e m) w S t b f ks k dep bl (by rw[h17] at g⊢;exact g) h17 l (by omega);rwa[<-h17] at this
  rw[Ui h17];exact Po w t b ks.length f dep bl h17 h2 o
end Go.Proofs.YteaodagofkcgbaaGreatDoor
