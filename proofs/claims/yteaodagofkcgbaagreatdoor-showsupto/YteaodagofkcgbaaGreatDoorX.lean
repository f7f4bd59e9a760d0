import Derived.Test.YteaodagofkcgbaaGreatDoorU
import Derived.Test.YteaodagofkcgbaaGreatDoorW
open Go.Proofs.Tryz
open Go.Proofs.Tryz renaming prog→yP
open Go.Value renaming string→sV,pointer→pV,int→iV,slice→lV,bool→bV,tuple→tV,agg→gV
open Go.Ending renaming returned→rV
namespace Go.Proofs.YteaodagofkcgbaaGreatDoor
open Go.RowKit
set_option maxRecDepth 100000
set_option maxHeartbeats 0
set_option linter.all false
def bF(t:yB):Bool:=if h:0<t.size then decide (t.size<=32) && decide ((t[0]'h).toNat≠0) else true
def mH{t}(h:bF t=true):t.size<=32:=by
 unfold bF at h;by_cases h0:0<t.size
 .rw[dif_pos h0,Vr] at h;exact of_decide_eq_true h.1
 omega
structure Acc where
 n:Nat
 aI:yB
 root:yB
 code:yB
def cE(a:Acc):Value:=gV #[iV .i64 a.n,sV a.aI,sV a.root,sV a.code]
def gC:Acc:=⟨0,⟨#[]⟩,ae bM,cZ⟩
def mT:Acc:=⟨0,⟨#[]⟩,⟨#[]⟩,⟨#[]⟩⟩
structure iZ(a:Acc):Prop where
 n:a.n<9223372036854775808
 aI:a.aI.size<=32
 root:a.root.size<=32
 code:a.code.size<=32
structure Fit(a:Acc):Prop where
 n:a.n<9223372036854775808
 aI:bF a.aI=true
 root:a.root.size=32
 code:a.code.size=32
 some:a≠gC
def Fit.ok{a}(h:Fit a):iZ a:=⟨h.n,mH h.aI,Nat.le_of_eq h.root,Nat.le_of_eq h.code⟩
def fg(v:yB):yB:=ft (ak v.data.toList)
def pI(a:Acc):Tree:=bJ [ak (bS 8 a.n),ak a.aI.data.toList,ak a.root.data.toList,ak a.code.data.toList]
def ir(a:Acc):yB:=ft (pI a)
def tp{t:yL}(h:t.length<=32):0<(cL t).length/\(cL t).length<=33:=by
 unfold cL;split
 .next hb=>
  unfold fN at hb;rw[Vr] at hb;have:=of_decide_eq_true hb.1;omega
 unfold cV;rw[Uj (by omega),Uq];simp;omega
def IP{x}(h:bN 6 x=true)(a:(bu 6 x).length<=4096):ft x=ae (bu 6 x)/\dC (ft x).data.toList=.ok x:=by
 have e:ft x=ae (bu 6 x):=by
  unfold ft;rw[Uj h];exact rG _ (by unfold fH;exact Uw a)
 exact⟨e,by rw[e,nC];exact IX x h a⟩
def qG{u:yB}(h:u.size<=32):0<(fg u).size/\(fg u).size<=160/\dC (fg u).data.toList=.ok (ak u.data.toList):=by
 have a:=tp (t:=u.data.toList) (by simpa using h);let⟨e1,e2⟩:=IP (x:=ak u.data.toList) rfl (by rw[ij];omega);unfold fg;refine⟨?_,?_,e2⟩<;>rw[e1,aN,ij]<;>omega
def tJ{a}(h:iZ a):0<(ir a).size/\(ir a).size<=160/\dC (ir a).data.toList=.ok (pI a):=by
 have b:=h.aI;have d:=h.root;have c:=h.code;have h0:=tp (t:=bS 8 a.n) (by have:=qE 8 a.n;omega);have h1:=tp (t:=a.aI.data.toList) (by simpa using b);have h2:=tp (t:=a.root.data.toList) (by simpa using d);have h3:=tp (t:=a.code.data.toList) (by simpa using c);have e:0<(bu 6 (pI a)).length/\(bu 6 (pI a)).length<=160:=by
  unfold pI;rw[kI];simp only[List.map_cons,List.map_nil,ij,List.flatten_cons,List.flatten_nil,UU];unfold gZ cV;have:=λn=>qE 8 n
  split
  .simp only[Uq,UJ,List.length_nil];omega
  have:=this (cL (bS 8 a.n)++(cL a.aI.data.toList++(cL a.root.data.toList++cL a.code.data.toList))).length;simp only[Uq,UJ] at this⊢;omega
 let⟨e1,e2⟩:=IP (x:=pI a) (by unfold pI bJ ak;simp[bN]) (by omega);unfold ir;refine⟨?_,?_,e2⟩<;>rw[e1,aN]<;>omega
def tW(t:yB)(g:t.size<=maxLen)(w):yC 104 #[sV t] w λe w'=>e=rV (bV (bF t))/\w'=w:=by
 unfold maxLen at g;by_cases h0:0<t.size
 .have f:t.toList.isEmpty=false:=by rw[iv];omega
  have c:bF t=(decide (t.size<=32) && decide ((t[0]'h0).toNat≠0)):=by unfold bF;rw[dif_pos h0]
  have a:=aa c;have i:(0:Int)<(t.size:Int):=by omega
  clear c;generalize bF t=R at*;by_cases h32:t.size<=32
  .have d:(t.size:Int)<=32:=by omega
   by_cases b:(t[0]'h0).toNat=0
   .have h:(((t[0]'h0).toNat:Int) != 0)=false:=by rw[b];rfl
    go_enter func104,ntmps104
    go_wp2;go_ret;exact⟨by rw[a.o,Uw h32,Uv (by simp[b])];rfl,rfl⟩
   have h:(((t[0]'h0).toNat:Int) != 0)=true:=by simp;omega
   go_enter func104,ntmps104
   go_wp2;go_ret;exact⟨by rw[a.o,Uw h32,Uw b];rfl,rfl⟩
  have d:¬(t.size:Int)<=32:=by omega
  go_enter func104,ntmps104
  go_wp2;go_ret;exact⟨by rw[a.o,Uv h32];rfl,rfl⟩
 have f:t.toList.isEmpty=true:=by rw[g7];omega
 have a:yH (bF t=true):=by show _=_;unfold bF;rw[dif_neg h0]
 generalize bF t=R at*;go_enter func104,ntmps104
 go_wp2;go_ret;exact⟨by rw[a.o];rfl,rfl⟩
def gf(W:World)(n:Nat)(t:TypeId)(x0 x1 x2 x3:Value):Prop:=W.heap[n]? =some (.cells #[x0,x1,x2,x3] t (0,0))
def gf.new(w:World)(t x0 x1 x2 x3):gf (w.alloc (.cells #[x0,x1,x2,x3] t)) w.heap.size t x0 x1 x2 x3:=UG w _
def gf.below{w W n m t x0 x1 x2 x3}(h:gf w n t x0 x1 x2 x3)(a:Below m w W)(b:n<m):gf W n t x0 x1 x2 x3:=(a.block n b).trans h
def gf.cells{W n t x0 x1 x2 x3}(h:gf W n t x0 x1 x2 x3):(W.cell? ⟨n,0,none⟩=some x0/\W.cell? ⟨n,1,none⟩=some x1/\W.cell? ⟨n,2,none⟩=some x2/\W.cell? ⟨n,3,none⟩=some x3)/\W.frozen? ⟨n,0,none⟩=false/\W.frozen? ⟨n,1,none⟩=false/\W.frozen? ⟨n,2,none⟩=false/\W.frozen? ⟨n,3,none⟩=false:=by
 refine⟨⟨?_,?_,?_,?_⟩,US W n 0 _ _ h,US W n 1 _ _ h,US W n 2 _ _ h,US W n 3 _ _ h⟩
 .rw[Ur W n 0 _ _ _ h];rfl
 .rw[Ur W n 1 _ _ _ h];rfl
 .rw[Ur W n 2 _ _ _ h];rfl
 rw[Ur W n 3 _ _ _ h];rfl
def gf.lt{W n t x0 x1 x2 x3}(h:gf W n t x0 x1 x2 x3):n<W.heap.size:=(Um.1 h).1
def jW{b n w w1}(h:Below b w w1)(a:b<=n)(x0 x1 x2 x3):Below b w ((((w1.setCell ⟨n,0,none⟩ x0).setCell ⟨n,1,none⟩ x1).setCell ⟨n,2,none⟩ x2).setCell ⟨n,3,none⟩ x3):=
 (((h.setCell a _).setCell a _).setCell a _).setCell a _
def vK(w)(T:aB w):yC 123 #[] w λe w'=>e=rV (cE gC)/\yW w w':=by
 have i:yH (∀W,yW w W->yC 73 #[] W λe w'=>e=rV (sV (ae bM))/\yW W w'):=λW b=>Bh W (T.below b)
 have k:yH (∀W,yW w W->yC 23 #[sV ⟨#[]⟩] W λe w'=>e=rV (sV cZ)/\yW W w'):=λW b=>ja ⟨#[]⟩ (by decide) W (T.below b)
 have j:yH (cE gC=gV #[i6 0,sV ⟨#[]⟩,sV (ae bM),sV cZ]):=rfl;clear T;generalize cE gC=R at*;generalize ae bM=ER at*;generalize cZ=NC at*;have f:yH (yW w (w.alloc (.cells #[i6 0,sV ⟨#[]⟩,sV ⟨#[]⟩,sV ⟨#[]⟩] 103))):=(Un _ _).alloc (Ug _) _;have l:yH (gf (w.alloc (.cells #[i6 0,sV ⟨#[]⟩,sV ⟨#[]⟩,sV ⟨#[]⟩] 103)) w.heap.size 103 (i6 0) (sV ⟨#[]⟩) (sV ⟨#[]⟩) (sV ⟨#[]⟩)):=gf.new _ _ _ _ _ _;go_enter func123,ntmps123
 go_wp2_with fail
 refine(i.o _ f.o).mono ?_;rintro e w1⟨rfl,c⟩;have g:=aa (l.o.below c (by simp));have a:=aa (f.o.trans (c.mono (by simp)));clear c;go_wp2_with fail
 refine(k.o _ a.o).mono ?_;rintro e w2⟨rfl,d⟩;have h:=aa (a.o.trans (d.mono a.o.size));obtain⟨⟨k0,k1,k2,k3⟩,f0,f1,f2,f3⟩:=(g.o.below d g.o.lt).cells;clear d;go_wp2;exact UB (v:=gV #[i6 0,sV ⟨#[]⟩,sV ER,sV NC]) (by simp[results,results123,go_sem,k0,k1,k2,k3]) rfl ⟨by rw[j.o],jW h.o (Ug _) _ _ _ _⟩
def Pu(w a)(n cap:Nat)(c:n<=maxLen):yC 98 #[lV a n cap] w λe w'=>e=rV (tV #[sV ⟨#[]⟩,i6 (if 0<n then 12 else 0)])/\w'=w:=by
 unfold maxLen at c;by_cases h:0<n
 .rw[Uj h];have b:(0:Int)<(n:Int):=by omega
  go_enter func98,ntmps98
  go_wp2;go_ret2;exact⟨rfl,rfl⟩
 rw[Ui h];have b:¬(0:Int)<(n:Int):=by omega
 go_enter func98,ntmps98
 go_wp2;go_ret2;exact⟨rfl,rfl⟩
def Mg(w)(v:yB)(d:v.size<140737488355329):yC 107 #[sV v] w λe w'=>e=rV (sV (fg v))/\yW w w':=by
 have c:yH (yC 128 #[gV #[bV false,sV v,lV none 0 0]] w λe w'=>e=rV (tV #[sV (fg v),i6 (ff (ak v.data.toList))])/\yW w w'):=uH w (λ_=>False) _ _ _ _ (nw 6 w _ v _ d);generalize fg v=R at*;generalize ff (ak v.data.toList)=E at*;go_enter func107,ntmps107
 go_wp2_with fail
 apply c.m;rintro e w1⟨rfl,a⟩;have b:=aa a;clear a;go_wp2;go_ret;exact⟨rfl,b.o⟩
def Jc(w)(v:yB)(d:v.size<140737488355329):yC 100 #[sV v] w λe w'=>e=rV (sV (fg v))/\yW w w':=by
 have c:yH (yC 128 #[gV #[bV false,sV v,lV none 0 0]] w λe w'=>e=rV (tV #[sV (fg v),i6 (ff (ak v.data.toList))])/\yW w w'):=uH w (λ_=>False) _ _ _ _ (nw 6 w _ v _ d);generalize fg v=R at*;generalize ff (ak v.data.toList)=E at*;go_enter func100,ntmps100
 go_wp2_with fail
 apply c.m;rintro e w1⟨rfl,a⟩;have b:=aa a;clear a;go_wp2;go_ret;exact⟨rfl,b.o⟩
def iU(s v:yB)(c:Nat):Prop:=(s.size=0->v=⟨#[]⟩/\c=0)/\∀u,s=fg u->bF u=true->u.size≠0->v=u/\c=0
def DI(w:World)(s:yB)(hs:s.size<=maxLen):yC 96 #[sV s] w λe w'=>(∃(v:yB)(c:Nat),e=rV (tV #[sV v,i6 c])/\v.size<=maxLen/\(c=0->bF v=true)/\iU s v c)/\yW w w':=by
 by_cases h0:s.size=0
 .have G:s.toList.isEmpty=true:=by rw[g7];exact h0
  have F:yH (iU s ⟨#[]⟩ 0):=⟨λ_=>⟨rfl,rfl⟩,λu e h1 _=>by have:=(qG (mH h1)).1;rw[<-e] at this;omega⟩
  go_enter func96,ntmps96
  go_wp2;go_ret2;exact⟨⟨⟨#[]⟩,0,rfl,by decide,λ_=>rfl,F.o⟩,Un _ _⟩
 have G:s.toList.isEmpty=false:=by rw[iv];exact h0
 have B:=aa (xE w s hs);have C:yH (∀t W,t.size<=maxLen->yC 104 #[sV t] W λe w'=>e=rV (bV (bF t))/\w'=W):=λt W q=>tW t q W
 have i:yH (∀v c,(∀u,bF u=true->u.size≠0->dC s.data.toList=.ok (ak u.data.toList)->v=u/\c=0)->iU s v c):=λv c J=>⟨λh=>absurd h h0,λu e h1 h2=>J u h1 h2 (by rw[e];exact(qG (mH h1)).2.2)⟩
 clear h0;go_enter func96,ntmps96
 go_wp2_with fail
 apply B.m;rintro e w1⟨k,j⟩;have M:=aa j;have d:yH (∀o,yW w (w1.alloc o)):=λo=>j.alloc j.size o
 clear j;cases hr:dC s.data.toList with
 |error c=>
  rw[hr] at k;obtain⟨rfl,I⟩:=k;have Q:((c:Int) != 0)=true:=by simp;omega
  have b:yH (iU s ⟨#[]⟩ 13):=i.o _ _ λu _ _ h=>by rw[hr] at h;cases h
  clear I hr;go_wp2;go_ret2;exact⟨⟨⟨#[]⟩,13,rfl,by decide,(λh=>by cases h),b.o⟩,d.o _⟩
 |ok x=>
  rw[hr] at k;obtain⟨l,t,a,m,O,rfl,hi⟩:=k;rcases lp hi with⟨K,h1,h2,n,q⟩|⟨P,K,ks,R,_,h1,h2,n,_⟩
  .cases h1;cases h2;subst n;have y:=C.o t;have z:yH (∀u:yB,(Except.ok (ak t.data.toList):Except Nat Tree)=.ok (ak u.data.toList)->t=u):=λu h=>by
    have h2:t.data.toList=u.data.toList:=by injection h with h;injection h with h;injection h
    rw[<-gA t,<-gA u,h2]
   by_cases f:t.size=0
   .have H:t.toList.isEmpty=true:=by rw[g7];exact f
    have b:yH (iU s ⟨#[]⟩ 13):=i.o _ _ λu _ h2 h=>by rw[hr] at h;exact absurd (z.o u h▸f) h2
    clear hi f hr;go_wp2;go_ret2;exact⟨⟨⟨#[]⟩,13,rfl,by decide,(λh=>by cases h),b.o⟩,d.o _⟩
   have H:t.toList.isEmpty=false:=by rw[iv];exact f
   have p:t.size<=maxLen:=by unfold maxLen;omega
   have g:yH (∀W,yC 104 #[sV t] W λe w'=>e=rV (bV (bF t))/\w'=W):=λW=>y W p
   have E:=aa p;have N:yH (bF t=bF t):=rfl;have A:yH (∀v c,(∀u,bF u=true->t=u->v=u/\c=0)->iU s v c):=λv c h=>i.o v c λu h1 _ h3=>h u h1 (z.o u (by rw[hr] at h3;exact h3))
   clear hi f q y p hr;cases hnb:bF t with
   |false=>
    rw[hnb] at g;have b:yH (iU s ⟨#[]⟩ 13):=A.o _ _ λu h1 h2=>by rw[<-h2,hnb] at h1;cases h1
    clear hnb;go_wp2_with fail
    refine(g.o _).mono ?_;rintro e L⟨rfl,r⟩;subst r;go_wp2;go_ret2;exact⟨⟨⟨#[]⟩,13,rfl,by decide,(λh=>by cases h),b.o⟩,d.o _⟩
   |true=>
    rw[hnb] at g;have D:=aa hnb;have b:yH (iU s t 0):=A.o _ _ λu _ h2=>⟨h2,rfl⟩
    clear hnb;go_wp2_with fail
    refine(g.o _).mono ?_;rintro e L⟨rfl,r⟩;subst r;go_wp2;go_ret2;exact⟨⟨t,0,rfl,E.o,λ_=>D.o,b.o⟩,d.o _⟩
  cases h1;have b:yH (iU s ⟨#[]⟩ 13):=i.o _ _ λu _ _ h=>by rw[hr,n] at h;cases h
  clear hi hr n;go_wp2;go_ret2;exact⟨⟨⟨#[]⟩,13,rfl,by decide,(λh=>by cases h),b.o⟩,d.o _⟩
def bX(l:yL):Nat:=l.foldl (λn b=>n*256+b.toNat) 0
def wI:∀(l:yL) (a:Nat),l.foldl (λn b=>n*256+b.toNat) a=a*256 ^ l.length+bX l
 | [],a=>by simp[bX]
 |b::r,a=>by
  unfold bX
  simp only[List.foldl_cons,UJ]
  rw[wI r,wI r (0*256+b.toNat),Nat.pow_succ,Nat.add_mul,Nat.add_mul]
  simp only[Nat.zero_mul,Vj]
  rw[Nat.mul_assoc,Nat.mul_comm 256]
  omega
def zJ(b:UInt8)(r):bX (b::r)=b.toNat*256 ^ r.length+bX r:=by
 have:=wI r b.toNat;unfold bX at*;simp only[List.foldl_cons,Nat.zero_mul,Vj];exact this
def zI:∀(l),bX l<256 ^ l.length
 | []=>by decide
 |b::r=>by
  rw[zJ,UJ,Nat.pow_succ]
  have h1:=zI r
  have h2:=b.toNat_lt
  have h3:b.toNat*256 ^ r.length<=255*256 ^ r.length:=Nat.mul_le_mul_right _ (by omega)
  omega
def zH(l)(b:UInt8):bX (l++[b])=bX l*256+b.toNat:=by unfold bX;simp
def Fm(l:yL):∀k,bX (l.take k)<=bX l:=by
 intro k;have e:bX l=bX (l.take k)*256 ^ (l.drop k).length+bX (l.drop k):=by
  conv=>lhs;rw[<-VB k l]
  unfold bX;rw[List.foldl_append,wI];rfl
 have:0<256 ^ (l.drop k).length:=Nat.pow_pos (by decide);have h2:=Nat.mul_le_mul_left (bX (l.take k)) this;omega
def dZ(t:yB):Bool:=bF t && decide (t.size<=8) && !(decide (t.size=8) && decide (128<=(t.data.toList.headD 0).toNat))
def GU{t}(h:dZ t=true):bX t.data.toList<9223372036854775808:=by
 unfold dZ at h;simp only[Vr,Bool.not_eq_true',VJ] at h;let⟨⟨_,h8⟩,h9⟩:=h;have a:t.data.toList.length=t.size:=by simp
 have h1:=zI t.data.toList;by_cases h:t.size=8
 .rw[Uw h,Bool.true_and] at h9;have c:=of_decide_eq_false h9;cases hc:t.data.toList with
  |nil=>rw[hc] at a;simp at a;omega
  |cons b r=>rw[hc] at c a;simp only[List.headD_cons] at c;simp only[UJ] at a;rw[zJ];have h2:=zI r;rw[show r.length=7 by omega] at h2⊢;have h3:b.toNat*256 ^ 7<=127*256 ^ 7:=Nat.mul_le_mul_right _ (by omega);omega
 have:(256:Nat) ^ t.data.toList.length<=256 ^ 7:=Nat.pow_le_pow_right (by decide) (by omega);omega
def vm{n:Nat}(h:n<9223372036854775808):IntKind.i64.wrap (n:Int)=(n:Int):=by rw[IntKind.wrap_i64];omega
def Cr{n:Nat}(h:n<256):wrap64 (n:Int)=(n:Int):=by unfold wrap64;omega
def AI {t : ByteArray} (hs : 0 < t.size) : (t.data.toList.headD 0).toNat = (t[0]'hs).toNat := by
  have : t.data.toList.headD 0 = t[0]'hs := by
    show _ = t.data[0]
    cases hc : t.data.toList with
    | nil => have : t.data.toList.length = t.size := by simp
             rw [hc] at this; simp at this; omega
    | cons b r => simp [← Array.getElem_toList, hc]
  rw [this]
def Pj(t:yB)(K:t.size<=maxLen)(w):yC 125 #[sV t] w λe w'=>e=rV (tV #[i6 (if dZ t=true then bX t.data.toList else 0:Nat),bV (dZ t)])/\w'=w:=by
 have i:yH (∀W,yC 104 #[sV t] W λe w'=>e=rV (bV (bF t))/\w'=W):=λW=>tW t K W
 have f:yH (dZ t=(bF t && decide (t.size<=8) && !(decide (t.size=8) && decide (128<=(t.data.toList.headD 0).toNat)))):=rfl;have I:yH (dZ t=true->bX t.data.toList<9223372036854775808):=GU;unfold maxLen at K;cases hn:bF t with
 |false=>
  rw[hn] at i f;have a:yH (dZ t=false):=by rw[f.o];rfl
  have b:yH ((if dZ t=true then bX t.data.toList else 0)=0):=by show _=_;rw[a.o];rfl
  generalize (if dZ t=true then bX t.data.toList else 0)=R at*;generalize dZ t=B at*;clear hn;go_enter func125,ntmps125
  go_wp2_with fail
  refine(i.o _).mono ?_;rintro e l⟨rfl,c⟩;subst c;go_wp2;go_ret2;exact⟨by rw[b.o,a.o];rfl,rfl⟩
 |true=>
  rw[hn] at i f;by_cases h8:t.size<=8
  .have O:¬(8:Int)<(t.size:Int):=by omega
   rw[Uw h8] at f;by_cases h7:t.size=8/\128<=(t.data.toList.headD 0).toNat
   .obtain⟨C,q⟩:=h7;have hs:0<t.size:=by omega
    have D:(t.data.toList.headD 0).toNat=(t[0]'hs).toNat:=by
     exact AI hs
    have P:(128:Int)<=((t[0]'hs).toNat:Int):=by omega
    have a:yH (dZ t=false):=by rw[f.o,Uw C,Uw q];rfl
    have b:yH ((if dZ t=true then bX t.data.toList else 0)=0):=by show _=_;rw[a.o];rfl
    generalize (if dZ t=true then bX t.data.toList else 0)=R at*;generalize dZ t=B at*;have N:(0:Int)<(t.size:Int):=by omega
    have J:(t.size:Int)=8:=by omega
    clear hn q D;go_enter func125,ntmps125
    go_wp2_with fail
    refine(i.o _).mono ?_;rintro e l⟨rfl,c⟩;subst c;go_wp2;go_ret2;exact⟨by rw[b.o,a.o];rfl,rfl⟩
   have d:dZ t=true:=by
    rw[f.o];cases hd:decide (t.size=8) with
    |false=>rfl
    |true=>
     have:¬128<=(t.data.toList.headD 0).toNat:=λq=>h7 ⟨of_decide_eq_true hd,q⟩
     rw[Uv this];rfl
   by_cases C:t.size=8
   .have hs:0<t.size:=by omega
    have D:=AI hs;have P:¬(128:Int)<=((t[0]'hs).toNat:Int):=λq=>h7 ⟨C,by omega⟩
    have N:(0:Int)<(t.size:Int):=by omega
    have J:(t.size:Int)=8:=by omega
    clear h7 D;have a:=aa d;have S:=I.o d;have b:yH ((if dZ t=true then bX t.data.toList else 0)=bX t.data.toList):=by show _=_;rw[d];rfl
    have A:yH (bX (t.data.toList.take t.size)=bX t.data.toList):=by
     show _=_;have:t.data.toList.take t.size=t.data.toList:=U4 (by simp);rw[this]
    have y:yH (∀k (h:k<t.size),bX (t.data.toList.take (k+1))=bX (t.data.toList.take k)*256+(t[k]'h).toNat):=λk h=>by
     have e:t.data.toList.take (k+1)=t.data.toList.take k++[t[k]'h]:=by
      rw[Vb (by simpa using h)];rfl
     rw[e,zH]
    have u:yH (∀k,bX (t.data.toList.take k)<=bX t.data.toList):=Fm _;have L:yH (bX (t.data.toList.take 0)=0):=rfl;generalize hR:(if dZ t=true then bX t.data.toList else 0)=R at*;generalize hB:dZ t=B at*;generalize hNN:bX t.data.toList=NN at*;clear d hn hR hB hNN;go_enter func125,ntmps125
    go_wp2_with fail
    refine(i.o _).mono ?_;rintro e l⟨rfl,c⟩;subst c;go_wp2;go_loopg [4,5] t.size (λg z r wr=>wr=l/\∃k:Nat,g=t.size - k/\k<=t.size/\r=i6 k/\z=i6 (bX (t.data.toList.take k)))
    .exact⟨rfl,0,rfl,by omega,rfl,rfl⟩
    obtain⟨H,k,p,Q,rfl,rfl⟩:=hrel;subst H;have s:=aa p;clear p;by_cases F:k<t.size
    .have j:=y.o k F;have G:=u.o (k+1);have E:(k:Int)<(t.size:Int):=by omega
     have o:(t[k]).toNat<256:=(t[k]).toNat_lt;rw[j] at G;have x:yH (bX (t.data.toList.take (k+1))=bX (t.data.toList.take k)*256+(t[k]).toNat):=j;generalize bX (t.data.toList.take k)=m at*;obtain⟨M,n⟩:=yX (m*256+(t[k]).toNat);have v:=aa n;have w1:IntKind.i64.wrap ((m:Int)*256)=(m:Int)*256:=by rw[UY];omega
     have w2:(m:Int)*256+((t[k]).toNat:Int)=(M:Int):=by omega
     have w3:IntKind.i64.wrap (M:Int)=(M:Int):=vm (by omega);have w4:=Cr o;have w5:IntKind.i64.wrap ((t[k]).toNat:Int)=((t[k]).toNat:Int):=vm (Nat.lt_trans o (by decide));clear j n;go_wp2;go_roundg (t.size - (k+1))
     .exact⟨rfl,k+1,rfl,by omega,by go_num,by rw[x.o,<-v.o]⟩
     have:=s.o;omega
    obtain rfl:k=t.size:=by omega
    have E:¬(t.size:Int)<(t.size:Int):=by omega
    rw[A.o];go_wp2;go_ret2;exact⟨by rw[b.o,a.o];rfl,rfl⟩
   have J:¬(t.size:Int)=8:=by omega
   clear h7;have a:=aa d;have S:=I.o d;have b:yH ((if dZ t=true then bX t.data.toList else 0)=bX t.data.toList):=by show _=_;rw[d];rfl
   have A:yH (bX (t.data.toList.take t.size)=bX t.data.toList):=by
    show _=_;have:t.data.toList.take t.size=t.data.toList:=U4 (by simp);rw[this]
   have y:yH (∀k (h:k<t.size),bX (t.data.toList.take (k+1))=bX (t.data.toList.take k)*256+(t[k]'h).toNat):=λk h=>by
    have e:t.data.toList.take (k+1)=t.data.toList.take k++[t[k]'h]:=by
     rw[Vb (by simpa using h)];rfl
    rw[e,zH]
   have u:yH (∀k,bX (t.data.toList.take k)<=bX t.data.toList):=Fm _;have L:yH (bX (t.data.toList.take 0)=0):=rfl;generalize hR:(if dZ t=true then bX t.data.toList else 0)=R at*;generalize hB:dZ t=B at*;generalize hNN:bX t.data.toList=NN at*;clear d hn hR hB hNN;go_enter func125,ntmps125
   go_wp2_with fail
   refine(i.o _).mono ?_;rintro e l⟨rfl,c⟩;subst c;go_wp2;go_loopg [4,5] t.size (λg z r wr=>wr=l/\∃k:Nat,g=t.size - k/\k<=t.size/\r=i6 k/\z=i6 (bX (t.data.toList.take k)))
   .exact⟨rfl,0,rfl,by omega,rfl,rfl⟩
   obtain⟨H,k,p,Q,rfl,rfl⟩:=hrel;subst H;have s:=aa p;clear p;by_cases F:k<t.size
   .have j:=y.o k F;have G:=u.o (k+1);have E:(k:Int)<(t.size:Int):=by omega
    have o:(t[k]).toNat<256:=(t[k]).toNat_lt;rw[j] at G;have x:yH (bX (t.data.toList.take (k+1))=bX (t.data.toList.take k)*256+(t[k]).toNat):=j;generalize bX (t.data.toList.take k)=m at*;obtain⟨M,n⟩:=yX (m*256+(t[k]).toNat);have v:=aa n;have w1:IntKind.i64.wrap ((m:Int)*256)=(m:Int)*256:=by rw[UY];omega
    have w2:(m:Int)*256+((t[k]).toNat:Int)=(M:Int):=by omega
    have w3:IntKind.i64.wrap (M:Int)=(M:Int):=vm (by omega);have w4:=Cr o;have w5:IntKind.i64.wrap ((t[k]).toNat:Int)=((t[k]).toNat:Int):=vm (Nat.lt_trans o (by decide));clear j n;go_wp2;go_roundg (t.size - (k+1))
    .exact⟨rfl,k+1,rfl,by omega,by go_num,by rw[x.o,<-v.o]⟩
    have:=s.o;omega
   obtain rfl:k=t.size:=by omega
   have E:¬(t.size:Int)<(t.size:Int):=by omega
   rw[A.o];go_wp2;go_ret2;exact⟨by rw[b.o,a.o];rfl,rfl⟩
  have O:(8:Int)<(t.size:Int):=by omega
  have a:yH (dZ t=false):=by rw[f.o,Uv h8];rfl
  have b:yH ((if dZ t=true then bX t.data.toList else 0)=0):=by show _=_;rw[a.o];rfl
  generalize (if dZ t=true then bX t.data.toList else 0)=R at*;generalize dZ t=B at*;clear hn;go_enter func125,ntmps125
  go_wp2_with fail
  refine(i.o _).mono ?_;rintro e l⟨rfl,c⟩;subst c;go_wp2;go_ret2;exact⟨by rw[b.o,a.o];rfl,rfl⟩
def ki(n e:Int)(b a r f c d:yB):Bool:=(n == e) && ((b.toList == a.toList) && ((r.toList == f.toList) && (c.toList == d.toList)))
def Ej(w)(n e:Int)(b a r f c d):(binOp .neq 103 (gV #[i6 n,sV b,sV r,sV c]) (gV #[i6 e,sV a,sV f,sV d])).run yP w=.ok (bV (!ki n e b a r f c d)) w:=by
 unfold ki;cases h1:(n == e)<;>cases h2:(b.toList == a.toList)<;>cases h3:(r.toList == f.toList)<;>cases h4:(c.toList == d.toList)<;>
 go_simp
def RC(w)(a:Acc)(p:a.aI.size<=maxLen)(A:a.root.size<=maxLen)(y:a.code.size<=maxLen)(T:aB w):yC 126 #[cE a] w λe w'=>(∃b:Bool,e=rV (bV b)/\(b=true->a.root.size=32/\a.code.size=32/\bF a.aI=true)/\(Fit a->b=true))/\Below w.heap.size w w':=by
 have t:yH (Fit a->ki a.n 0 a.aI ⟨#[]⟩ a.root (ae bM) a.code cZ=false):=λh=>by
  cases hs:ki a.n 0 a.aI ⟨#[]⟩ a.root (ae bM) a.code cZ with
  |false=>rfl
  |true=>
   unfold ki at hs;simp only[Vr,dV,VJ] at hs;obtain⟨h1,h2,h3,h4⟩:=hs;have h1:a.n=0:=by have:=eq_of_beq h1;omega
   refine absurd ?_ h.some;obtain⟨n,f,i,g⟩:=a;simp only at h1 h2 h3 h4;subst h1 h2 h3 h4;rfl
 have q:yH (Fit a->bF a.aI=true/\a.root.size=32/\a.code.size=32):=λh=>⟨h.aI,h.root,h.code⟩
 generalize hFit:Fit a=FT at t q⊢;clear hFit;obtain⟨n,f,i,g⟩:=a;simp only at p A y t q;have o:yH (∀W,yC 104 #[sV f] W λe w'=>e=rV (bV (bF f))/\w'=W):=λW=>tW f p W
 have C:yH (∀W,Below w.heap.size w W->yC 123 #[] W λe w'=>e=rV (gV #[i6 0,sV ⟨#[]⟩,sV (ae bM),sV cZ])/\Below W.heap.size W w'):=λW E=>vK W (T.below E)
 unfold maxLen at p A y;have h3:=T.size;clear T;generalize ae bM=ER at*;generalize cZ=NC at*;unfold cE;obtain⟨c,d⟩:=yX (w.alloc (.cells #[i6 n,sV f,sV i,sV g] 103));have u:yH (gf c w.heap.size 103 (i6 n) (sV f) (sV i) (sV g)):=by rw[d];exact gf.new _ _ _ _ _ _
 have j:yH (Below w.heap.size w c):=by rw[d];exact(Un _ _).alloc (Ug _) _
 have J:yH (c.heap.size=w.heap.size+1):=by rw[d];show _=_;simp
 obtain⟨⟨k0,k1,k2,k3⟩,f0,f1,f2,f3⟩:=u.o.cells;cases hnb:bF f with
 |false=>
  rw[hnb] at o;have r:yH (FT->false=true):=λh=>by have:=(q.o h).1;rw[hnb] at this;exact this
  clear hnb;go_enter func126,ntmps126
  go_wp2_with fail
  rw[<-d];clear d;refine(o.o _).mono ?_;rintro e s⟨rfl,l⟩;subst l;go_wp2;go_ret;exact⟨⟨false,rfl,(λh=>by cases h),r.o⟩,j.o⟩
 |true=>
  rw[hnb] at o;clear hnb;by_cases B:i.size=32
  .have H:(i.size:Int)=32:=by omega
   by_cases z:g.size=32
   .have F:(g.size:Int)=32:=by omega
    have D:yH (∀W,W.heap=c.heap->W.os=c.os->W.tape=c.tape->W.output=c.output->yC 123 #[] W λe w'=>e=rV (gV #[i6 0,sV ⟨#[]⟩,sV ER,sV NC])/\Below c.heap.size c w'):=λW e1 e2 e3 e4=>by
     have p:Below c.heap.size c W:=⟨e2,e3,e4,by rw[e1];exact Ug _,λk _=>by rw[e1]⟩
     have I:=j.o.size;refine(C.o W (j.o.trans (p.mono I))).mono ?_;rintro e w'⟨G,x⟩;exact⟨G,p.trans (by rw[e1] at x;exact x)⟩
    go_enter func126,ntmps126
    go_wp2_with fail
    rw[<-d];clear d;refine(o.o _).mono ?_;rintro e s⟨rfl,l⟩;subst l;have K:∀w,(binOp .neq 103 (gV #[i6 n,sV f,sV i,sV g]) (gV #[i6 0,sV ⟨#[]⟩,sV ER,sV NC])).run yP w=.ok (bV (!ki n 0 f ⟨#[]⟩ i ER g NC)) w:=λw=>Ej w _ _ _ _ _ _ _ _
    generalize ki n 0 f ⟨#[]⟩ i ER g NC=SA at*;go_upto_region 3 with fail
    go_region_with (go_at_call 123;refine(D.o s.drew rfl rfl rfl rfl).mono ?_;rintro e w2⟨rfl,v⟩;obtain⟨⟨m0,m1,m2,m3⟩,_⟩:=(u.o.below v u.o.lt).cells;have m:yH (Below w.heap.size w w2):=j.o.trans (v.mono j.o.size);clear v)
    all_goals
     go_wp2;go_ret;exact⟨⟨_,rfl,λ_=>⟨B,z,by first|rfl|trivial⟩,λh=>by rw[t.o h];rfl⟩,by first|exact m.o|exact⟨m.o.os,m.o.tape,m.o.output,m.o.size,m.o.block⟩⟩
   have F:¬(g.size:Int)=32:=by omega
   have r:yH (FT->false=true):=λh=>absurd (q.o h).2.2 z
   go_enter func126,ntmps126
   go_wp2_with fail
   rw[<-d];clear d;refine(o.o _).mono ?_;rintro e s⟨rfl,l⟩;subst l;go_wp2;go_ret;exact⟨⟨false,rfl,(λh=>by cases h),r.o⟩,j.o⟩
  have H:¬(i.size:Int)=32:=by omega
  have r:yH (FT->false=true):=λh=>absurd (q.o h).2.1 B
  go_enter func126,ntmps126
  go_wp2_with fail
  rw[<-d];clear d;refine(o.o _).mono ?_;rintro e s⟨rfl,l⟩;subst l;go_wp2;go_ret;exact⟨⟨false,rfl,(λh=>by cases h),r.o⟩,j.o⟩
def ix(W:World)(n:Nat)(Q:Nat->yB->Prop):Prop:=∃x0 x1 x2 x3:yB,(x0.size<=140737488355328/\x1.size<=140737488355328/\x2.size<=140737488355328/\x3.size<=140737488355328)/\(Q 0 x0/\Q 1 x1/\Q 2 x2/\Q 3 x3)/\gf W n 176 (sV x0) (sV x1) (sV x2) (sV x3)
def ix.kept{w W:World}{n Q}(h:ix w n Q)(a:W.heap[n]? =w.heap[n]?):ix W n Q:=by
 let⟨x0,x1,x2,x3,hs,b,h⟩:=h;exact⟨x0,x1,x2,x3,hs,b,a.trans h⟩
def ix.mono{w n Q b}(h:ix w n Q)(a:∀i x,Q i x->b i x):ix w n b:=by
 let⟨x0,x1,x2,x3,hs,⟨q0,q1,q2,q3⟩,h⟩:=h;exact⟨x0,x1,x2,x3,hs,⟨a _ _ q0,a _ _ q1,a _ _ q2,a _ _ q3⟩,h⟩
def ix.set{W n k Q d}(h:ix W n Q)(f:k<4)(t:yB)(c:t.size<=140737488355328)(a:∀i x,i≠k->Q i x->d i x)(b:d k t):ix (W.setCell ⟨n,k,none⟩ (sV t)) n d:=by
 let⟨x0,x1,x2,x3,⟨h0,h1,h2,h3⟩,⟨q0,q1,q2,q3⟩,h⟩:=h;have e:(W.setCell ⟨n,k,none⟩ (sV t)).heap[n]? =some (.cells ((#[sV x0,sV x1,sV x2,sV x3]:Array Value).setIfInBounds k (sV t)) 176 (0,0)):=by
  rw[U7 W n k _ _ (0,0) _ h,Vk W n _ _ _ _ h]
 match k,f with
 | 0,_=>exact⟨t,x1,x2,x3,⟨c,h1,h2,h3⟩,⟨b,a _ _ (by decide) q1,a _ _ (by decide) q2,a _ _ (by decide) q3⟩,e⟩
 | 1,_=>exact⟨x0,t,x2,x3,⟨h0,c,h2,h3⟩,⟨a _ _ (by decide) q0,b,a _ _ (by decide) q2,a _ _ (by decide) q3⟩,e⟩
 | 2,_=>exact⟨x0,x1,t,x3,⟨h0,h1,c,h3⟩,⟨a _ _ (by decide) q0,a _ _ (by decide) q1,b,a _ _ (by decide) q3⟩,e⟩
 | 3,_=>exact⟨x0,x1,x2,t,⟨h0,h1,h2,c⟩,⟨a _ _ (by decide) q0,a _ _ (by decide) q1,a _ _ (by decide) q2,b⟩,e⟩
def ix.at_{W n k Q}(h:ix W n Q)(a:k<4):(∃v,yc W n k v)/\W.frozen? ⟨n,k,none⟩=false:=by
 let⟨x0,x1,x2,x3,_,_,h⟩:=h;let⟨⟨k0,k1,k2,k3⟩,f0,f1,f2,f3⟩:=h.cells;match k,a with
 | 0,_=>exact⟨⟨_,k0⟩,f0⟩
 | 1,_=>exact⟨⟨_,k1⟩,f1⟩
 | 2,_=>exact⟨⟨_,k2⟩,f2⟩
 | 3,_=>exact⟨⟨_,k3⟩,f3⟩
def qU(D:Except Nat Tree)(a:Bool)(x0 x1 x2 x3:yB):Prop:=∀t0 t1 t2 t3:yL,D=.ok (bJ [ak t0,ak t1,ak t2,ak t3])->a=true/\x0=ae t0/\x1=ae t1/\x2=ae t2/\x3=ae t3
def Ce(ks:List Tree)(k:Nat)(i:Nat)(x:yB):Prop:=i<k->∀u,ks[i]? =some (ak u)->x=ae u
def Cg(D:Except Nat Tree)(w:World)(e:Ending)(w':World):Prop:=(∃(x0 x1 x2 x3:yB)(a:Bool),e=rV (tV #[gV #[sV x0,sV x1,sV x2,sV x3],bV a])/\x0.size<=140737488355328/\x1.size<=140737488355328/\x2.size<=140737488355328/\x3.size<=140737488355328/\qU D a x0 x1 x2 x3)/\yW w w'
def GC{w S k}{ks:List Tree}{a d}(g:ik w S k ks.length a)(s:ks.length=4)(n:∀i,i<ks.length->bg d w S ((a.drop (3*i)).take 3) (ks.getD i (ak []))):∃b o c,k=lV (some ⟨b,o,none⟩) 4 c/\S b/\∀i,i<4->∃(l:Bool)(t:yB),yc w b (o+i*3) (bV l)/\yc w b (o+i*3+1) (sV t)/\(l=false->t.size<=140737488355328)/\∀u,ks[i]? =some (ak u)->l=false/\t=ae u:=by
 rw[s] at g n;rcases g.pe with⟨h0,_⟩|⟨b,o,c,r,q,j⟩
 .omega
 refine⟨b,o,c,r,q,λi hi=>?_⟩;have x:=g.len;have p:=n i hi;have c0:=j (3*i) (by omega);have c1:=j (3*i+1) (by omega);have e3:∃v0 v1 v2,(a.drop (3*i)).take 3=[v0,v1,v2]/\a[3*i]? =some v0/\a[3*i+1]? =some v1:=by
  refine⟨a[3*i]'(by omega),a[3*i+1]'(by omega),a[3*i+2]'(by omega),?_,Uh _,Uh _⟩;rw[UZ (by omega),UZ (by omega),UZ (by omega)];rfl
 let⟨v0,v1,v2,e,g0,g1⟩:=e3;rw[e] at p;rw[g0] at c0;rw[g1] at c1;rw[Nat.mul_comm i 3];have m:∀u,ks[i]? =some (ak u)->ks.getD i (ak [])=ak u:=λu h=>by rw[Up,h];rfl
 rcases lp p with⟨t,rfl,rfl,f,y⟩|⟨v,t,z,A,_,rfl,rfl,f,_,_,_⟩
 .refine⟨false,t,c0,c1,λ_=>by omega,λu h=>⟨rfl,?_⟩⟩;have h2:=(m u h).symm.trans f;have h3:u=t.data.toList:=by injection h2 with h2;injection h2
  rw[h3,gA]
 refine⟨true,t,c0,c1,(λh=>by cases h),λu h=>?_⟩;have h2:=(m u h).symm.trans f;cases h2
def ix.ret{W n Q}(h:ix W n Q):∃x0 x1 x2 x3:yB,(x0.size<=140737488355328/\x1.size<=140737488355328/\x2.size<=140737488355328/\x3.size<=140737488355328)/\(Q 0 x0/\Q 1 x1/\Q 2 x2/\Q 3 x3)/\(yc W n 0 (sV x0)/\yc W n 1 (sV x1)/\yc W n 2 (sV x2)/\yc W n 3 (sV x3)):=by
 let⟨x0,x1,x2,x3,hs,a,h⟩:=h;exact⟨x0,x1,x2,x3,hs,a,h.cells.1⟩
def Rt(w)(s:yB)(hs:s.size<=maxLen):yC 124 #[sV s] w (Cg (dC s.data.toList) w):=by
 have HD:yH (∀W,yC 99 #[sV s] W λe w'=>Cl W (dC s.data.toList) e w'/\yW W w'):=λW=>xE W s hs
 obtain⟨W0,A0⟩:=yX ((w.alloc (.cells #[sV ⟨#[]⟩,sV ⟨#[]⟩,sV ⟨#[]⟩,sV ⟨#[]⟩] 176)).alloc (.cells #[sV ⟨#[]⟩,sV ⟨#[]⟩,sV ⟨#[]⟩,sV ⟨#[]⟩] 176));have C6:yH (yW w W0):=by rw[A0];exact((Un _ _).alloc (Ug _) _).alloc (by simp) _
 have B8:yH (W0.heap.size=w.heap.size+2):=by rw[A0];show _=_;simp
 have D6:yH (ix W0 w.heap.size (λ_ _=>True)):=by
  rw[A0];exact⟨_,_,_,_,⟨by decide,by decide,by decide,by decide⟩,⟨trivial,trivial,trivial,trivial⟩,(U6 _ _ _ (by simp)).trans (UG w _)⟩
 have D8:yH (ix W0 (w.heap.size+1) (λ_ _=>True)):=by
  rw[A0];refine⟨⟨#[]⟩,⟨#[]⟩,⟨#[]⟩,⟨#[]⟩,⟨by decide,by decide,by decide,by decide⟩,⟨trivial,trivial,trivial,trivial⟩,?_⟩;have:=UG (w.alloc (.cells #[sV ⟨#[]⟩,sV ⟨#[]⟩,sV ⟨#[]⟩,sV ⟨#[]⟩] 176)) (.cells #[sV ⟨#[]⟩,sV ⟨#[]⟩,sV ⟨#[]⟩,sV ⟨#[]⟩] 176);rw[show(w.alloc (.cells #[sV ⟨#[]⟩,sV ⟨#[]⟩,sV ⟨#[]⟩,sV ⟨#[]⟩] 176)).heap.size=w.heap.size+1 by simp] at this;exact this
 obtain⟨R,hR⟩:=yX (Cg (dC s.data.toList) w);have A3:yH (∀x0 x1 x2 x3 ok W,x0.size<=140737488355328/\x1.size<=140737488355328/\x2.size<=140737488355328/\x3.size<=140737488355328->qU (dC s.data.toList) ok x0 x1 x2 x3->yW w W->R (rV (tV #[gV #[sV x0,sV x1,sV x2,sV x3],bV ok])) W):=λx0 x1 x2 x3 ok W h hx hb=>by rw[hR];exact⟨⟨x0,x1,x2,x3,ok,rfl,h.1,h.2.1,h.2.2.1,h.2.2.2,hx⟩,hb⟩
 rw[<-hR];clear hR;suffices hh:yC 124 #[sV s] w (λe w'=>R e w'/\True) from hh.mono λ_ _ h=>h.1
 go_enter func124,ntmps124
 go_wp2_with fail
 rw[<-A0];clear A0;refine(HD.o _).mono ?_;rintro e w1⟨hd,A4⟩;have B6:=B8.o;have E5:=A4.size;have A6:=aa (C6.o.trans (A4.mono (by omega)));have A2:ix w1 w.heap.size (λ_ _=>True):=D6.o.kept (A4.block _ (by omega));have B2:ix w1 (w.heap.size+1) (λ_ _=>True):=D8.o.kept (A4.block _ (by omega));have F5:w.heap.size+2<=w1.heap.size:=by omega
 have B5:w.heap.size<w1.heap.size:=by omega
 have F1:w.heap.size+1<w1.heap.size:=by omega
 have F2:w.heap.size≠w1.heap.size:=by omega
 have F3:w.heap.size+1≠w1.heap.size:=by omega
 obtain⟨y0,y1,y2,y3,C2,_,⟨c0,c1,c2,c3⟩⟩:=B2.ret;obtain⟨⟨v0,k0⟩,f0⟩:=A2.at_ (k:=0) (by decide);obtain⟨⟨v1,k1⟩,f1⟩:=A2.at_ (k:=1) (by decide);obtain⟨⟨v2,k2⟩,f2⟩:=A2.at_ (k:=2) (by decide);obtain⟨⟨v3,k3⟩,f3⟩:=A2.at_ (k:=3) (by decide);have B1:=aa C2;have D7:=aa A2;have D9:=aa B2;clear B6 E5 A4 C2 A2 B2;cases hr:dC s.data.toList with
 |error c=>
  rw[hr] at hd;obtain⟨rfl,hc⟩:=hd;have E8:((c:Int) != 0)=true:=by simp;omega
  have HZ:yH (qU (dC s.data.toList) false y0 y1 y2 y3):=λ_ _ _ _ h=>by rw[hr] at h;cases h
  clear hc hr;go_wp2;refine UB (v:=tV #[gV #[sV y0,sV y1,sV y2,sV y3],bV false]) (by simp[results,results124,go_sem,k0,k1,k2,k3,B5]) rfl ⟨A3.o _ _ _ _ _ _ B1.o HZ.o ?_,trivial⟩;exact(jW A6.o (Ug _) _ _ _ _).alloc (by simp[World.setCell];omega) _
 |ok x=>
  rw[hr] at hd;obtain⟨l,t,a,m,cp,rfl,hi⟩:=hd;rcases lp hi with⟨t',h1,h2,A5,ht⟩|⟨e',t',ks,xs,_,h1,h2,A5,A8,_,B4⟩
  .cases h1;have HZ:yH (qU (dC s.data.toList) false y0 y1 y2 y3):=λ_ _ _ _ h=>by rw[hr,A5] at h;cases h
   clear hi hr A5;go_wp2;refine UB (v:=tV #[gV #[sV y0,sV y1,sV y2,sV y3],bV false]) (by simp[results,results124,go_sem,k0,k1,k2,k3,B5]) rfl ⟨A3.o _ _ _ _ _ _ B1.o HZ.o ?_,trivial⟩;exact(jW A6.o (Ug _) _ _ _ _).alloc (by simp[World.setCell];omega) _
  cases h1;have A9:yH (∀t0 t1 t2 t3,dC s.data.toList=.ok (bJ [ak t0,ak t1,ak t2,ak t3])->ks=[ak t0,ak t1,ak t2,ak t3]):=λt0 t1 t2 t3 h=>by rw[hr,A5] at h;injection h with h;injection h
  clear hr A5;obtain⟨a',c',E4⟩:=A8.slice;cases E4;by_cases h4:ks.length=4
  .obtain⟨b,o,c,C1,E6,B3⟩:=GC A8 h4 B4;rw[h4] at C1;cases C1;have E2:b<w1.heap.size:=by
    obtain⟨l0,t0,q0,_⟩:=B3 0 (by decide);exact UE w1 _ q0
   have B6:=B8.o;have E7:w.heap.size+2<=b:=by omega
   obtain⟨W2,A1⟩:=yX (w1.alloc (.cells #[bV true,sV t,lV (some ⟨b,o,none⟩) 4 cp] 155));have D5:yH (W2.heap[w1.heap.size]? =some (.cells #[bV true,sV t,lV (some ⟨b,o,none⟩) 4 cp] 155 (0,0))):=by rw[A1];exact UG w1 _
   have B0:yH (∀k,k<w1.heap.size->W2.heap[k]? =w1.heap[k]?):=λk hk=>by rw[A1];exact U6 _ _ _ hk
   have E0:yH (W2.heap.size=w1.heap.size+1):=by rw[A1];show _=_;simp
   have C7:yH (yW w W2):=by rw[A1];exact A6.o.alloc (by omega) _
   have D0:=aa B3;have D1:yH (∀wr,aU (λk=>k=w.heap.size+1) W2 wr->(∀k,k<w1.heap.size+1->k≠w.heap.size+1->wr.heap[k]? =W2.heap[k]?)):=λwr h k hk hn=>h.block k (by rw[E0.o];exact hk) hn
   have C8:yH (∀wr,aU (λk=>k=w.heap.size+1) W2 wr->wr.cell? ⟨w1.heap.size,2,none⟩=some (lV (some ⟨b,o,none⟩) 4 cp)/\(∀i,i<4->∃(l:Bool)(t:yB),wr.cell? ⟨b,o+i*3,none⟩=some (bV l)/\wr.cell? ⟨b,o+i*3+1,none⟩=some (sV t)/\(l=false->t.size<=140737488355328)/\∀u,ks[i]? =some (ak u)->l=false/\t=ae u)/\ix wr w.heap.size (λ_ _=>True)/\yW w wr):=λwr h=>by
    have hk:=D1.o wr h;refine⟨?_,λi hi=>?_,?_,?_⟩
    .rw[Ur wr w1.heap.size 2 _ _ _ ((hk _ (by omega) (by omega)).trans D5.o)];rfl
    .obtain⟨l,t,q1,q2,q3⟩:=D0.o i hi;have C0:wr.heap[b]? =w1.heap[b]? :=(hk b (by omega) (by omega)).trans (B0.o b E2);exact⟨l,t,(Uz (w:=w1) C0).trans q1,(Uz (w:=w1) C0).trans q2,q3⟩
    .exact D7.o.kept ((hk _ (by omega) (by omega)).trans (B0.o _ (by omega)))
    exact C7.o.trans ⟨h.os,h.tape,h.output,h.size,λk E9=>hk k (by omega) (by omega)⟩
   have C9:yH (ix W2 (w.heap.size+1) (Ce ks 0)):=(D9.o.kept (B0.o _ (by omega))).mono λi x _ h=>absurd h (Nat.not_lt_zero i)
   have D3:yH (aU (λk=>k=w.heap.size+1) W2 W2):=⟨rfl,rfl,rfl,Ug _,λ_ _ _=>rfl⟩
   have E3:(ks.length:Int)=4:=by omega
   clear hi A8 B4 B3 B6 k0 k1 k2 k3 f0 f1 f2 f3 c0 c1 c2 c3;rw[h4];go_wp2;rw[<-A1];clear A1;go_loopg [7] 4 (λg r wr=>∃k:Nat,g=4 - k/\k<=4/\r=i6 k/\yH (ix wr (w.heap.size+1) (Ce ks k))/\yH (aU (λk=>k=w.heap.size+1) W2 wr))
   .exact⟨0,rfl,by omega,rfl,C9,D3⟩
   obtain⟨k,hg,hk,rfl,HT,HW⟩:=hrel;have HG:=aa hg;clear hg;obtain⟨d2,dk,dR,dB⟩:=C8.o wr HW.o;have B7:=aa dB;obtain⟨⟨u0,k0⟩,f0⟩:=dR.at_ (k:=0) (by decide);obtain⟨⟨u1,k1⟩,f1⟩:=dR.at_ (k:=1) (by decide);obtain⟨⟨u2,k2⟩,f2⟩:=dR.at_ (k:=2) (by decide);obtain⟨⟨u3,k3⟩,f3⟩:=dR.at_ (k:=3) (by decide);obtain⟨z0,z1,z2,z3,C4,C3,⟨c0,c1,c2,c3⟩⟩:=HT.o.ret;have B9:=aa C4;have E1:=aa C3;clear C4 C3 dR dB;by_cases A7:k<4
   .have F0:(k:Int)<4:=by omega
    obtain⟨l,t2,q1,q2,q3,q4⟩:=dk k A7;obtain⟨⟨uk,g0⟩,g1⟩:=HT.o.at_ A7;cases l with
    |true=>
     have HZ:yH (qU (dC s.data.toList) false z0 z1 z2 z3):=λt0 t1 C5 t3 h=>by
      have e:=A9.o t0 t1 C5 t3 h;rw[e] at q4;match k,A7 with
      | 0,_=>exact absurd (q4 t0 rfl).1 (by simp)
      | 1,_=>exact absurd (q4 t1 rfl).1 (by simp)
      | 2,_=>exact absurd (q4 C5 rfl).1 (by simp)
      | 3,_=>exact absurd (q4 t3 rfl).1 (by simp)
     clear dk q3 q4 g0 g1;go_wp2;refine UB (v:=tV #[gV #[sV z0,sV z1,sV z2,sV z3],bV false]) (by simp[results,results124,go_sem,k0,k1,k2,k3]) rfl ⟨A3.o _ _ _ _ _ _ B9.o HZ.o ?_,trivial⟩;exact jW B7.o (Ug _) _ _ _ _
    |false=>
     have D2:yH (ix (wr.setCell ⟨w.heap.size+1,k,none⟩ (sV t2)) (w.heap.size+1) (Ce ks (k+1))):=HT.o.set A7 t2 (q3 rfl) (λi x F4 hq hi=>hq (by omega)) λ_ u hu=>(q4 u hu).2
     have D4:yH (aU (λk=>k=w.heap.size+1) W2 (wr.setCell ⟨w.heap.size+1,k,none⟩ (sV t2))):=aU.set HW.o _ _ (.inl rfl);clear dk q3 q4 c0 c1 c2 c3 k0 k1 k2 k3 f0 f1 f2 f3;go_wp2;go_roundg (4 - (k+1))
     .exact⟨k+1,rfl,by omega,by go_num,D2,D4⟩
     have:=HG.o;omega
   obtain rfl:k=4:=by omega
   have HZ:yH (qU (dC s.data.toList) true z0 z1 z2 z3):=λt0 t1 t2 t3 h=>by
    obtain⟨a0,a1,a2,a3⟩:=E1.o;have e:=A9.o t0 t1 t2 t3 h;rw[e] at a0 a1 a2 a3;exact⟨rfl,a0 (by decide) t0 rfl,a1 (by decide) t1 rfl,a2 (by decide) t2 rfl,a3 (by decide) t3 rfl⟩
   clear dk;go_wp2;refine UB (v:=tV #[gV #[sV z0,sV z1,sV z2,sV z3],bV true]) (by simp[results,results124,go_sem,k0,k1,k2,k3]) rfl ⟨A3.o _ _ _ _ _ _ B9.o HZ.o ?_,trivial⟩;exact jW B7.o (Ug _) _ _ _ _
  have E3:¬(ks.length:Int)=4:=by omega
  have HZ:yH (qU (dC s.data.toList) false y0 y1 y2 y3):=λt0 t1 t2 t3 h=>absurd (by rw[A9.o t0 t1 t2 t3 h];rfl) h4
  clear hi A8 B4;go_wp2;refine UB (v:=tV #[gV #[sV y0,sV y1,sV y2,sV y3],bV false]) (by simp[results,results124,go_sem,k0,k1,k2,k3,B5]) rfl ⟨A3.o _ _ _ _ _ _ B1.o HZ.o ?_,trivial⟩;exact(jW A6.o (Ug _) _ _ _ _).alloc (by simp[World.setCell];omega) _
def IV{n}(h:n<9223372036854775808):dZ (ae (bS 8 n))=true/\bX (ae (bS 8 n)).data.toList=n:=by
 have a:bX (bS 8 n)=n:=BD 8 n (by omega);have g:=qE 8 n;have i:(ae (bS 8 n)).size=(bS 8 n).length:=aN _;refine⟨?_,by rwa[nC]⟩;by_cases h0:n=0
 .subst h0;rw[uK];decide
 have j:=Bm 8 n (by decide) (by omega);have f:=Bn 8 n (by omega) (by omega);have d:(ae (bS 8 n)).data.toList=bS 8 n:=nC _;have e:∀(hs:0<(ae (bS 8 n)).size),((ae (bS 8 n))[0]'hs).toNat=((bS 8 n).getD 0 0).toNat:=λhs=>by
  rw[<-AI hs,d];cases bS 8 n<;>rfl
 unfold dZ bF;rw[dif_pos (by omega),e (by omega),i,Uw (by omega),Uw f,Uw g,d];simp only[Bool.true_and];by_cases h8:(bS 8 n).length=8
 .rw[Uw h8,Bool.true_and,Uv]
  .rfl
  intro c;revert c h8 a
  cases bS 8 n with
  |nil=>intro _ h8 _;cases h8
  |cons b r=>intro a h8 c;rw[zJ] at a;simp only[UJ] at h8;simp only[List.headD_cons] at c;rw[show r.length=7 by omega] at a;have:128*256 ^ 7<=b.toNat*256 ^ 7:=Nat.mul_le_mul_right _ c;omega
 rw[Uv h8];rfl
def j7(s:yB)(a:Acc)(d:Bool)(c:Nat):Prop:=(s.size=0->a=gC/\d=false/\c=0)/\∀b,Fit b->s=ir b->a=b/\d=true/\c=0
def Co(s:yB)(w:World)(e:Ending)(w':World):Prop:=(∃(a:Acc)(b:Bool)(c:Nat),e=rV (tV #[cE a,bV b,iV .i64 c])/\iZ a/\(c=0->a.root.size=32/\a.code.size=32)/\j7 s a b c)/\yW w w'
def vl:iZ mT:=⟨by decide,by decide,by decide,by decide⟩
def nX:iZ gC/\gC.root.size=32/\gC.code.size=32:=by
 have h1:gC.root.size=32:=by show(ae bM).size=32;unfold bM;rw[mX];exact dz _
 have h2:gC.code.size=32:=dz _;exact⟨⟨by decide,by decide,Nat.le_of_eq h1,Nat.le_of_eq h2⟩,h1,h2⟩
def JK(w)(s:yB)(hs:s.size<=maxLen)(T:aB w):yC 97 #[sV s] w (Co s w):=by
 have L:yH (∀W,yW w W->yC 123 #[] W λe w'=>e=rV (cE gC)/\yW W w'):=λW f=>vK W (T.below f)
 have A1:yH (∀W,yC 124 #[sV s] W (Cg (dC s.data.toList) W)):=λW=>Rt W s hs
 have A2:yH (∀t W,t.size<=maxLen->yC 125 #[sV t] W λe w'=>e=rV (tV #[i6 (if dZ t=true then bX t.data.toList else 0:Nat),bV (dZ t)])/\w'=W):=λt W ht=>Pj t ht W
 have A0:yH (∀(a:Acc) W,a.aI.size<=140737488355328->a.root.size<=140737488355328->a.code.size<=140737488355328->yW w W->yC 126 #[cE a] W λe w'=>(∃b:Bool,e=rV (bV b)/\(b=true->a.root.size=32/\a.code.size=32/\bF a.aI=true)/\(Fit a->b=true))/\yW W w'):=λa W h1 h2 h3 f=>RC W a (Ut h1 (by decide)) (Ut h2 (by decide)) (Ut h3 (by decide)) (T.below f)
 have A5:yH (cE gC=gV #[i6 0,sV ⟨#[]⟩,sV (ae bM),sV cZ]):=rfl;obtain⟨R,E⟩:=yX (Co s w);have C:yH (∀(a:Acc) there (c:Nat) W,iZ a->(c=0->a.root.size=32/\a.code.size=32)->j7 s a there c->yW w W->R (rV (tV #[cE a,bV there,i6 c])) W):=λa d c W h1 h2 h3 h4=>by rw[E];exact⟨⟨a,d,c,rfl,h1,h2,h3⟩,h4⟩
 have A4:yH (∀W,s.size=0->yW w W->R (rV (tV #[gV #[i6 0,sV ⟨#[]⟩,sV (ae bM),sV cZ],bV false,i6 0])) W):=λW h0 f=>C.o gC false 0 W nX.1 (λ_=>nX.2) ⟨λ_=>⟨rfl,rfl,rfl⟩,λb hb e=>by have:=(tJ hb.ok).1;rw[<-e] at this;omega⟩ f
 have D:yH (∀W,j7 s mT false 13->yW w W->R (rV (tV #[gV #[i6 0,sV ⟨#[]⟩,sV ⟨#[]⟩,sV ⟨#[]⟩],bV false,i6 13])) W):=λW hx f=>C.o mT false 13 W ⟨by decide,by decide,by decide,by decide⟩ (λh=>by cases h) hx f
 rw[<-E];clear E T;suffices hh:yC 97 #[sV s] w (λe w'=>R e w'/\True) from hh.mono λ_ _ h=>h.1
 obtain⟨o,j⟩:=yX (w.alloc (.cells #[i6 0,sV ⟨#[]⟩,sV ⟨#[]⟩,sV ⟨#[]⟩] 103));have k:yH (yW w o):=by rw[j];exact(Un _ _).alloc (Ug _) _
 have x:yH (gf o w.heap.size 103 (i6 0) (sV ⟨#[]⟩) (sV ⟨#[]⟩) (sV ⟨#[]⟩)):=by rw[j];exact gf.new _ _ _ _ _ _
 have A6:yH (o.heap.size=w.heap.size+1):=by rw[j];show _=_;simp
 by_cases h0:s.size=0
 .have hE:s.toList.isEmpty=true:=by rw[g7];exact h0
  rw[A5.o] at L;generalize ae bM=ER at*;generalize cZ=NC at*;go_enter func97,ntmps97
  go_wp2_with fail
  rw[<-j];clear j;refine(L.o _ k.o).mono ?_;rintro e w1⟨rfl,g⟩;have l:=aa (k.o.trans (g.mono k.o.size));obtain⟨⟨k0,k1,k2,k3⟩,f0,f1,f2,f3⟩:=(x.o.below g x.o.lt).cells;clear g;go_wp2;refine UB (v:=tV #[gV #[i6 0,sV ⟨#[]⟩,sV ER,sV NC],bV false,i6 0]) (by simp[results,results97,go_sem,k0,k1,k2,k3]) rfl ⟨A4.o _ h0 (jW l.o (Ug _) _ _ _ _),trivial⟩
 have hE:s.toList.isEmpty=false:=by rw[iv];exact h0
 have HQ:yH (∀a d c,(∀b,Fit b->dC s.data.toList=.ok (pI b)->a=b/\d=true/\c=0)->j7 s a d c):=λa d c u=>⟨λh=>absurd h h0,λb h1 e=>u b h1 (by rw[e];exact(tJ h1.ok).2.2)⟩
 clear h0;go_enter func97,ntmps97
 go_wp2_with fail
 rw[<-j];clear j;refine(A1.o _).mono ?_;rintro e w1⟨⟨x0,x1,x2,x3,Z,rfl,U,V,X,Y,Q⟩,g⟩;have A7:=g.size;have H:w.heap.size<w1.heap.size:=by have:=A6.o;omega
 have l:=aa (k.o.trans (g.mono k.o.size));have N:=aa (x.o.below g x.o.lt);obtain⟨⟨k0,k1,k2,k3⟩,f0,f1,f2,f3⟩:=N.o.cells;have M:yH (∀a d c,(∀b,Fit b->Z=true/\x0=ae (bS 8 b.n)/\x1=b.aI/\x2=b.root/\x3=b.code->a=b/\d=true/\c=0)->j7 s a d c):=λa d c u=>HQ.o a d c λb h1 h2=>u b h1 (by
  have:=Q _ _ _ _ h2;rwa [gA,gA,gA] at this)
 clear g A7 Q;cases Z with
 |false=>
  have i:yH (j7 s mT false 13):=M.o _ _ _ λb _ h=>by cases h.1
  go_wp2;refine UB (v:=tV #[gV #[i6 0,sV ⟨#[]⟩,sV ⟨#[]⟩,sV ⟨#[]⟩],bV false,i6 13]) (by simp[results,results97,go_sem,k0,k1,k2,k3,H]) rfl ⟨D.o _ i.o ?_,trivial⟩;exact(jW l.o (Ug _) _ _ _ _).alloc (by simp[World.setCell];omega) _
 |true=>
  have K:yH (∀W,yC 125 #[sV x0] W λe w'=>e=rV (tV #[i6 (if dZ x0=true then bX x0.data.toList else 0:Nat),bV (dZ x0)])/\w'=W):=λW=>A2.o x0 W (Ut U (by decide))
  have S:(if dZ x0=true then bX x0.data.toList else 0)<9223372036854775808:=by
   split
   .next h=>exact GU h
   decide
  have A:yH (x1.size<=140737488355328/\x2.size<=140737488355328/\x3.size<=140737488355328):=⟨V,X,Y⟩
  have A3:=aa S;have B:yH (∀a d c,(∀b,Fit b->dZ x0=true/\(if dZ x0=true then bX x0.data.toList else 0)=b.n/\x1=b.aI/\x2=b.root/\x3=b.code->a=b/\d=true/\c=0)->j7 s a d c):=λa d c u=>M.o a d c λb h1⟨_,h2,h3⟩=>u b h1 (by
   obtain⟨d1,d2⟩:=IV h1.n;rw[h2,Uj d1];exact⟨d1,d2,h3⟩)
  generalize (if dZ x0=true then bX x0.data.toList else 0)=n at*;generalize dZ x0=ib at*;clear S U V X Y;cases ib with
  |false=>
   have i:yH (j7 s mT false 13):=B.o _ _ _ λb _ h=>by cases h.1
   go_wp2_with fail
   refine(K.o _).mono ?_;rintro e wx⟨rfl,rfl⟩;go_wp2;refine UB (v:=tV #[gV #[i6 0,sV ⟨#[]⟩,sV ⟨#[]⟩,sV ⟨#[]⟩],bV false,i6 13]) (by simp[results,results97,go_sem,k0,k1,k2,k3,H]) rfl ⟨D.o _ i.o ?_,trivial⟩;exact((jW l.o (Ug _) _ _ _ _).alloc (by simp[World.setCell];omega) _).alloc (by simp[World.setCell];omega) _
  |true=>
   have HA:yH (∀W,yW w W->yC 126 #[gV #[i6 n,sV x1,sV x2,sV x3]] W λe w'=>(∃b:Bool,e=rV (bV b)/\(b=true->x2.size=32/\x3.size=32/\bF x1=true)/\(Fit ⟨n,x1,x2,x3⟩->b=true))/\yW W w'):=λW f=>A0.o ⟨n,x1,x2,x3⟩ W A.o.1 A.o.2.1 A.o.2.2 f
   obtain⟨p,r⟩:=yX ((w1.alloc (.cells #[sV x0,sV x1,sV x2,sV x3] 176)).alloc (.cells #[i6 n,sV x1,sV x2,sV x3] 103));have z:yH (yW w p):=by rw[r];exact(l.o.alloc (by omega) _).alloc (by simp;omega) _
   have O:yH (gf p w.heap.size 103 (i6 0) (sV ⟨#[]⟩) (sV ⟨#[]⟩) (sV ⟨#[]⟩)):=by
    rw[r];exact(U6 _ _ _ (by simp;omega)).trans ((U6 _ _ _ H).trans N.o)
   have P:yH (gf p (w1.heap.size+1) 103 (i6 n) (sV x1) (sV x2) (sV x3)):=by
    rw[r];have:=gf.new (w1.alloc (.cells #[sV x0,sV x1,sV x2,sV x3] 176)) 103 (i6 n) (sV x1) (sV x2) (sV x3);rw[show(w1.alloc (.cells #[sV x0,sV x1,sV x2,sV x3] 176)).heap.size=w1.heap.size+1 by simp] at this;exact this
   go_wp2_with fail
   refine(K.o _).mono ?_;rintro e wx⟨rfl,rfl⟩;go_wp2_with fail
   rw[<-r];clear r k0 k1 k2 k3 f0 f1 f2 f3;refine(HA.o _ z.o).mono ?_;rintro e w4⟨⟨b,rfl,G,F⟩,y⟩;have J:yH (∀q:Acc,n=q.n/\x1=q.aI/\x2=q.root/\x3=q.code->(⟨n,x1,x2,x3⟩:Acc)=q):=λq⟨e1,e2,e3,e4⟩=>by rw[e1,e2,e3,e4]
   obtain⟨⟨k0,k1,k2,k3⟩,f0,f1,f2,f3⟩:=(O.o.below y O.o.lt).cells;obtain⟨⟨m0,m1,m2,m3⟩,_⟩:=(P.o.below y P.o.lt).cells;have I:=aa (z.o.trans (y.mono z.o.size));clear y;cases b with
   |false=>
    have i:yH (j7 s mT false 13):=B.o _ _ _ λq h1 h2=>by have:=F (by rw[J.o q h2.2];exact h1);cases this
    clear G F;go_wp2;exact UB (v:=tV #[gV #[i6 0,sV ⟨#[]⟩,sV ⟨#[]⟩,sV ⟨#[]⟩],bV false,i6 13]) (by simp[results,results97,go_sem,k0,k1,k2,k3]) rfl ⟨D.o _ i.o (jW I.o (Ug _) _ _ _ _),trivial⟩
   |true=>
    have m:yH (x2.size=32/\x3.size=32/\bF x1=true):=G rfl;have i:yH (j7 s ⟨n,x1,x2,x3⟩ true 0):=B.o _ _ _ λq _ h2=>⟨J.o q h2.2,rfl,rfl⟩
    clear G F;go_wp2;exact UB (v:=tV #[gV #[i6 n,sV x1,sV x2,sV x3],bV true,i6 0]) (by simp[results,results97,go_sem,k0,k1,k2,k3]) rfl ⟨C.o ⟨n,x1,x2,x3⟩ true 0 _ ⟨A3.o,mH m.o.2.2,Nat.le_of_eq m.o.1,Nat.le_of_eq m.o.2.1⟩ (λ_=>⟨m.o.1,m.o.2.1⟩) i.o (jW I.o (Ug _) _ _ _ _),trivial⟩
def RY(x:Tree):(ft x).size<=4096:=by
 unfold ft;split
 .unfold iE;split
  .next h=>rw[aN];unfold fH at h;simpa using h
  exact UD _
 exact UD _
def Ni{w:World}{b n0 b0 r0 c0}(a:w.heap[b]? =some (.cells #[bV false,sV n0,lV none 0 0,bV false,sV b0,lV none 0 0,bV false,sV r0,lV none 0 0,bV false,sV c0,lV none 0 0] 155 (0,0)))(h1:n0.size<=140737488355328)(h2:b0.size<=140737488355328)(h3:r0.size<=140737488355328)(h4:c0.size<=140737488355328):bg 6 w (λ_=>True) [bV true,sV ⟨#[]⟩,lV (qA b) 4 4] (bJ [ak n0.data.toList,ak b0.data.toList,ak r0.data.toList,ak c0.data.toList]):=by
 refine xm 5 w _ _ _ _ [bV false,sV n0,lV none 0 0,bV false,sV b0,lV none 0 0,bV false,sV r0,lV none 0 0,bV false,sV c0,lV none 0 0] ⟨rfl,.inr ⟨b,0,4,rfl,trivial,λj c=>?_⟩⟩ (by simp) λi hi=>?_
 .rw[Vj,Ur w b j _ _ _ a];simp
 match i,hi with
 | 0,_=>exact nw 5 w _ n0 _ (by omega)
 | 1,_=>exact nw 5 w _ b0 _ (by omega)
 | 2,_=>exact nw 5 w _ r0 _ (by omega)
 | 3,_=>exact nw 5 w _ c0 _ (by omega)
def Ph(n:Nat)(v:n<9223372036854775808)(w:World):yC 147 #[i6 n] w λe w'=>e=rV (sV (ae (bS 8 n)))/\yW w w':=by
 have t:=λW x=>xF W x
 go_enter func147,ntmps147
 go_wp2;go_loopg [0,3] n (λg a o wr=>∃(m f:Nat)(b:yB),g=m/\m<=n/\a=i6 m/\o=sV b/\yH (bS 8 n=bS f m++b.data.toList/\m<256 ^ f/\f<=8/\b.size+f=8)/\yW w wr)
 .exact⟨n,8,ByteArray.empty,rfl,Ug _,rfl,rfl,⟨by simp,by omega,Ug _,rfl⟩,Un _ _⟩
 obtain⟨m,f,b,j,u,rfl,rfl,d,h⟩:=hrel;have p:=aa j;have c:=aa h;have z:b.size<=8:=by have:=d.o.2.2.2;omega
 clear j h;by_cases h0:0<m
 .have A:IntKind.u8.wrap ((m:Int) % 256)=((m % 256:Nat):Int):=by rw[VI];omega
  have s:(0:Int)<(m:Int):=by omega
  have k:=tU (m % 256) (by omega);have y:(strOfNums [(m:Int) % 256]).size=1:=by rw[strOfNums_size];rfl
  have q:=aa k;clear k;go_wp2;go_roundg (m / 256)
  case measure=>have:=p.o;omega
  case rel=>
   obtain⟨d1,d2,d3,d4⟩:=d.o;have e:strOfNums [(m:Int) % 256]++b=ae (UInt8.ofNat (m % 256)::b.data.toList):=by
    have e1:((m:Int) % 256)=((m % 256:Nat):Int):=by omega
    rw[e1,q.o];conv=>lhs;rw[<-gA b]
    rw[rh];rfl
   cases f with
   |zero=>simp at d2;omega
   |succ f=>
    refine⟨m / 256,f,strOfNums [(m:Int) % 256]++b,rfl,by omega,by go_num,rfl,⟨?_,by rw[Nat.pow_succ] at d2;omega,by omega,?_⟩,c.o.alloc c.o.size _⟩
    .rw[d1,e,eU];conv=>lhs;unfold bS
     rw[Ui (by omega),UI];rfl
    rw[e,aN];simp;omega
 have r:m=0:=by omega
 subst r;have i:ae (bS 8 n)=b:=by rw[d.o.1,uK,VL,gA]
 have l:=aa i;clear i;go_wp2;go_ret;exact⟨by rw[l.o];rfl,c.o⟩
def Nh(w)(a:Acc)(E:iZ a):yC 129 #[cE a] w λe w'=>e=rV (sV (ir a))/\yW w w':=by
 obtain⟨n,f,h,g⟩:=a;obtain⟨p,l,q,o⟩:=E;simp only at p l q o;have t:yH (∀W,yC 147 #[i6 n] W λe w'=>e=rV (sV (ae (bS 8 n)))/\yW W w'):=λW=>Ph n p W
 have x:yH (∀W b,W.heap[b]? =some (.cells #[bV false,sV (ae (bS 8 n)),lV none 0 0,bV false,sV f,lV none 0 0,bV false,sV h,lV none 0 0,bV false,sV g,lV none 0 0] 155 (0,0))->yC 128 #[gV #[bV true,sV ⟨#[]⟩,lV (qA b) 4 4]] W λe w'=>(∃c,e=rV (tV #[sV (ir ⟨n,f,h,g⟩),i6 c]))/\yW W w'):=λW b D=>by
  have hi:=Ni D (by rw[aN];have:=qE 8 n;omega) (Ut l (by decide)) (Ut q (by decide)) (Ut o (by decide));rw[eU] at hi;exact(uH W _ _ _ _ _ hi).mono λe w'⟨h1,h2⟩=>⟨⟨_,h1⟩,h2⟩
 generalize ir ⟨n,f,h,g⟩=R at*;generalize ae (bS 8 n)=ND at*;unfold cE;clear p l q o;obtain⟨d,j⟩:=yX (w.alloc (.cells #[i6 n,sV f,sV h,sV g] 103));have i:yH (gf d w.heap.size 103 (i6 n) (sV f) (sV h) (sV g)):=by rw[j];exact gf.new _ _ _ _ _ _
 have k:yH (yW w d):=by rw[j];exact(Un _ _).alloc (Ug _) _
 obtain⟨⟨k0,k1,k2,k3⟩,_⟩:=i.o.cells;have u:yH (yC 147 #[i6 n] d.drew λe w'=>e=rV (sV ND)/\yW d w'):=(t.o d.drew).mono λe w'⟨h1,h2⟩=>⟨h1,⟨h2.os,h2.tape,h2.output,h2.size,h2.block⟩⟩
 go_enter func129,ntmps129
 go_upto_region 1 with fail
 rw[<-j];clear j;go_cut [3] (λv z=>∃b,v=lV (qA b) 4 4/\yH (z.heap[b]? =some (.cells #[bV false,sV ND,lV none 0 0,bV false,sV f,lV none 0 0,bV false,sV h,lV none 0 0,bV false,sV g,lV none 0 0] 155 (0,0)))/\yH (yW w z))
 .go_region_held3 (λw'=>w'.cell? ⟨w.heap.size,0,none⟩=some (i6 n)/\w'.cell? ⟨w.heap.size,1,none⟩=some (sV f)/\w'.cell? ⟨w.heap.size,2,none⟩=some (sV h)/\w'.cell? ⟨w.heap.size,3,none⟩=some (sV g)) (go_keep) ((go_at_call 147;apply u.m;rintro e w2⟨rfl,m⟩;obtain⟨⟨m0,m1,m2,m3⟩,_⟩:=(i.o.below m i.o.lt).cells;have r:yH (yW w w2):=k.o.trans (m.mono k.o.size);clear m))
  all_goals
   go_wp2_with fail
   go_meet;exact⟨w2.heap.size,rfl,UG w2 _,r.o.alloc r.o.size _⟩
 obtain⟨b,rfl,B,s⟩:=hcut;have C:=aa (x.o wc b B.o);clear x t u i k k0 k1 k2 k3;go_wp2_with fail
 apply C.m;rintro e w3⟨⟨c,rfl⟩,y⟩;have A:=aa (s.o.trans (y.mono s.o.size));clear y;go_wp2_with fail
 go_ret;exact⟨rfl,A.o⟩
end Go.Proofs.YteaodagofkcgbaaGreatDoor
