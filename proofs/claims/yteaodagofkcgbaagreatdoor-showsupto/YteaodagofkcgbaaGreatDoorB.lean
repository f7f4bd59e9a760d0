import Derived.Test.YteaodagofkcgbaaGreatDoorA
open Go.Proofs.Tryz
open Go.Proofs.Tryz renaming prog→yP
open Go.Value renaming string→sV,pointer→pV,int→iV,slice→lV,bool→bV,tuple→tV,agg→gV
open Go.Ending renaming returned→rV
namespace Go.Proofs.YteaodagofkcgbaaGreatDoor
open Go.RowKit
set_option maxRecDepth 100000
set_option maxHeartbeats 0
set_option linter.all false
def x8(d:Nat):Prop:=∀(w:World) (S:Nat->Prop) (v0 v1 v2:Value) (x:Tree),bg d w S [v0,v1,v2] x->
 yC 146 #[gV #[v0,v1,v2]] w λe w'=>e=rV (tV #[sV (iE (bu d x)),bV (fH (bu d x))])/\yW w w'
def Cc(d:Nat):Prop:=∀(w:World) (S:Nat->Prop) (k:Value) (ks:List Tree) (a:List Value),ik w S k ks.length a->ks.length<140737488355329->(∀i,i<ks.length->bg d w S ((a.drop (3*i)).take 3) (ks.getD i (ak [])))->
 yC 156 #[k] w λe w'=>e=rV (tV #[sV (iE (gZ (ks.map (bu d)).flatten)),bV (fH (gZ (ks.map (bu d)).flatten))])/\yW w w'
def Jg(w:World)(t:yB)(k:Value)(l:t.size<140737488355329):yC 146 #[.agg #[.bool false,.string t,k]] w λe w'=>e=.returned (.tuple #[.string (iE (cL t.data.toList)),.bool (fH (cL t.data.toList))])/\yW w w':=by
 have b:t.data.toList.length=t.size:=by simp
 cases hb:fN t.data.toList with
 |true=>
  have e:cL t.data.toList=t.data.toList:=by unfold cL;rw[Uj hb]
  have a:fH t.data.toList=true:=by
   unfold fN at hb;simp at hb;unfold fH;rw[b];exact Uw (by omega)
  rw[e,rG _ a,gA,a];have c:=aa hb;clear hb e a b;go_enter func146,ntmps146
  go_wp2_with fail
  refine(xM t _).mono ?_;rw[c.o];rintro e w1⟨rfl,d⟩;subst d;go_wp2;go_ret2;exact⟨rfl,(Un _ _).alloc (Ug _) _⟩
 |false=>
  have e:cL t.data.toList=cV (fU false) t.size++t.data.toList:=by unfold cL;rw[Ui (by rw[hb];decide),b];rfl
  have a:=IC false t.data.toList;rw[b,<-e] at a;have c:=aa hb;have g:(if mK 128 t.data.toList then ae (cV 128 t.size++t.data.toList) else ByteArray.empty)=iE (cL t.data.toList):=by
   unfold iE;rw[<-a,e];rfl
  have j:yH ((if mK 128 t.data.toList then ae (cV 128 t.size++t.data.toList) else ByteArray.empty)=iE (cL t.data.toList)):=g;have i:yH (mK 128 t.data.toList=fH (cL t.data.toList)):=a;clear hb e a b g;go_enter func146,ntmps146
  go_wp2_with fail
  refine(xM t _).mono ?_;rw[c.o];rintro e w1⟨rfl,d⟩;subst d;go_wp2_with fail
  refine(Hj 128 t (by omega) l _).mono ?_;rw[j.o,i.o];rintro e w2⟨rfl,f⟩;have h:=aa (((Un _ _).alloc (Ug _) _).trans (f.mono (by simp)));clear f;go_wp2;go_ret2;exact⟨rfl,h.o⟩
def Jh(d:Nat)(j:Cc d):x8 (d+1):=by
 intro w S v0 v1 v2 x p;rcases p with⟨t,k,a,rfl,o⟩|⟨t,k,ks,q,a,rfl,g,n,f⟩
 .simp only[VD,and_true] at a;obtain⟨rfl,rfl,rfl⟩:=a;rw[ij];exact Jg w t _ o.1
 simp only[VD,and_true] at a;obtain⟨rfl,rfl,rfl⟩:=a;rw[kI];have m:=λ(w:World) (h:yW w w)=>j w
 clear m;go_enter func146,ntmps146
 go_wp2_with fail
 have b:yW w (w.alloc (.cells #[bV true,sV t,v2] 155)):=(Un _ _).alloc (Ug _) _;refine(j _ S v2 ks q (g.below b) n (λi hi=>(f i hi).below b)).mono ?_;rintro e w1⟨rfl,c⟩;have l:=aa (b.trans (c.mono (by simp)));clear c b g f;go_wp2;go_ret2;exact⟨rfl,l.o⟩
def Jf:x8 0:=by
 intro w S v0 v1 v2 x ⟨t,k,a,c,b⟩;subst c;simp only[VD,and_true] at a;obtain⟨rfl,rfl,rfl⟩:=a;rw[ij];exact Jg w t _ b.1
def LZ(l):Lib.strCells (ae l)=b9 l:=by
 unfold Lib.strCells b9;simp[eU]
def OJ{w:World}{base e v n b}(h:w.ownsRow base e 1 v n b):∃a cap,v=lV a n cap/\(a=none->n=0):=by
 rcases h.2 with⟨rfl,rfl⟩|⟨g,cap,c,rfl,_⟩
 .exact⟨none,0,rfl,λ_=>rfl⟩
 exact⟨_,cap,rfl,λh=>by cases h⟩
def Sq{w:World}{base v n l}(h:w.ownsRow base 5 1 v n (b9 l)):(convert 143 9 v).run yP w=.ok (sV (ae l)) w:=by
 have b:l.length=n:=by have:=h.1;simpa [b9] using this
 rcases h.2 with⟨rfl,h0⟩|⟨g,cap,d,rfl,e⟩
 .have:l=[]:=UH.1 (by omega);subst this;exact run_convert_bytes_nil (P:=yP) w 143 5 underlying143 underlying5 0 0 9 underlying9
 rw[<-oN];exact VA (P:=yP) w 143 5 underlying143 underlying5 g 0 n cap (l.map (λc=>(c.toNat:Int))) (by rw[UM,b]) (λi hi=>by
  have:=h.cellAt i (by rwa[Nat.mul_one]);rw[Vj,this];have a:i<l.length:=by omega
  simp[b9,List.getD,Uh a]) 9 underlying9
def rE{w w1:World}{base e c v n d}(h:w.ownsRow base e c v n d)(b:yW w w1):w1.ownsRow base e c v n d:=by
 refine⟨h.1,?_⟩;rcases h.2 with h0|⟨g,cap,f,l,i,a,k⟩
 .exact .inl h0
 refine .inr ⟨g,cap,f,l,i,?_,k⟩;have j:g<w.heap.size:=by
  rcases Nat.lt_or_ge g w.heap.size with h|h
  .exact h
  rw[UF h] at a;cases a
 rwa[b.block g j]
def OM(w:World)(base:Nat):w.ownsRow base 5 1 (lV none 0 0) 0 (b9 []):=⟨rfl,.inl ⟨rfl,rfl⟩⟩
def Gi(d:Nat)(ih:x8 d):Cc d:=by
 intro w S k ks f V hb y;obtain⟨i0,B6,C0,C1,C2⟩:=Vp rX;obtain⟨D,X,z⟩:∃D X,k=lV D ks.length X:=by
  rcases V.pe with⟨h0,a,c,rfl⟩|⟨b,o,c,rfl,_⟩
  .exact⟨a,c,by rw[h0]⟩
  exact⟨_,c,rfl⟩
 subst z;have HR:=aa V;have HK:=aa y;have HI:=aa ih;obtain⟨n,C⟩:=yX ks.length;have G:=aa C;obtain⟨T,L⟩:=yX (gZ (ks.map (bu d)).flatten);have K:=aa L;rw[<-C,<-L];rw[<-C] at hb;clear V y ih C L;go_enter func156,ntmps156
 go_wp2;go_loopg [4,5] n (λg v r wr=>∃(i:Nat)(m:Nat)(a:Option Addr)(cap:Nat),g=n - i/\i<=n/\r=i6 i/\v=lV a m cap/\m<=4096/\wr.ownsRow w.heap.size 5 1 (lV a m cap) m (b9 (jq d ks i))/\yW w wr)
 .exact⟨0,0,none,0,rfl,by omega,rfl,rfl,by omega,OM _ _,Un _ _⟩
 obtain⟨i,m,a,cap,hg,hi,rfl,rfl,hm,Q,A3⟩:=hrel;have HG:=aa hg;have HO:=aa Q;have p:=aa A3;have q:(jq d ks i).length=m:=by have:=Q.1;simpa [b9] using this
 have HM:=aa q;clear q;clear hg Q A3;by_cases A5:i<n
 .have B:=A5;rw[G.o] at B;have W:=HR.o.below p.o;rcases W.pe with⟨h0,_⟩|⟨b,o,c,z,C4,x⟩
  .omega
  have B7:D=some ⟨b,o,none⟩:=by cases z;rfl
  subst B7;have B9:3*i+2<f.length:=by rw[W.len];omega
  have g0:wr.cell? ⟨b,o+i*3,none⟩=some (f[3*i]'(by omega)):=by rw[<-Uh,<-x (3*i) (by omega),Nat.mul_comm]
  have g1:wr.cell? ⟨b,o+i*3+1,none⟩=some (f[3*i+1]'(by omega)):=by rw[<-Uh,<-x (3*i+1) (by omega),Nat.mul_comm,Nat.add_assoc]
  have g2:wr.cell? ⟨b,o+i*3+2,none⟩=some (f[3*i+2]'(by omega)):=by rw[<-Uh,<-x (3*i+2) (by omega),Nat.mul_comm,Nat.add_assoc]
  have O:=(HK.o i B).below p.o;have e3:(f.drop (3*i)).take 3=[f[3*i]'(by omega),f[3*i+1]'(by omega),f[3*i+2]'(by omega)]:=by
   apply VQ;intro j;rw[Vv];split
   .rw[VE];match j with
    | 0=>simp[Uh (show 3*i<f.length by omega)]
    | 1=>simp[Uh (show 3*i+1<f.length by omega)]
    | 2=>simp[Uh (show 3*i+2<f.length by omega)]
    |j+3=>omega
   rw[U9 (by simp;omega)]
  rw[e3] at O;generalize f[3*i]'(by omega)=v0 at*;generalize f[3*i+1]'(by omega)=v1 at*;generalize f[3*i+2]'(by omega)=v2 at*;have A7:=aa O;clear O e3 B9 x W B z;have A:4096<(jq d ks (i+1)).length->fH T=false/\iE T=ByteArray.empty:=by
   intro h;have h1:=SB d ks (i+1);have h2:fH T=false:=by
    unfold fH;rw[K.o];unfold gZ;rw[Uq];exact Uv (by omega)
   exact⟨h2,by unfold iE;rw[h2];rfl⟩
  have Z:=aa A;have J:=aa (Sz d ks i (by rw[<-G.o];exact A5));clear A;generalize hc:bu d (ks.getD i (ak []))=c at*;go_wp2_with fail
  refine(HI.o _ S v0 v1 v2 _ A7.o).mono ?_;rw[hc];rintro e w1⟨rfl,E⟩;have t:=aa (p.o.trans (E.mono p.o.size));have A1:=aa (rE HO.o E);clear E hc g0 g1 g2;cases l:fH c with
  |false=>
   have hl:4096<c.length:=by unfold fH at l;simpa using l
   obtain⟨q1,q2⟩:=Z.o (by rw[J.o,Uq];omega);have H:=aa q1;have I:=aa q2;clear q1 q2 l;go_wp2;go_ret2;exact⟨by rw[H.o,I.o];rfl,t.o⟩
  |true=>
   have hl:c.length<=4096:=by unfold fH at l;simpa using l
   have B0:=aa (rG c l);rw[B0.o];clear l;have s:=aN c;go_upto_region 8 with fail
   go_wp2_with (at_builtin;refine Lib.wpList_append_own_string _ rfl (.tmp 24) (.tmp 25) 143 9 rfl w.heap.size 5 i0 underlying143 underlying9 B6 C0 C1 C2 (lV a m cap) m (b9 (jq d ks i)) rfl A1.o (ae c) rfl ?d1 ?d2 ?d3 ?d4)
   case d1=>rw[s];unfold maxLen;omega
   case d2=>rw[s];omega
   case d3=>exact t.o.size
   intro C3 w2 R A4 _;rw[LZ] at R;have U:w2.ownsRow w.heap.size 5 1 C3 (m+c.length) (b9 (jq d ks (i+1))):=by
    have e:b9 (jq d ks (i+1))=b9 (jq d ks i)++b9 c:=by rw[J.o];simp[b9]
    rw[e];exact R
   obtain⟨a2,A2,rfl,_⟩:=OJ U;have A9:=aa U;have u:yH (yW w w2):=t.o.grown A4 t.o.size (λk y=>(A1.o.lt k y).1);have A8:yH ((jq d ks (i+1)).length=m+c.length):=by
    rw[J.o,Uq,HM.o];rfl
   clear R U A4;obtain⟨M,q⟩:=yX (m+c.length);rw[<-q];have A0:=aa q;clear q;by_cases A:4096<M
   .have B8:decide ((4096:Int)<(M:Int))=true:=by simp;omega
    obtain⟨q1,q2⟩:=Z.o (by rw[A8.o,<-A0.o];exact A);have H:=aa q1;have I:=aa q2;clear q1 q2;go_wp2;go_ret2;exact⟨by rw[H.o,I.o];rfl,u.o⟩
   have B8:decide ((4096:Int)<(M:Int))=false:=by simp;omega
   go_wp2;go_roundg (n - (i+1))
   .exact⟨i+1,M,a2,A2,rfl,by omega,by go_num,rfl,by omega,by rw[A0.o];exact A9.o,u.o⟩
   have:=HG.o;omega
 have N:jq d ks i=(ks.map (bu d)).flatten:=SD d ks i (by rw[<-G.o];omega);have B5:=Sq HO.o;rw[N] at B5;have P:=HM.o;rw[N] at P;generalize hF:(ks.map (bu d)).flatten=F at*;have s:=aN F;have l:=IC true F;have ho:(if mK 192 (ae F).data.toList then ae (cV 192 (ae F).size++(ae F).data.toList) else ByteArray.empty)=iE T:=by
  rw[eU,s,K.o];unfold iE gZ;rw[<-(show fU true=192 from rfl),<-l]
 have B3:=aa ho;have A6:yH (mK 192 (ae F).data.toList=fH T):=by rw[eU,K.o];unfold gZ;exact l
 have B4:yH ((ae F).size<140737488355329):=by rw[s,P];exact(show m<140737488355329 by omega)
 clear N hF l ho P s;have B:¬((i:Int)<(n:Int)):=by omega
 go_wp2_with fail
 refine(Hj 192 (ae F) (by omega) B4.o _).mono ?_;rw[B3.o,A6.o];rintro e w2⟨rfl,Y⟩;have u:=aa (p.o.trans (Y.mono p.o.size));clear Y;go_wp2;go_ret2;exact⟨rfl,u.o⟩
def xI:∀d,x8 d/\Cc d
 | 0=>⟨Jf,Gi 0 Jf⟩
 |d+1=>⟨Jh d (xI d).2,Gi (d+1) (Jh d (xI d).2)⟩
def ff(x:Tree):Int:=if bN 6 x=true then(if fH (bu 6 x)=true then 0 else 1) else 8
def ft(x:Tree):yB:=if bN 6 x=true then iE (bu 6 x) else ByteArray.empty
def uH(w S v0 v1 v2)(x:Tree)(n:bg 6 w S [v0,v1,v2] x):yC 128 #[gV #[v0,v1,v2]] w λe w'=>e=rV (tV #[sV (ft x),i6 (ff x)])/\yW w w':=by
 have g:yW w (w.alloc (.cells #[v0,v1,v2] 155)):=(Un _ _).alloc (Ug _) _;have y:=aa (n.below g);have j:=aa g;rcases lp n with⟨t,rfl,rfl,rfl,B⟩|⟨e,t,ks,A,b,rfl,rfl,rfl,r,z,q⟩
 .have a:=nz 6 t.data.toList;have d:ft (ak t.data.toList)=iE (bu 6 (ak t.data.toList)):=by unfold ft;rw[Uj a]
  have b:ff (ak t.data.toList)=(if fH (bu 6 (ak t.data.toList))=true then 0 else 1):=by unfold ff;rw[Uj a]
  have m:=aa d;have l:=aa b;clear n g d b a;go_enter func128,ntmps128
  go_wp2_with fail
  refine((xI 6).1 _ S _ _ _ _ y.o).mono ?_;rintro e w1⟨rfl,h⟩;have k:=aa (j.o.trans (h.mono j.o.size));clear h;generalize bu 6 (ak t.data.toList)=c at*;cases hf:fH c with
  |true=>have f:=aa hf;clear hf;go_wp2;go_ret2;exact⟨by rw[m.o,l.o,f.o];rfl,k.o⟩
  |false=>
   have f:=aa hf;have p:yH (iE c=ByteArray.empty):=by unfold iE;rw[hf];rfl
   clear hf;go_wp2;go_ret2;exact⟨by rw[m.o,l.o,f.o,p.o];rfl,k.o⟩
 obtain rfl:e=5:=by omega
 have s:=Cu 5 _ S v2 ks A 1 (by omega) (by omega) (r.below g) z (λi hi=>(q i hi).below g);have v:=aa s;cases a:bN 6 (bJ ks) with
 |false=>
  have d:ft (bJ ks)=ByteArray.empty:=by unfold ft;rw[a];rfl
  have b:ff (bJ ks)=8:=by unfold ff;rw[a];rfl
  rw[d,b];have o:=aa a;clear n g d b a r q s;go_enter func128,ntmps128
  go_wp2_with fail
  apply v.m;rw[o.o];rintro e w1⟨rfl,u⟩;subst u;go_wp2;go_ret2;exact⟨rfl,j.o⟩
 |true=>
  have d:ft (bJ ks)=iE (bu 6 (bJ ks)):=by unfold ft;rw[Uj a]
  have b:ff (bJ ks)=(if fH (bu 6 (bJ ks))=true then 0 else 1):=by unfold ff;rw[Uj a]
  have m:=aa d;have l:=aa b;have o:=aa a;clear n g d b a r q s;go_enter func128,ntmps128
  go_wp2_with fail
  apply v.m;rw[o.o];rintro e w1⟨rfl,u⟩;subst u;go_wp2_with fail
  refine((xI 6).1 _ S _ _ _ _ y.o).mono ?_;rintro e w1⟨rfl,h⟩;have k:=aa (j.o.trans (h.mono j.o.size));clear h;generalize bu 6 (bJ ks)=c at*;cases hf:fH c with
  |true=>have f:=aa hf;clear hf;go_wp2;go_ret2;exact⟨by rw[m.o,l.o,f.o];rfl,k.o⟩
  |false=>
   have f:=aa hf;have p:yH (iE c=ByteArray.empty):=by unfold iE;rw[hf];rfl
   clear hf;go_wp2;go_ret2;exact⟨by rw[m.o,l.o,f.o,p.o];rfl,k.o⟩
def aF:yL->yL->Nat
 |x::a,y::b=>if x=y then aF a b+1 else 0
 | _,_=>0
def iN:∀a b,aF a b<=a.length/\aF a b<=b.length
 | [],_=>⟨UD _,UD _⟩
 | _::_,[]=>⟨UD _,UD _⟩
 |x::a,y::b=>by
  have:=iN a b
  simp only[aF]
  split
  .simp;omega
  simp
def Mt(a b:yL)(k:Nat)(c:k<a.length)(d:k<b.length)(h:a[k]=b[k]):aF (a.drop k) (b.drop k)=aF (a.drop (k+1)) (b.drop (k+1))+1:=by
 rw[UZ c,UZ d];simp only[aF,h,U5]
def Ms(a b:yL)(k:Nat)(c:k<a.length)(d:k<b.length)(h:a[k]≠b[k]):aF (a.drop k) (b.drop k)=0:=by
 rw[UZ c,UZ d];simp only[aF,h,UT]
def Mw(a b:yL)(k:Nat)(c:a.length<=k):aF (a.drop k) (b.drop k)=0:=by
 rw[List.drop_eq_nil_of_le c];simp[aF]
def Mu(a b:yL)(k:Nat)(c:b.length<=k):aF (a.drop k) (b.drop k)=0:=by
 rw[List.drop_eq_nil_of_le c];cases a.drop k<;>simp[aF]
def tD(a b:yB)(u:a.size<=maxLen)(v:b.size<=maxLen)(w:World):yC 134 #[sV a,sV b] w λe w'=>e=rV (i6 (aF a.data.toList b.data.toList))/\∃n,w'=w.drewN n:=by
 unfold maxLen at u v;obtain⟨N,i⟩:=yX (aF a.data.toList b.data.toList);rw[<-i];have q:=aa i;clear i;go_enter func134,ntmps134
 go_wp2;go_loopg [5] a.size (λg r wr=>∃m k:Nat,wr=w.drewN m/\g=a.size - k/\k<=a.size/\k<=b.size/\r=i6 k/\yH (N=aF (a.data.toList.drop k) (b.data.toList.drop k)+k))
 .exact⟨0,0,rfl,rfl,by omega,by omega,rfl,q.o⟩
 obtain⟨m,k,rfl,j,A,B,rfl,f⟩:=hrel;have p:=aa j;clear j;by_cases l:k<a.size
 .by_cases o:k<b.size
  .have t:(k:Int)<(a.size:Int):=by omega
   have z:(k:Int)<(b.size:Int):=by omega
   by_cases c:a[k]=b[k]
   .have s:yH (N=aF (a.data.toList.drop (k+1)) (b.data.toList.drop (k+1))+(k+1)):=by
     show _=_;rw[f.o,Mt _ _ k (by simpa using l) (by simpa using o) (by simpa [ByteArray.getElem_eq_getElem_data] using c)];omega
    have x:(((a[k]).toNat:Int) == ((b[k]).toNat:Int))=true:=by rw[c];simp
    clear c;go_wp2;go_quiet (fail)
    go_wp2;go_roundg (a.size - (k+1))
    .exact⟨_,k+1,rfl,rfl,by omega,by omega,by go_num,s.o⟩
    have:=p.o;omega
   have d:yH (N=k):=by
    show _=_;rw[f.o,Ms _ _ k (by simpa using l) (by simpa using o) (by simpa [ByteArray.getElem_eq_getElem_data] using c)];omega
   have x:(((a[k]).toNat:Int) == ((b[k]).toNat:Int))=false:=by
    rw[Vd];intro h;exact c (UInt8.toNat_inj.1 (by omega))
   clear c;go_wp2;go_quiet (fail)
   go_wp2;go_ret;exact⟨by show Ending.returned (Value.int .i64 (k:Int))=_;rw[d.o],_,World.drewN_drewN ..⟩
  have d:yH (N=k):=by
   show _=_;rw[f.o,Mu _ _ k (by simp;omega)];omega
  have t:(k:Int)<(a.size:Int):=by omega
  have y:decide ((k:Int)<(b.size:Int))=false:=by simp;omega
  go_wp2;go_quiet (fail)
  go_wp2;go_ret;exact⟨by show Ending.returned (Value.int .i64 (k:Int))=_;rw[d.o],_,World.drewN_drewN ..⟩
 have d:yH (N=k):=by
  show _=_;rw[f.o,Mw _ _ k (by simp;omega)];omega
 have y:decide ((k:Int)<(a.size:Int))=false:=by simp;omega
 go_wp2;go_quiet (fail)
 go_wp2;go_ret;exact⟨by show Ending.returned (Value.int .i64 (k:Int))=_;rw[d.o],_,World.drewN_drewN ..⟩
def ES(s:yB)(hs:s.size<=4096)(w:World):yC 110 #[sV s] w λe w'=>e=rV (sV (ae (ch s.data.toList)))/\yW w w':=by
 obtain⟨i0,T,A1,A2,A3⟩:=Vp rX;have A0:=zZ 0 (2*(s.size:Int)) (by omega) (by omega) (by omega);have E:s.data.toList.length=s.size:=by simp
 have h:=aa E;have U:(2*(s.size:Int)).toNat=2*s.size:=by omega
 clear E;go_enter func110,ntmps110
 go_upto_region 2 with fail
 have a:=wF w w.heap.size (2*s.size) (Ug _) (by unfold maxLen;omega);have b:=(Un w.heap.size w).alloc (Ug _) (.cells (madeCells #[iV .u8 0] (2*s.size)) 5);generalize hW:w.alloc (.cells (madeCells #[iV .u8 0] (2*s.size)) 5)=W1 at*;obtain⟨g1,p⟩:=yX w.heap.size;obtain⟨x,o⟩:∃c,c=2*s.size:=⟨_,rfl⟩
 have L:yH (W1.ownsRow w.heap.size 5 1 (lV (qA g1) 0 x) 0 (b9 [])):=by rw[p,o];exact a
 have H:=aa b;rw[<-o,<-p];clear hW a b A0 U p o;go_wp2;go_loopg [3,4] s.size (λn v r wr=>∃j f cap:Nat,n=s.size - j/\j<=s.size/\r=i6 (j:Int)/\v=lV (qA f) (2*j) cap/\
  wr.ownsRow w.heap.size 5 1 (lV (qA f) (2*j) cap) (2*j) (b9 (ch (s.data.toList.take j)))/\yW w wr)
 .exact⟨0,g1,x,by omega,by omega,rfl,rfl,L.o,H.o⟩
 obtain⟨j,f,cap,B,hj,rfl,rfl,a,b⟩:=hrel;have J:=aa B;clear B;obtain⟨N,g⟩:=yX (2*j);have l:=aa g;rw[<-g];rw[<-g] at a;clear g;by_cases A8:j<s.size
 .have A6:=uJ s[j];have A5:=qK s[j];have O:yH (ch (s.data.toList.take (j+1))=ch (s.data.toList.take j)++[hi s[j],lo s[j]]):=by
   have Y:j<s.data.toList.length:=by have:=h.o;omega
   rw[Vb Y,xy];congr 1
  have t:=aa a;have d:=aa b;have A7:N<8192:=by have:=l.o;omega
  have A9:(j:Int)<(s.size:Int):=by omega
  clear a b;generalize hi s[j]=cA at*;generalize lo s[j]=cB at*;generalize hks:b9 (ch (s.data.toList.take j))=ks at*;have K:=aa hks;clear hks;go_wp2;go_region_law (refine step_append_lies _ rfl (.tmp 15) (.tmp 24) 143 rfl w.heap.size 5 i0 (iV .u8 0) 1 1 underlying143 T A1 A2 A3 rfl (by decide) (lV (qA f) N cap) N ks (by simp[Act.eval]) (t.o.drew.alloc _) ⟨wr.heap.size,0,none⟩ 2 2 [iV .u8 (cA.toNat:Int),iV .u8 (cB.toNat:Int)] (by simp[Act.eval]) rfl (zA _ _ _) (by intro u G;simp at G;rcases G with rfl|rfl<;>rfl) (by omega) (by unfold maxLen;omega) (by omega) (by have:=d.o.size;simp;omega) _ rfl ?_;intro g2 y m F C R Z)
  all_goals
   have z:yW w m:=(d.o.drew.alloc d.o.size _).grown C (by have:=d.o.size;simp;omega) (λk V=>(t.o.lt k V).1);have M:=aa F;have I:=aa z;clear F C R Z z;go_wp2;go_roundg (s.size - (j+1))
   case measure=>have:=J.o;omega
   case rel=>
    have Q:=l.o;refine⟨j+1,g2,y,rfl,by omega,by go_num,by rw[show 2*(j+1)=N+2 by omega],?_,I.o⟩;have e:b9 (ch (s.data.toList.take (j+1)))=ks++[iV .u8 (cA.toNat:Int),iV .u8 (cB.toNat:Int)]:=by
     rw[O.o,<-K.o];simp[b9]
    rw[e,show 2*(j+1)=N+2 by omega];exact M.o
 have d:=aa b;have A:ch (s.data.toList.take j)=ch s.data.toList:=by
  rw[U4 (by have:=h.o;omega)]
 have q:(ch s.data.toList).length=N:=by
  have W:=h.o;have Q:=l.o;rw[py,W];omega
 have S:=VA (P:=yP) wr 143 5 underlying143 underlying5 f 0 N cap ((ch s.data.toList).map (λc=>(c.toNat:Int))) (by
  rw[UM,q]) (λi D=>by
  have:=a.cellAt i (by rw[Nat.mul_one];exact D);rw[Vj,this,A];have X:i<(ch s.data.toList).length:=by rw[q];exact D
  simp[b9,List.getD,Uh X]) 9 underlying9
 rw[oN] at S;have A4:¬((j:Int)<(s.size:Int)):=by omega
 clear a b A q;go_wp2;go_ret;exact⟨rfl,d.o⟩
end Go.Proofs.YteaodagofkcgbaaGreatDoor
