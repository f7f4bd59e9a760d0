import Derived.Test.YtmafnmpeehmndaaGreatDoorA
open Go.Proofs.Tryz
open Go.Proofs.Tryz renaming prog→yP
open Go.Value renaming string→sV,pointer→pV,int→iV,slice→lV,bool→bV,tuple→tV,agg→gV
open Go.Ending renaming returned→rV
namespace Go.Proofs.YtmafnmpeehmndaaGreatDoor
open Go.RowKit
set_option maxRecDepth 100000
set_option maxHeartbeats 0
set_option linter.all false
def x8(d:Nat):Prop:=∀(w:World) (S:Nat->Prop) (v0 v1 v2:Value) (x:Tree),bg d w S [v0,v1,v2] x->
 yC 146 #[gV #[v0,v1,v2]] w fun e w'=>e=rV (tV #[sV (iE (bu d x)),bV (fH (bu d x))])/\yW w w'
def Cc(d:Nat):Prop:=∀(w:World) (S:Nat->Prop) (k:Value) (ks:List Tree) (a:List Value),ik w S k ks.length a->ks.length<140737488355329->(∀i,i<ks.length->bg d w S ((a.drop (3*i)).take 3) (ks.getD i (ak [])))->
 yC 156 #[k] w fun e w'=>e=rV (tV #[sV (iE (gZ (ks.map (bu d)).flatten)),bV (fH (gZ (ks.map (bu d)).flatten))])/\yW w w'
def Jg(w:World)(t:yB)(k:Value)(l:t.size<140737488355329):
 yC 146 #[.agg #[.bool false,.string t,k]] w fun e w'=>e=.returned (.tuple #[.string (iE (cL t.data.toList)),.bool (fH (cL t.data.toList))])/\yW w w':=by
 have b:t.data.toList.length=t.size:=by simp
 cases hb:fN t.data.toList with
 |true=>
  have e:cL t.data.toList=t.data.toList:=by unfold cL;rw[Uj hb]
  have a:fH t.data.toList=true:=by
   unfold fN at hb;simp at hb;unfold fH;rw[b];exact Uw (by omega)
  rw[e,rG _ a,gA,a];have c:yH (fN t.data.toList=true):=hb;clear hb e a b;go_enter func146,ntmps146
  go_wp2_with fail
  refine(xM t _).mono ?_;rw[c.o];rintro e w1 ⟨rfl,d⟩;subst d;go_wp2
  go_ret2
  exact⟨rfl,(Un _ _).alloc (Ug _) _⟩
 |false=>
  have e:cL t.data.toList=cV (fU false) t.size++t.data.toList:=by unfold cL;rw[Ui (by rw[hb];decide),b];rfl
  have a:=IC false t.data.toList;rw[b,<-e] at a;have c:yH (fN t.data.toList=false):=hb;have g:(if mK 128 t.data.toList then ae (cV 128 t.size++t.data.toList) else ByteArray.empty)=iE (cL t.data.toList):=by
   unfold iE;rw[<-a,e];rfl
  have j:yH ((if mK 128 t.data.toList then ae (cV 128 t.size++t.data.toList) else ByteArray.empty)=iE (cL t.data.toList)):=g;have i:yH (mK 128 t.data.toList=fH (cL t.data.toList)):=a;clear hb e a b g;go_enter func146,ntmps146
  go_wp2_with fail
  refine(xM t _).mono ?_;rw[c.o];rintro e w1 ⟨rfl,d⟩;subst d;go_wp2_with fail
  refine(Hj 128 t (by omega) l _).mono ?_;rw[j.o,i.o];rintro e w2 ⟨rfl,f⟩;have h:yH (yW w w2):=((Un _ _).alloc (Ug _) _).trans (f.mono (by simp));clear f;go_wp2
  go_ret2
  exact⟨rfl,h.o⟩
def Jh(d:Nat)(j:Cc d):x8 (d+1):=by
 intro w S v0 v1 v2 x p;rcases p with⟨t,k,a,rfl,o⟩|⟨t,k,ks,q,a,rfl,g,n,f⟩
 ·simp only[VD,and_true] at a;obtain⟨rfl,rfl,rfl⟩:=a;rw[ij];exact Jg w t _ o.1
 ·simp only[VD,and_true] at a;obtain⟨rfl,rfl,rfl⟩:=a;rw[kI];have m:=fun(w:World) (h:yW w w)=>j w
  clear m;go_enter func146,ntmps146
  go_wp2_with fail
  have b:yW w (w.alloc (.cells #[bV true,sV t,v2] 155)):=(Un _ _).alloc (Ug _) _;refine(j _ S v2 ks q (g.below b) n (fun i hi=>(f i hi).below b)).mono ?_;rintro e w1 ⟨rfl,c⟩;have l:=aa (b.trans (c.mono (by simp)));clear c b g f;go_wp2
  go_ret2
  exact⟨rfl,l.o⟩
def Jf:x8 0:=by
 intro w S v0 v1 v2 x ⟨t,k,a,c,b⟩;subst c;simp only[VD,and_true] at a;obtain⟨rfl,rfl,rfl⟩:=a;rw[ij];exact Jg w t _ b.1
def LZ(l):Lib.strCells (ae l)=b9 l:=by
 unfold Lib.strCells b9;simp[eU]
def OJ{w:World}{base e v n b}(h:w.ownsRow base e 1 v n b):∃a cap,v=lV a n cap/\(a=none->n=0):=by
 rcases h.2 with⟨rfl,rfl⟩|⟨g,cap,c,rfl,_⟩
 ·exact⟨none,0,rfl,fun _=>rfl⟩
 ·exact⟨_,cap,rfl,fun h=>by cases h⟩
def Sq{w:World}{base v n l}(h:w.ownsRow base 5 1 v n (b9 l)):(convert 143 9 v).run yP w=.ok (sV (ae l)) w:=by
 have b:l.length=n:=by have:=h.1;simpa [b9] using this
 rcases h.2 with⟨rfl,h0⟩|⟨g,cap,d,rfl,e⟩
 ·have:l=[]:=UH.1 (by omega);subst this;exact run_convert_bytes_nil (P:=yP) w 143 5 underlying143 underlying5 0 0 9 underlying9
 ·rw[<-oN];exact VA (P:=yP) w 143 5 underlying143 underlying5 g 0 n cap (l.map (fun c=>(c.toNat:Int))) (by rw[UM,b]) (fun i hi=>by
   have:=h.cellAt i (by rw[Nat.mul_one];exact hi);rw[Vj,this];have a:i<l.length:=by omega
   simp[b9,List.getD,Uh a]) 9 underlying9
def rE{w w1:World}{base e c v n d}(h:w.ownsRow base e c v n d)(b:yW w w1):w1.ownsRow base e c v n d:=by
 refine⟨h.1,?_⟩;rcases h.2 with h0|⟨g,cap,f,l,i,a,k⟩
 ·exact .inl h0
 ·refine .inr ⟨g,cap,f,l,i,?_,k⟩;have j:g<w.heap.size:=by
   rcases Nat.lt_or_ge g w.heap.size with h|h
   ·exact h
   ·rw[UF h] at a;cases a
  rw[b.block g j];exact a
def OM(w:World)(base:Nat):w.ownsRow base 5 1 (lV none 0 0) 0 (b9 []):=⟨rfl,.inl ⟨rfl,rfl⟩⟩
def Gi(d:Nat)(ih:x8 d):Cc d:=by
 intro w S k ks f V hb y;obtain⟨i0,B6,C0,C1,C2⟩:=Vp rX;obtain⟨D,X,z⟩:∃D X,k=lV D ks.length X:=by
  rcases V.pe with⟨h0,a,c,rfl⟩|⟨b,o,c,rfl,_⟩
  ·exact⟨a,c,by rw[h0]⟩
  ·exact⟨_,c,rfl⟩
 subst z;have HR:=aa V;have HK:=aa y;have HI:=aa ih;obtain⟨n,C⟩:=yX ks.length
 have G:=aa C;obtain⟨T,L⟩:=yX (gZ (ks.map (bu d)).flatten)
 have K:=aa L;rw[<-C,<-L];rw[<-C] at hb;clear V y ih C L;go_enter func156,ntmps156
 go_wp2
 go_loopg [4,5] n (fun g v r wr=>∃(i:Nat) (m:Nat) (a:Option Addr) (cap:Nat),g=n - i/\i<=n/\r=i6 i/\v=lV a m cap/\m<=4096/\wr.ownsRow w.heap.size 5 1 (lV a m cap) m (b9 (jq d ks i))/\yW w wr)
 case atStart=>exact⟨0,0,none,0,rfl,by omega,rfl,rfl,by omega,OM _ _,Un _ _⟩
 case round=>
  obtain⟨i,m,a,cap,hg,hi,rfl,rfl,hm,Q,A3⟩:=hrel;have HG:=aa hg;have HO:=aa Q;have p:=aa A3;have q:(jq d ks i).length=m:=by have:=Q.1;simpa [b9] using this
  have HM:=aa q;clear q;clear hg Q A3;by_cases A5:i<n
  ·have B:=A5;rw[G.o] at B;have W:=HR.o.below p.o;rcases W.pe with⟨h0,_⟩|⟨b,o,c,z,C4,x⟩
   ·omega
   have B7:D=some ⟨b,o,none⟩:=by cases z;rfl
   subst B7;have B9:3*i+2<f.length:=by rw[W.len];omega
   have g0:wr.cell? ⟨b,o+i*3,none⟩=some (f[3*i]'(by omega)):=by rw[<-Uh,<-x (3*i) (by omega),Nat.mul_comm]
   have g1:wr.cell? ⟨b,o+i*3+1,none⟩=some (f[3*i+1]'(by omega)):=by rw[<-Uh,<-x (3*i+1) (by omega),Nat.mul_comm,Nat.add_assoc]
   have g2:wr.cell? ⟨b,o+i*3+2,none⟩=some (f[3*i+2]'(by omega)):=by rw[<-Uh,<-x (3*i+2) (by omega),Nat.mul_comm,Nat.add_assoc]
   have O:=(HK.o i B).below p.o;have e3:(f.drop (3*i)).take 3=[f[3*i]'(by omega),f[3*i+1]'(by omega),f[3*i+2]'(by omega)]:=by
    apply VQ;intro j;rw[Vv];split
    ·rw[VE];match j with
     | 0=>simp[Uh (show 3*i<f.length by omega)]
     | 1=>simp[Uh (show 3*i+1<f.length by omega)]
     | 2=>simp[Uh (show 3*i+2<f.length by omega)]
     |j+3=>omega
    ·rw[U9 (by simp;omega)]
   rw[e3] at O;generalize f[3*i]'(by omega)=v0 at*;generalize f[3*i+1]'(by omega)=v1 at*;generalize f[3*i+2]'(by omega)=v2 at*;have A7:=aa O;clear O e3 B9 x W B z;have A:4096<(jq d ks (i+1)).length->fH T=false/\iE T=ByteArray.empty:=by
    intro h;have h1:=SB d ks (i+1);have h2:fH T=false:=by
     unfold fH;rw[K.o];unfold gZ;rw[Uq];exact Uv (by omega)
    exact⟨h2,by unfold iE;rw[h2];rfl⟩
   have Z:=aa A;have J:=aa (Sz d ks i (by rw[<-G.o];exact A5));clear A;generalize hc:bu d (ks.getD i (ak []))=c at*;go_wp2_with fail
   refine(HI.o _ S v0 v1 v2 _ A7.o).mono ?_;rw[hc];rintro e w1 ⟨rfl,E⟩;have t:=aa (p.o.trans (E.mono p.o.size));have A1:=aa (rE HO.o E);clear E hc g0 g1 g2;cases l:fH c with
   |false=>
    have hl:4096<c.length:=by unfold fH at l;simpa using l
    obtain⟨q1,q2⟩:=Z.o (by rw[J.o,Uq];omega);have H:=aa q1;have I:=aa q2;clear q1 q2 l;go_wp2
    go_ret2
    exact⟨by rw[H.o,I.o];rfl,t.o⟩
   |true=>
    have hl:c.length<=4096:=by unfold fH at l;simpa using l
    have B0:=aa (rG c l);rw[B0.o];clear l;have s:=aN c;go_upto_region 8 with fail
    go_wp2_with (at_builtin;refine Lib.wpList_append_own_string _ rfl (.tmp 24) (.tmp 25) 143 9 rfl w.heap.size 5 i0 underlying143 underlying9 B6 C0 C1 C2 (lV a m cap) m (b9 (jq d ks i)) rfl A1.o (ae c) rfl ?d1 ?d2 ?d3 ?d4)
    case d1=>rw[s];unfold maxLen;omega
    case d2=>rw[s];omega
    case d3=>exact t.o.size
    intro C3 w2 R A4 _;rw[LZ] at R;have U:w2.ownsRow w.heap.size 5 1 C3 (m+c.length) (b9 (jq d ks (i+1))):=by
     have e:b9 (jq d ks (i+1))=b9 (jq d ks i)++b9 c:=by rw[J.o];simp[b9]
     rw[e];exact R
    obtain⟨a2,A2,rfl,_⟩:=OJ U;have A9:=aa U;have u:yH (yW w w2):=t.o.grown A4 t.o.size (fun k y=>(A1.o.lt k y).1);have A8:yH ((jq d ks (i+1)).length=m+c.length):=by
     rw[J.o,Uq,HM.o];rfl
    clear R U A4;obtain⟨M,q⟩:=yX (m+c.length)
    rw[<-q];have A0:=aa q;clear q;by_cases A:4096<M
    ·have B8:decide ((4096:Int)<(M:Int))=true:=by simp;omega
     obtain⟨q1,q2⟩:=Z.o (by rw[A8.o,<-A0.o];exact A);have H:=aa q1;have I:=aa q2;clear q1 q2;go_wp2
     go_ret2
     exact⟨by rw[H.o,I.o];rfl,u.o⟩
    ·have B8:decide ((4096:Int)<(M:Int))=false:=by simp;omega
     go_wp2
     go_roundg (n - (i+1))
     case measure=>have:=HG.o;omega
     case rel=>exact⟨i+1,M,a2,A2,rfl,by omega,by go_num,rfl,by omega,by rw[A0.o];exact A9.o,u.o⟩
  ·have N:jq d ks i=(ks.map (bu d)).flatten:=SD d ks i (by rw[<-G.o];omega);have B5:=Sq HO.o;rw[N] at B5;have P:=HM.o;rw[N] at P;generalize hF:(ks.map (bu d)).flatten=F at*;have s:=aN F;have l:=IC true F;have ho:(if mK 192 (ae F).data.toList then ae (cV 192 (ae F).size++(ae F).data.toList) else ByteArray.empty)=iE T:=by
    rw[eU,s,K.o];unfold iE gZ;rw[<-(show fU true=192 from rfl),<-l]
   have B3:=aa ho;have A6:yH (mK 192 (ae F).data.toList=fH T):=by rw[eU,K.o];unfold gZ;exact l
   have B4:yH ((ae F).size<140737488355329):=by rw[s,P];exact(show m<140737488355329 by omega)
   clear N hF l ho P s;have B:¬((i:Int)<(n:Int)):=by omega
   go_wp2_with fail
   refine(Hj 192 (ae F) (by omega) B4.o _).mono ?_;rw[B3.o,A6.o];rintro e w2 ⟨rfl,Y⟩;have u:=aa (p.o.trans (Y.mono p.o.size));clear Y;go_wp2
   go_ret2
   exact⟨rfl,u.o⟩
def xI:∀d,x8 d/\Cc d
 | 0=>⟨Jf,Gi 0 Jf⟩
 |d+1=>⟨Jh d (xI d).2,Gi (d+1) (Jh d (xI d).2)⟩
def ff(x:Tree):Int:=if bN 6 x=true then(if fH (bu 6 x)=true then 0 else 1) else 8
def ft(x:Tree):yB:=if bN 6 x=true then iE (bu 6 x) else ByteArray.empty
def uH(w S v0 v1 v2)(x:Tree)(n:bg 6 w S [v0,v1,v2] x):
 yC 128 #[gV #[v0,v1,v2]] w fun e w'=>e=rV (tV #[sV (ft x),i6 (ff x)])/\yW w w':=by
 have g:yW w (w.alloc (.cells #[v0,v1,v2] 155)):=(Un _ _).alloc (Ug _) _;have y:=aa (n.below g);have j:=aa g;rcases lp n with⟨t,rfl,rfl,rfl,B⟩|⟨e,t,ks,A,b,rfl,rfl,rfl,r,z,q⟩
 ·have a:=nz 6 t.data.toList;have d:ft (ak t.data.toList)=iE (bu 6 (ak t.data.toList)):=by unfold ft;rw[Uj a]
  have b:ff (ak t.data.toList)=(if fH (bu 6 (ak t.data.toList))=true then 0 else 1):=by unfold ff;rw[Uj a]
  have m:=aa d;have l:=aa b;clear n g d b a;go_enter func128,ntmps128
  go_wp2_with fail
  refine((xI 6).1 _ S _ _ _ _ y.o).mono ?_;rintro e w1 ⟨rfl,h⟩;have k:=aa (j.o.trans (h.mono j.o.size));clear h;generalize bu 6 (ak t.data.toList)=c at*;cases hf:fH c with
  |true=>
   have f:=aa hf;clear hf;go_wp2
   go_ret2
   exact⟨by rw[m.o,l.o,f.o];rfl,k.o⟩
  |false=>
   have f:=aa hf;have p:yH (iE c=ByteArray.empty):=by unfold iE;rw[hf];rfl
   clear hf;go_wp2
   go_ret2
   exact⟨by rw[m.o,l.o,f.o,p.o];rfl,k.o⟩
 ·obtain rfl:e=5:=by omega
  have s:=Cu 5 _ S v2 ks A 1 (by omega) (by omega) (r.below g) z (fun i hi=>(q i hi).below g);have v:=aa s;cases a:bN 6 (bJ ks) with
  |false=>
   have d:ft (bJ ks)=ByteArray.empty:=by unfold ft;rw[a];rfl
   have b:ff (bJ ks)=8:=by unfold ff;rw[a];rfl
   rw[d,b];have o:=aa a;clear n g d b a r q s;go_enter func128,ntmps128
   go_wp2_with fail
   refine v.m ?_;rw[o.o];rintro e w1 ⟨rfl,u⟩;subst u;go_wp2
   go_ret2
   exact⟨rfl,j.o⟩
  |true=>
   have d:ft (bJ ks)=iE (bu 6 (bJ ks)):=by unfold ft;rw[Uj a]
   have b:ff (bJ ks)=(if fH (bu 6 (bJ ks))=true then 0 else 1):=by unfold ff;rw[Uj a]
   have m:=aa d;have l:=aa b;have o:=aa a;clear n g d b a r q s;go_enter func128,ntmps128
   go_wp2_with fail
   refine v.m ?_;rw[o.o];rintro e w1 ⟨rfl,u⟩;subst u;go_wp2_with fail
   refine((xI 6).1 _ S _ _ _ _ y.o).mono ?_;rintro e w1 ⟨rfl,h⟩;have k:=aa (j.o.trans (h.mono j.o.size));clear h;generalize bu 6 (bJ ks)=c at*;cases hf:fH c with
   |true=>
    have f:=aa hf;clear hf;go_wp2
    go_ret2
    exact⟨by rw[m.o,l.o,f.o];rfl,k.o⟩
   |false=>
    have f:=aa hf;have p:yH (iE c=ByteArray.empty):=by unfold iE;rw[hf];rfl
    clear hf;go_wp2
    go_ret2
    exact⟨by rw[m.o,l.o,f.o,p.o];rfl,k.o⟩
def RL:Except Nat (Bool×Nat×Nat)->Value
 | .error _=>nN false 0 0
 | .ok (l,f,n)=>nN l f (f+n)
def RJ:Except Nat (Bool×Nat×Nat)->Nat
 | .error e=>e
 | .ok _=>0
def sA{W w1:World}(a:yW W w1):(∀b o,b<W.heap.size->w1.cell? ⟨b,o,none⟩=W.cell? ⟨b,o,none⟩)/\(∀b o,b<W.heap.size->w1.frozen? ⟨b,o,none⟩=W.frozen? ⟨b,o,none⟩):=
 ⟨fun b o h=>a.cell (p:=⟨b,o,none⟩) h,fun b o h=>a.frozen (p:=⟨b,o,none⟩) h⟩
def iB{w w1:World}{x y z T}(a:Below (w.alloc (.cells #[x,y,z] T)).heap.size (w.alloc (.cells #[x,y,z] T)) w1):
 w1.cell? ⟨w.heap.size,0,none⟩=some x/\w1.cell? ⟨w.heap.size,1,none⟩=some y/\w1.cell? ⟨w.heap.size,2,none⟩=some z/\w1.frozen? ⟨w.heap.size,0,none⟩=false/\w1.frozen? ⟨w.heap.size,1,none⟩=false/\w1.frozen? ⟨w.heap.size,2,none⟩=false:=by
 obtain⟨h1,h2⟩:=sA a;refine⟨?_,?_,?_,?_,?_,?_⟩
 ·rw[h1 _ _ (by simp)];simp
 ·rw[h1 _ _ (by simp)];simp
 ·rw[h1 _ _ (by simp)];simp
 ·rw[h2 _ _ (by simp)];simp
 ·rw[h2 _ _ (by simp)];simp
 ·rw[h2 _ _ (by simp)];simp
def R7(s:yB):(s.extract 1 s.size).data.toList=s.data.toList.drop 1:=by
 rw[Lib.extract_data,U4 (by simp)]
def Hl(s:yL)(h:s.length=0):fE s=.error 5:=by unfold fE;rw[Uj h]
def Hn(s:yL)(h:s.length≠0)(c:Nat)(a:(s.getD 0 0).toNat=c)(h1:c<128):fE s=.ok (false,0,1):=by
 unfold fE;rw[Ui h,a,Uj h1]
def Hk(s:yL)(h:s.length≠0)(c base:Nat)(b:(s.getD 0 0).toNat=c)(h1:¬c<128)(a:base=if 192<=c then 192 else 128)(h2:c - base<=55):fE s=lJ s (decide (192<=c)) 1 (c - base):=by
 unfold fE;rw[Ui h,b,Ui h1,<-a,Uj h2]
def Ho(s:yL)(h:s.length≠0)(c base:Nat)(e:(s.getD 0 0).toNat=c)(h1:¬c<128)(d:base=if 192<=c then 192 else 128)(h2:¬c - base<=55):
 fE s=if gL (s.drop 1) (c - base - 55)=0 then lJ s (decide (192<=c)) (1+(c - base) - 55) (mC (s.drop 1) (c - base - 55)) else .error (gL (s.drop 1) (c - base - 55)):=by
 have e1:(s.drop 1).getD 0 0=s.getD 1 0:=by rw[Up,VE,Up]
 have a:gL (s.drop 1) (c - base - 55)=if s.length - 1<c - base - 55 then 5 else if(s.getD 1 0).toNat=0\/be ((s.drop 1).take (c - base - 55))<=55 then 7 else 0:=by
  unfold gL;rw[Uu,e1]
 have b:mC (s.drop 1) (c - base - 55)=if gL (s.drop 1) (c - base - 55)=0 then be ((s.drop 1).take (c - base - 55)) else 0:=rfl;unfold fE;rw[Ui h,e,Ui h1,<-d,Ui h2];by_cases h3:s.length - 1<c - base - 55
 ·rw[Uj h3];rw[Uj h3] at a;rw[a];rfl
 ·rw[Ui h3];rw[Ui h3] at a;by_cases h4:(s.getD 1 0).toNat=0\/be ((s.drop 1).take (c - base - 55))<=55
  ·rw[Uj h4];rw[Uj h4] at a;rw[a];rfl
  ·rw[Ui h4];rw[Ui h4] at a;rw[b,a,Uj rfl,Uj rfl]
def RG(s:yB)(hs:s.size<=4096)(w:World):
 yC 142 #[sV s] w fun e w'=>e=rV (tV #[RL (fE s.data.toList),i6 (RJ (fE s.data.toList))])/\yW w w':=by
 have d:s.data.toList.length=s.size:=by simp
 by_cases h0:s.size=0
 ·rw[Hl _ (by rw[d];exact h0)];have G:((s.size:Int) == 0)=true:=beq_iff_eq.2 (by omega);clear d h0;go_enter func142,ntmps142
  go_wp2
  exact UB (v:=tV #[gV #[bV false,i6 0,i6 0],i6 5]) (by simp[results,results142,go_sem]) rfl ⟨rfl,(Un _ _).alloc (Ug _) _⟩
 have G:((s.size:Int) == 0)=false:=Vd.2 (by omega);have C:0<s.size:=by omega
 have i:s.data.toList.length≠0:=by rw[d];exact h0
 obtain⟨c,F⟩:∃c:Nat,(s[0]).toNat=c:=⟨_,rfl⟩
 have Q:c<256:=by rw[<-F];exact(s[0]).toNat_lt
 have g:(s.data.toList.getD 0 0).toNat=c:=by rw[Up,Uh (by rw[d];exact C)];exact F
 by_cases h1:c<128
 ·rw[Hn _ i c g h1];have H:decide ((c:Int)<128)=true:=by simp;omega
  clear d i g;go_enter func142,ntmps142
  go_wp2
  exact UB (v:=tV #[gV #[bV false,i6 0,i6 1],i6 0]) (by simp[results,results142,go_sem]) rfl ⟨rfl,(Un _ _).alloc (Ug _) _⟩
 have H:decide ((c:Int)<128)=false:=by simp;omega
 have N:(decide ((192:Int)<=(c:Int))=true/\192=(if 192<=c then 192 else 128)/\decide (192<=c)=true/\∃n:Nat,n=c - 192/\(c:Int) - 192=(n:Int)/\n<=63)\/(decide ((192:Int)<=(c:Int))=false/\128=(if 192<=c then 192 else 128)/\decide (192<=c)=false/\∃n:Nat,n=c - 128/\(c:Int) - 128=(n:Int)/\n<=63):=by
  by_cases h2:192<=c
  ·exact Or.inl ⟨by simp;omega,(Uj h2).symm,Uw h2,_,rfl,by omega,by omega⟩
  ·exact Or.inr ⟨by simp;omega,(Ui h2).symm,Uv h2,_,rfl,by omega,by omega⟩
 rcases N with⟨I,j,k,n,l,L,K⟩|⟨I,j,k,n,l,L,K⟩;all_goals
  have S:IntKind.u64.wrap (n:Int)=(n:Int):=by rw[IntKind.wrap_u64];omega
  by_cases h55:n<=55
  ·have J:decide ((n:Int)<=55)=true:=by simp;omega
   have a:=Hk s.data.toList i c _ g h1 j (by omega);rw[k,<-l] at a;unfold lJ at a;rw[d] at a;by_cases f:s.size - 1<n
   ·rw[Uj f] at a;rw[a];have o:=aa f;clear d i g a j k l f;go_enter func142,ntmps142
    go_wp2_with fail
    refine(DH s _ 1 n hs C o.o _).mono ?_;rintro e w1 ⟨rfl,b⟩;obtain⟨k0,k1,k2,f0,f1,f2⟩:=iB b;have m:=aa (((Un _ _).alloc (Ug _) _).trans (b.mono (by simp)));clear b;unfold nN;go_wp2
    exact UB (v:=tV #[gV #[bV false,i6 0,i6 0],i6 5]) (by simp[results,results142,go_sem,k0,k1,k2]) rfl ⟨rfl,((m.o.setCell (Ug _) _).setCell (Ug _) _).setCell (Ug _) _⟩
   ·rw[Ui f] at a;rw[a];have o:=aa f;clear d i g a j k l f;go_enter func142,ntmps142
    go_wp2_with fail
    refine(DG s _ 1 n hs C o.o _).mono ?_;rintro e w1 ⟨rfl,b⟩;obtain⟨k0,k1,k2,f0,f1,f2⟩:=iB b;have m:=aa (((Un _ _).alloc (Ug _) _).trans (b.mono (by simp)));clear b;unfold nN;go_wp2
    exact UB (v:=tV #[gV #[bV _,i6 ((1:Nat):Int),i6 ((1+n:Nat):Int)],i6 0]) (by simp[results,results142,go_sem,k0,k1,k2]) rfl ⟨rfl,((m.o.setCell (Ug _) _).setCell (Ug _) _).setCell (Ug _) _⟩
  ·have J:decide ((n:Int)<=55)=false:=by simp;omega
   obtain⟨q,z⟩:=yX (n - 55)
   have T:(n:Int) - 55=(q:Int):=by omega
   have M:1<=q:=by omega
   have O:q<=8:=by omega
   have R:1+(n:Int) - 55=((1+q:Nat):Int):=by omega
   have a:=Ho s.data.toList i c _ g h1 j (by omega);rw[k,<-l,<-z,show 1+n - 55=1+q by omega] at a;have u:(s.extract 1 s.size).size<=4096:=by simp only[ByteArray.size_extract];omega
   have p:=Qm (s.extract 1 s.size) q u M O;rw[R7] at p;have B:=aa p;have x:gL (s.data.toList.drop 1) q=0->1+q<=s.size:=by
    intro t;unfold gL at t;rw[Uu,d] at t;by_cases h:s.size - 1<q
    ·rw[Uj h] at t;cases t
    ·omega
   generalize gL (s.data.toList.drop 1) q=E at*;generalize mC (s.data.toList.drop 1) q=V at*;by_cases D:E=0
   ·subst D;rw[Uj rfl] at a;unfold lJ at a;rw[d] at a;have y:=x rfl;by_cases f:s.size - (1+q)<V
    ·rw[Uj f] at a;rw[a];have o:=aa f;have A:=aa y;clear d i g a j k l f p z x y u;go_enter func142,ntmps142
     go_wp2_with fail
     refine(B.o _).mono ?_;rintro e w0 ⟨rfl,r⟩;subst r;go_wp2_with fail
     refine(DH s _ (1+q) V hs A.o o.o _).mono ?_;rintro e w1 ⟨rfl,b⟩;obtain⟨k0,k1,k2,f0,f1,f2⟩:=iB b;have m:=aa (((Un _ _).alloc (Ug _) _).trans (b.mono (by simp)));clear b;unfold nN;go_wp2
     exact UB (v:=tV #[gV #[bV false,i6 0,i6 0],i6 5]) (by simp[results,results142,go_sem,k0,k1,k2]) rfl ⟨rfl,((m.o.setCell (Ug _) _).setCell (Ug _) _).setCell (Ug _) _⟩
    ·rw[Ui f] at a;rw[a];have o:=aa f;have A:=aa y;clear d i g a j k l f p z x y u;go_enter func142,ntmps142
     go_wp2_with fail
     refine(B.o _).mono ?_;rintro e w0 ⟨rfl,r⟩;subst r;go_wp2_with fail
     refine(DG s _ (1+q) V hs A.o o.o _).mono ?_;rintro e w1 ⟨rfl,b⟩;obtain⟨k0,k1,k2,f0,f1,f2⟩:=iB b;have m:=aa (((Un _ _).alloc (Ug _) _).trans (b.mono (by simp)));clear b;unfold nN;go_wp2
     exact UB (v:=tV #[gV #[bV _,i6 ((1+q:Nat):Int),i6 ((1+q+V:Nat):Int)],i6 0]) (by simp[results,results142,go_sem,k0,k1,k2]) rfl ⟨rfl,((m.o.setCell (Ug _) _).setCell (Ug _) _).setCell (Ug _) _⟩
   ·rw[Ui D] at a;rw[a];have P:((E:Int) != 0)=true:=by simp;omega
    clear d i g a j k l p z x u;go_enter func142,ntmps142
    go_wp2_with fail
    refine(B.o _).mono ?_;rintro e w0 ⟨rfl,r⟩;subst r;go_wp2
    exact UB (v:=tV #[gV #[bV false,i6 0,i6 0],i6 (E:Int)]) (by simp[results,results142,go_sem]) rfl ⟨rfl,(Un _ _).alloc (Ug _) _⟩
def T6(d:Nat)(w:World)(r:Except Nat (Tree×Nat))(e:Ending)(w':World):Prop:=
 match r with
 | .error c=>e=rV (tV #[gV #[bV false,sV ByteArray.empty,lV none 0 0],iV .i64 0,iV .i64 c])
 | .ok (x,u)=>∃l t a m c,e=rV (tV #[gV #[bV l,sV t,lV a m c],iV .i64 u,iV .i64 0])/\bg d w' (fun b=>w.heap.size<=b) [bV l,sV t,lV a m c] x
def xX(d:Nat):Prop:=∀(w:World) (s:yB) (a:Nat),s.size<=4096->a+d=7->
 yC 127 #[sV s,iV .i64 a] w fun e w'=>T6 d w (dr d s.data.toList) e w'/\yW w w'
def Uf(d:Nat)(w:World)(r:Except Nat (List Tree))(e:Ending)(w':World):Prop:=
 match r with
 | .error c=>e=rV (tV #[lV none 0 0,iV .i64 c])/\c≠0
 | .ok ks=>∃k xs,e=rV (tV #[k,iV .i64 0])/\ik w' (fun b=>w.heap.size<=b) k ks.length xs/\ks.length<=64/\∀i,i<ks.length->bg d w' (fun b=>w.heap.size<=b) ((xs.drop (3*i)).take 3) (ks.getD i (ak []))
def BO(d:Nat):Prop:=∀(w:World) (s:yB) (a:Nat),s.size<=4096->a+d=7->
 yC 144 #[sV s,iV .i64 a] w fun e w'=>Uf d w (eR (dr d) 64 s.data.toList) e w'/\yW w w'
def DF(s)(l:Bool)(f n c:Nat)(h:lJ s l f n=.error c):c=5:=by
 unfold lJ at h;by_cases h1:s.length - f<n
 ·rw[Uj h1] at h;cases h;rfl
 ·rw[Ui h1] at h;cases h
def AM(s)(c:Nat)(h:fE s=.error c):c=5\/c=7:=by
 by_cases h0:s.length=0
 ·rw[Hl s h0] at h;cases h;exact .inl rfl
 by_cases h1:(s.getD 0 0).toNat<128
 ·rw[Hn s h0 _ rfl h1] at h;cases h
 by_cases h2:(s.getD 0 0).toNat - (if 192<=(s.getD 0 0).toNat then 192 else 128)<=55
 ·rw[Hk s h0 _ _ rfl h1 rfl h2] at h;exact .inl (DF _ _ _ _ _ h)
 rw[Ho s h0 _ _ rfl h1 rfl h2] at h;generalize (s.getD 0 0).toNat - (if 192<=(s.getD 0 0).toNat then 192 else 128) - 55=q at h;by_cases h3:gL (s.drop 1) q=0
 ·rw[Uj h3] at h;exact .inl (DF _ _ _ _ _ h)
 ·rw[Ui h3] at h;cases h
  unfold gL at h3⊢;by_cases h4:(s.drop 1).length<q
  ·rw[Uj h4];exact .inl rfl
  ·rw[Ui h4] at h3⊢;by_cases h5:((s.drop 1).getD 0 0).toNat=0\/be ((s.drop 1).take q)<=55
   ·rw[Uj h5];exact .inr rfl
   ·rw[Ui h5] at h3;exact absurd rfl h3
def yD(d:Nat)(s)(c:Nat)(h:fE s=.error c):dr d s=.error c:=by unfold dr;rw[h]
def yE(d:Nat)(s)(f n:Nat)(h:fE s=.ok (false,f,n))(b:0<f)(a:fN ((s.drop f).take n)=true):dr d s=.error 7:=by
 unfold dr;rw[h];simp only;rw[Uj trivial,Uj ⟨b,a⟩]
def yA(d:Nat)(s)(f n:Nat)(h:fE s=.ok (false,f,n))(a:¬(0<f/\fN ((s.drop f).take n)=true)):dr d s=.ok (ak ((s.drop f).take n),f+n):=by
 unfold dr;rw[h];simp only;rw[Uj trivial,Ui a]
def Dh(s)(f n:Nat)(h:fE s=.ok (true,f,n)):dr 0 s=.error 8:=by
 unfold dr;rw[h];simp
def Dg(d:Nat)(s)(f n c:Nat)(h:fE s=.ok (true,f,n))(a:eR (dr d) 64 ((s.drop f).take n)=.error c):dr (d+1) s=.error c:=by
 conv=>lhs;unfold dr
 rw[h];simp only[Bool.true_eq_false,UT];rw[a]
def Df(d:Nat)(s)(f n:Nat)(ks:List Tree)(h:fE s=.ok (true,f,n))(a:eR (dr d) 64 ((s.drop f).take n)=.ok ks):dr (d+1) s=.ok (bJ ks,f+n):=by
 conv=>lhs;unfold dr
 rw[h];simp only[Bool.true_eq_false,UT];rw[a]
def Sn(s:yB)(f t:Nat):(s.extract f t).data.toList=(s.data.toList.drop f).take (t - f):=Lib.extract_data s f t
def zi{w w1 w2:World}{x y z p q r:Value}{T:TypeId}(b:w.heap.size<w1.heap.size)(k0:w1.cell? ⟨w.heap.size,0,none⟩=some x)(k1:w1.cell? ⟨w.heap.size,1,none⟩=some y)(k2:w1.cell? ⟨w.heap.size,2,none⟩=some z)
 (f0:w1.frozen? ⟨w.heap.size,0,none⟩=false) (f1:w1.frozen? ⟨w.heap.size,1,none⟩=false) (f2:w1.frozen? ⟨w.heap.size,2,none⟩=false)
 (c:Below (w1.alloc (.cells #[p,q,r] T)).heap.size (w1.alloc (.cells #[p,q,r] T)) w2):
 w2.cell? ⟨w.heap.size,0,none⟩=some x/\w2.cell? ⟨w.heap.size,1,none⟩=some y/\w2.cell? ⟨w.heap.size,2,none⟩=some z/\w2.frozen? ⟨w.heap.size,0,none⟩=false/\w2.frozen? ⟨w.heap.size,1,none⟩=false/\w2.frozen? ⟨w.heap.size,2,none⟩=false/\w2.cell? ⟨w1.heap.size,2,none⟩=some r:=by
 obtain⟨h1,h2⟩:=sA c;have a:w.heap.size<(w1.alloc (.cells #[p,q,r] T)).heap.size:=by simp;omega
 refine⟨?_,?_,?_,?_,?_,?_,?_⟩
 ·rw[h1 _ _ a,World.cell?_alloc_lt _ _ _ b];exact k0
 ·rw[h1 _ _ a,World.cell?_alloc_lt _ _ _ b];exact k1
 ·rw[h1 _ _ a,World.cell?_alloc_lt _ _ _ b];exact k2
 ·rw[h2 _ _ a,World.frozen?_alloc_past _ _ _ b];exact f0
 ·rw[h2 _ _ a,World.frozen?_alloc_past _ _ _ b];exact f1
 ·rw[h2 _ _ a,World.frozen?_alloc_past _ _ _ b];exact f2
 ·rw[h1 _ _ (by simp)];simp
def sy{n w w1}(h:Below n w w1)(a b c):Below n w (((w1.setCell ⟨n,0,none⟩ a).setCell ⟨n,1,none⟩ b).setCell ⟨n,2,none⟩ c):=
 ((h.setCell (Ug _) _).setCell (Ug _) _).setCell (Ug _) _
def oB{n w w1}(h:Below n w w1)(d:n<w1.heap.size)(a b c)(o:Obj):Below n w ((((w1.setCell ⟨n,0,none⟩ a).setCell ⟨n,1,none⟩ b).setCell ⟨n,2,none⟩ c).alloc o):=
 (sy h a b c).alloc (by simp[World.setCell];omega) o
def zl(d:Nat)(I:∀e,d=e+1->BO e):xX d:=by
 intro w s J hs B7;have z:s.data.toList.length=s.size:=by simp
 have x:=fun w=>RG s hs w
 cases hh:fE s.data.toList with
 |error c=>
  rw[yD d _ c hh];have A2:=AM _ _ hh;rw[hh] at x;have p:yH (∀w,yC 142 #[sV s] w fun e w'=>e=rV (tV #[gV #[bV false,i6 0,i6 0],i6 c])/\yW w w'):=x;have B0:((c:Int) != 0)=true:=by simp;omega
  clear x hh z A2;go_enter func127,ntmps127
  go_wp2_with fail
  refine(p.o _).mono ?_;rintro e w1 ⟨rfl,g⟩;obtain⟨k0,k1,k2,f0,f1,f2⟩:=iB g;have q:yH (yW w w1):=((Un _ _).alloc (Ug _) _).trans (g.mono (by simp));have m:w.heap.size<w1.heap.size:=by have:=g.size;simp at this;omega
  clear g;go_wp2
  exact UB (v:=tV #[gV #[bV false,sV ⟨#[]⟩,lV none 0 0],i6 0,i6 (c:Int)]) (by simp[results,results127,go_sem,k0,k1,k2,m]) rfl ⟨rfl,oB q.o m _ _ _ _⟩
 |ok lfn=>
  obtain⟨l,f,n⟩:=lfn;obtain⟨H,G⟩:=AL _ l f n hh;have A3:f+n<=s.size:=by
   rcases G with⟨_,rfl,rfl,_⟩|⟨_,h,_⟩
   ·rw[z] at H;omega
   ·rw[z] at h;exact h
  rw[hh] at x;have p:yH (∀w,yC 142 #[sV s] w fun e w'=>e=rV (tV #[gV #[bV l,i6 f,i6 ((f+n:Nat):Int)],i6 0])/\yW w w'):=x;have u:(s.extract f (f+n)).data.toList=(s.data.toList.drop f).take n:=by rw[Sn,Nat.add_sub_cancel_left]
  have B:(s.extract f (f+n)).size=n:=by simp only[ByteArray.size_extract];omega
  have A8:yH ((s.extract f (f+n)).data.toList=(s.data.toList.drop f).take n):=u;obtain⟨t,j⟩:=yX (f+n)
  rw[<-j] at A3;have B6:f<=t:=by omega
  have P:yH (t=f+n):=j;cases l with
  |false=>
   by_cases r:0<f/\fN ((s.data.toList.drop f).take n)=true
   ·rw[yE d _ f n hh r.1 r.2];have Y:(0:Int)<(f:Int):=by omega
    have F:=fun w=>xM (s.extract f t) w
    rw[j,u,r.2] at F;have O:yH (∀w,yC 143 #[sV (s.extract f t)] w fun e w'=>e=rV (bV true)/\w'=w):=by rw[j];exact F
    clear x hh z H G r F u B I;rw[<-j] at p;clear j;go_enter func127,ntmps127
    go_wp2_with fail
    refine(p.o _).mono ?_;rintro e w1 ⟨rfl,g⟩;obtain⟨k0,k1,k2,f0,f1,f2⟩:=iB g;have q:yH (yW w w1):=((Un _ _).alloc (Ug _) _).trans (g.mono (by simp));have m:w.heap.size<w1.heap.size:=by have:=g.size;simp at this;omega
    clear g;go_wp2_with fail
    refine(O.o _).mono ?_;rintro e w2 ⟨rfl,T⟩;subst T;go_wp2
    exact UB (v:=tV #[gV #[bV false,sV ⟨#[]⟩,lV none 0 0],i6 0,i6 7]) (by simp[results,results127,go_sem,k0,k1,k2,m]) rfl ⟨rfl,oB q.o m _ _ _ _⟩
   ·rw[yA d _ f n hh r];have U:yH (∀W:World,bg d W (fun b=>w.heap.size<=b) [bV false,sV (s.extract f t),lV none 0 0] (ak ((s.data.toList.drop f).take n))):=by
     intro W;have:=nw d W (fun b=>w.heap.size<=b) (s.extract f t) (lV none 0 0) (by rw[j,B];omega);rw[j,u,<-j] at this;exact this
    by_cases Y:f=0
    ·subst Y;rw[<-j] at p;clear x hh z H G r u B I j;go_enter func127,ntmps127
     go_wp2_with fail
     refine(p.o _).mono ?_;rintro e w1 ⟨rfl,g⟩;obtain⟨k0,k1,k2,f0,f1,f2⟩:=iB g;have q:yH (yW w w1):=((Un _ _).alloc (Ug _) _).trans (g.mono (by simp));have m:w.heap.size<w1.heap.size:=by have:=g.size;simp at this;omega
     clear g;go_wp2
     go_region
     all_goals go_wp2
     all_goals exact UB (v:=tV #[gV #[bV false,sV (s.extract 0 t),lV none 0 0],i6 (t:Int),i6 0]) (by simp[results,results127,go_sem,k0,k1,k2,m]) rfl ⟨⟨false,s.extract 0 t,none,0,0,by rw[<-P.o],U.o _⟩,(oB q.o m _ _ _ _).drew⟩
    ·have X:fN ((s.data.toList.drop f).take n)=false:=by
      cases h:fN ((s.data.toList.drop f).take n) with
      |false=>rfl
      |true=>exact absurd ⟨by omega,h⟩ r
     have B5:(0:Int)<(f:Int):=by omega
     have F:=fun w=>xM (s.extract f t) w
     rw[j,u,X] at F;have O:yH (∀w,yC 143 #[sV (s.extract f t)] w fun e w'=>e=rV (bV false)/\w'=w):=by rw[j];exact F
     rw[<-j] at p;clear x hh z H G r u B I j F X;go_enter func127,ntmps127
     go_wp2_with fail
     refine(p.o _).mono ?_;rintro e w1 ⟨rfl,g⟩;obtain⟨k0,k1,k2,f0,f1,f2⟩:=iB g;have q:yH (yW w w1):=((Un _ _).alloc (Ug _) _).trans (g.mono (by simp));have m:w.heap.size<w1.heap.size:=by have:=g.size;simp at this;omega
     clear g;go_wp2_with fail
     refine(O.o _).mono ?_;rintro e w2 ⟨rfl,T⟩;subst T;go_wp2
     go_region
     all_goals go_wp2
     all_goals exact UB (v:=tV #[gV #[bV false,sV (s.extract f t),lV none 0 0],i6 (t:Int),i6 0]) (by simp[results,results127,go_sem,k0,k1,k2,m]) rfl ⟨⟨false,s.extract f t,none,0,0,by rw[<-P.o],U.o _⟩,(oB q.o m _ _ _ _).drew⟩
  |true=>
   cases d with
   |zero=>
    rw[Dh _ f n hh];have A5:(6:Int)<(J:Int):=by omega
    rw[<-j] at p;clear x hh z H G u B I j;go_enter func127,ntmps127
    go_wp2_with fail
    refine(p.o _).mono ?_;rintro e w1 ⟨rfl,g⟩;obtain⟨k0,k1,k2,f0,f1,f2⟩:=iB g;have q:yH (yW w w1):=((Un _ _).alloc (Ug _) _).trans (g.mono (by simp));have m:w.heap.size<w1.heap.size:=by have:=g.size;simp at this;omega
    clear g;go_wp2
    exact UB (v:=tV #[gV #[bV false,sV ⟨#[]⟩,lV none 0 0],i6 0,i6 8]) (by simp[results,results127,go_sem,k0,k1,k2,m]) rfl ⟨rfl,oB q.o m _ _ _ _⟩
   |succ d=>
    have A5:¬((6:Int)<(J:Int)):=by omega
    have E:=fun w=>I d rfl w (s.extract f t) (J+1) (by rw[j,B];omega) (by omega)
    have Q:((J+1:Nat):Int)=(J:Int)+1:=by omega
    rw[j,u,<-j,Q] at E;cases hk:eR (dr d) 64 ((s.data.toList.drop f).take n) with
    |error c=>
     rw[Dg d _ f n c hh hk];rw[hk] at E;have M:yH (∀w:World,yC 144 #[sV (s.extract f t),i6 ((J:Int)+1)] w fun e w'=>Uf d w (.error c) e w'/\yW w w'):=E;rw[<-j] at p;clear x hh z H G u B I j E hk Q;go_enter func127,ntmps127
     go_wp2_with fail
     refine(p.o _).mono ?_;rintro e w1 ⟨rfl,g⟩;obtain⟨k0,k1,k2,f0,f1,f2⟩:=iB g;have q:yH (yW w w1):=((Un _ _).alloc (Ug _) _).trans (g.mono (by simp));have m:w.heap.size<w1.heap.size:=by have:=g.size;simp at this;omega
     clear g;go_wp2_with fail
     refine(M.o _).mono ?_;rintro e w2 ⟨⟨rfl,B3⟩,y⟩;have B4:((c:Int) != 0)=true:=by simp;omega
     obtain⟨m0,m1,m2,q0,q1,q2,a2⟩:=zi m k0 k1 k2 f0 f1 f2 y;have N:yH (yW w w2):=(q.o.alloc (Nat.le_of_lt m) _).trans (y.mono (by simp;omega));have A7:w.heap.size<w2.heap.size:=by have:=y.size;simp at this;omega
     clear y;go_wp2
     exact UB (v:=tV #[gV #[bV false,sV ⟨#[]⟩,lV none 0 0],i6 0,i6 (c:Int)]) (by simp[results,results127,go_sem,m0,m1,m2]) rfl ⟨rfl,sy N.o _ _ _⟩
    |ok ks=>
     rw[Df d _ f n ks hh hk];rw[hk] at E;have M:yH (∀w:World,yC 144 #[sV (s.extract f t),i6 ((J:Int)+1)] w fun e w'=>Uf d w (.ok ks) e w'/\yW w w'):=E;rw[<-j] at p;clear x hh z H G u B I j E hk Q;go_enter func127,ntmps127
     go_wp2_with fail
     refine(p.o _).mono ?_;rintro e w1 ⟨rfl,g⟩;obtain⟨k0,k1,k2,f0,f1,f2⟩:=iB g;have q:yH (yW w w1):=((Un _ _).alloc (Ug _) _).trans (g.mono (by simp));have m:w.heap.size<w1.heap.size:=by have:=g.size;simp at this;omega
     clear g;go_wp2_with fail
     refine(M.o _).mono ?_;rintro e w2 ⟨⟨k,xs,rfl,R,h64,Z⟩,y⟩;obtain⟨C,D,A4⟩:∃C D,k=lV C ks.length D:=by
      rcases R.pe with⟨h0,a,c,rfl⟩|⟨b,o,c,rfl,_⟩
      ·exact⟨a,c,by rw[h0]⟩
      ·exact⟨_,c,rfl⟩
     subst A4;obtain⟨K,L⟩:=yX ks.length
     have A9:yH (K=ks.length):=L;obtain⟨m0,m1,m2,q0,q1,q2,a2⟩:=zi m k0 k1 k2 f0 f1 f2 y;have N:yH (yW w w2):=(q.o.alloc (Nat.le_of_lt m) _).trans (y.mono (by simp;omega));have A7:w.heap.size<w2.heap.size:=by have:=y.size;simp at this;omega
     have A0:∀(A:World),(∀b,b≠w.heap.size->A.heap[b]? =w2.heap[b]?)->bg (d+1) A (fun b=>w.heap.size<=b) [bV true,sV ⟨#[]⟩,lV C ks.length D] (bJ ks):=fun A h3=>by
      have V:∀b,(w1.heap.size+1<=b)->b<w2.heap.size->(w.heap.size<=b)/\A.heap[b]? =w2.heap[b]? :=fun b r _=>⟨by omega,h3 b (by omega)⟩
      have A6:ik w2 (fun b=>w1.heap.size+1<=b) (lV C ks.length D) ks.length xs:=by simpa using R
      refine xm d A _ _ (lV C ks.length D) ks xs (A6.move V) (by omega) (fun i hi=>bg.move (w:=w2) (S:=fun b=>w1.heap.size+1<=b) V d _ _ (by simpa using Z i hi))
     have A1:yH (∀(A:World),(∀b,b≠w.heap.size->A.heap[b]? =w2.heap[b]?)->bg (d+1) A (fun b=>w.heap.size<=b) [bV true,sV ⟨#[]⟩,lV C K D] (bJ ks)):=by rw[L];exact A0
     rw[<-L];clear y R Z A0 L;go_wp2
     go_region
     all_goals go_wp2
     all_goals exact UB (v:=tV #[gV #[bV true,sV ⟨#[]⟩,lV C K D],i6 (t:Int),i6 0]) (by simp[results,results127,go_sem,m0,m1,m2]) rfl ⟨⟨true,⟨#[]⟩,C,K,D,by rw[<-P.o],A1.o _ (fun b r=>by simp[Uy,r,World.drew])⟩,(sy N.o _ _ _).drew⟩
def yF(f:yL->Except Nat (Tree×Nat))(b:∀s c,f s=.error c->c≠0):∀(m:Nat) (a) (c:Nat),eR f m a=.error c->c≠0
 | 0,a,c,h=>by
  unfold eR at h
  by_cases h0:a.length=0
  ·rw[Uj h0] at h;cases h
  ·rw[Ui h0] at h;cases h;decide
 |m+1,a,c,h=>by
  unfold eR at h
  by_cases h0:a.length=0
  ·rw[Uj h0] at h;cases h
  ·rw[Ui h0] at h
   simp only at h
   cases hk:f a with
   |error e=>rw[hk] at h;cases h;exact b _ _ hk
   |ok ku=>
    let⟨k,u⟩:=ku
    rw[hk] at h
    simp only at h
    cases hr:eR f m (a.drop u) with
    |error e=>rw[hr] at h;cases h;exact yF f b m _ _ hr
    |ok ks'=>rw[hr] at h;cases h
def De:∀(d:Nat) (s) (c:Nat),dr d s=.error c->c≠0:=by
 intro d;induction d with
 |zero=>
  intro s c h;cases hh:fE s with
  |error e=>rw[yD 0 s e hh] at h;cases h;have:=AM _ _ hh;omega
  |ok lfn=>
   let⟨l,f,n⟩:=lfn;cases l with
   |true=>rw[Dh s f n hh] at h;cases h;decide
   |false=>
    by_cases a:0<f/\fN ((s.drop f).take n)=true
    ·rw[yE 0 s f n hh a.1 a.2] at h;cases h;decide
    ·rw[yA 0 s f n hh a] at h;cases h
 |succ d ih=>
  intro s c h;cases hh:fE s with
  |error e=>rw[yD (d+1) s e hh] at h;cases h;have:=AM _ _ hh;omega
  |ok lfn=>
   let⟨l,f,n⟩:=lfn;cases l with
   |true=>
    cases hk:eR (dr d) 64 ((s.drop f).take n) with
    |error e=>rw[Dg d s f n e hh hk] at h;cases h;exact yF _ ih _ _ _ hk
    |ok ks=>rw[Df d s f n ks hh hk] at h;cases h
   |false=>
    by_cases a:0<f/\fN ((s.drop f).take n)=true
    ·rw[yE (d+1) s f n hh a.1 a.2] at h;cases h;decide
    ·rw[yA (d+1) s f n hh a] at h;cases h
def mF(ks:List Tree)(r:Except Nat (List Tree)):Except Nat (List Tree):=match r with
 | .error e=>.error e
 | .ok rs=>.ok (ks++rs)
def LL(f:yL->Except Nat (Tree×Nat))(m:Nat)(a:yL)(h:a.length=0):eR f m a=.ok []:=by unfold eR;rw[Uj h]
def LN(f:yL->Except Nat (Tree×Nat))(a:yL)(h:a.length≠0):eR f 0 a=.error 8:=by unfold eR;rw[Ui h]
def LO(f:yL->Except Nat (Tree×Nat))(m:Nat)(a:yL)(c:Nat)(h:a.length≠0)(b:f a=.error c):eR f (m+1) a=.error c:=by
 unfold eR;rw[Ui h];simp only;rw[b]
def LK(f:yL->Except Nat (Tree×Nat))(m:Nat)(a:yL)(k:Tree)(u:Nat)(h:a.length≠0)(b:f a=.ok (k,u)):eR f (m+1) a=mF [k] (eR f m (a.drop u)):=by
 conv=>lhs;unfold eR
 rw[Ui h];simp only;rw[b];simp only;unfold mF;cases eR f m (a.drop u)<;>rfl
def QW(ks:List Tree)(k:Tree)(r:Except Nat (List Tree)):mF ks (mF [k] r)=mF (ks++[k]) r:=by
 unfold mF;cases r<;>simp
def AD:(yP.info? 155).map (fun i=>(i.zero,i.size,i.bytes))=some (some (gV #[bV false,sV ⟨#[]⟩,lV none 0 0]),3,48):=by kernel_rfl
def Fc(W:World)(x y z){H}(b:W.heap.size=H):∀j u,[x,y,z][j]? =some u->(W.alloc (.cells #[x,y,z] 155)).cell? ((⟨H,0,none⟩:Addr).add j)=some u:=by
 subst b;intro j u a;match j,a with
 | 0,a=>simp at a;subst a;simp[Addr.add]
 | 1,a=>simp at a;subst a;simp[Addr.add]
 | 2,a=>simp at a;subst a;simp[Addr.add]
 | (j+3),a=>simp at a
def Fe{w:World}{base v n a}(h:w.ownsRow base 155 3 v n a):ik w (fun b=>base<=b) v n a:=by
 refine⟨by rw[h.1];omega,?_⟩;rcases h.2 with⟨rfl,rfl⟩|⟨g,cap,d,rfl,c,_⟩
 ·exact .inl ⟨rfl,_,_,rfl⟩
 ·refine .inr ⟨g,0,cap,rfl,c,fun j e=>?_⟩;rw[Vj];exact h.cellAt j (by omega)
def EA(d:Nat)(ih:xX d):BO d:=by
 intro w s P hs A5;obtain⟨i0,B8,C4,C5,C6⟩:=Vp AD;have S:=aa ih;have T:=aa A5;obtain⟨R,G⟩:=yX (eR (dr d) 64 s.data.toList)
 rw[<-G];have U:yH (∀c,R=.error c->c≠0):=fun c h=>by rw[G] at h;exact yF _ (De d) _ _ _ h
 have V:R=mF [] (eR (dr d) (64 - 0) s.data.toList):=by
  rw[G];unfold mF;cases eR (dr d) 64 s.data.toList<;>rfl
 have B4:=aa V;clear ih G V A5;go_enter func144,ntmps144
 go_wp2
 go_loopg [0,6] s.size (fun g c v wr=>∃(b:yB) (m:Nat) (a:Option Addr) (cap:Nat) (ks:List Tree) (f:List Value),g=b.size/\b.size<=4096/\m<=64/\c=sV b/\v=lV a m cap/\
  yH (R=mF ks (eR (dr d) (64 - m) b.data.toList))/\yH (ks.length=m)/\wr.ownsRow w.heap.size 155 3 (lV a m cap) m f/\
  yH (∀i,i<m->bg d wr (fun q=>w.heap.size<=q/\(Value.slice a m cap).ownBlock≠some q) ((f.drop (3*i)).take 3) (ks.getD i (ak [])))/\yW w wr)
 case atStart=>exact⟨s,0,none,0,[],[],rfl,hs,by omega,rfl,rfl,B4.o,rfl,⟨rfl,.inl ⟨rfl,rfl⟩⟩,fun i h=>by omega,Un _ _⟩
 case round=>
  obtain⟨b,m,a,cap,ks,f,hg,Y,hm,rfl,rfl,H,C,A6,A2,Z⟩:=hrel;have HG:=aa hg;have J:=aa A6;have A:=aa Z;have A1:b.data.toList.length=b.size:=by simp
  have E:=aa A1;clear hg A6 Z A1;by_cases h0:0<b.size
  ·have B5:(0:Int)<(b.size:Int):=by omega
   by_cases h64:m=64
   ·have B6:((m:Int) == 64)=true:=beq_iff_eq.2 (by omega);have t:R=.error 8:=by
     rw[H.o,h64,Nat.sub_self,LN _ _ (by rw[E.o];omega)];rfl
    have B:=aa t;clear t;go_wp2
    go_ret2
    exact⟨by rw[B.o];exact⟨rfl,by decide⟩,A.o⟩
   ·have B6:((m:Int) == 64)=false:=Vd.2 (by omega);have e64:64 - m=(64 - (m+1))+1:=by omega
    cases hT:dr d b.data.toList with
    |error c=>
     have t:R=.error c:=by
      rw[H.o,e64,LO _ _ _ c (by rw[E.o];omega) hT];rfl
     have C7:((c:Int) != 0)=true:=by have:=U.o c t;simp;omega
     have B:=aa t;have L:=aa hT;clear t hT;go_wp2_with fail
     refine(S.o _ b P Y T.o).mono ?_;rw[L.o];rintro e w1 ⟨rfl,z⟩;have y:=aa (A.o.trans (z.mono A.o.size));clear z;go_wp2
     go_ret2
     refine⟨by rw[B.o];exact⟨rfl,U.o c B.o⟩,?_⟩;exact y.o.alloc y.o.size _
    |ok xu=>
     obtain⟨x,u⟩:=xu;have HS:yH (R=mF (ks++[x]) (eR (dr d) (64 - (m+1)) (b.data.toList.drop u))):=by
      rw[H.o,e64,LK _ _ _ x u (by rw[E.o];omega) hT,QW];rfl
     obtain⟨u1,u2,_,_⟩:=Dd d _ x u hT;have C8:u<=b.size:=by rw[E.o] at u2;exact u2
     have L:=aa hT;clear hT e64;go_wp2_with fail
     refine(S.o _ b P Y T.o).mono ?_;rw[L.o];rintro e w1 ⟨⟨o,r,l,p,n,rfl,A4⟩,z⟩;have B2:=aa A4;have y:=aa (A.o.trans (z.mono A.o.size));have Q:=aa z;have K:=aa (rE J.o z);clear A4 z;go_upto_region 8 with fail
     go_wp2_with (at_builtin;refine U0 _ rfl (.tmp 26) (.tmp 28) 153 rfl w.heap.size 155 i0 _ 3 48 underlying153 B8 C4 C5 C6 rfl (by decide) (lV a m cap) m f rfl ((K.o.alloc _).alloc _) ⟨w1.heap.size+1,0,none⟩ 1 1 [bV o,sV r,lV l p n] rfl rfl ?c1 ?c2 (by omega) ?c3 ?c4 ?c5 _ rfl ?c6)
     case c1=>exact Fc (w1.alloc _) _ _ _ (by simp)
     case c2=>intro v hv;simp at hv;rcases hv with rfl|rfl|rfl<;>rfl
     case c3=>unfold maxLen;omega
     case c4=>omega
     case c5=>have:=y.o.size;simp;omega
     intro g2 F w2 A7 O X C1;have W:∀q,q<w1.heap.size->((w1.alloc (.cells #[bV o,sV r,lV l p n] 155)).alloc (.cells #[bV o,sV r,lV l p n] 155)).heap[q]? =w1.heap[q]? :=fun q j=>by
      rw[U6 _ _ _ (by simp;omega),U6 _ _ _ j]
     have N:∀q,q<w1.heap.size->(Value.slice a m cap).ownBlock≠some q->w2.heap[q]? =w1.heap[q]? :=fun q j D=>by
      rw[<-W q j];exact O.block q (by simp;omega) (fun h=>D h.symm)
     have M:∀q,q<w1.heap.size->(Value.slice a m cap).ownBlock≠some q->(Value.slice (qA g2) (m+1) F).ownBlock≠some q:=fun q j D h=>by
      have B7:g2=q:=by simpa [Value.ownBlock] using h
      rcases X with h2|h2
      ·rw[B7] at h2;exact D h2
      ·omega
     have A0:yW w w2:=((y.o.alloc y.o.size _).alloc (by have:=y.o.size;simp;omega) _).grown O (by have:=y.o.size;simp;omega) (fun k hk=>(K.o.lt k hk).1);have C2:=Q.o.size;have A3:∀i,i<m+1->bg d w2 (fun q=>w.heap.size<=q/\(Value.slice (qA g2) (m+1) F).ownBlock≠some q) (((f++[Value.bool o,Value.string r,Value.slice l p n]).drop (3*i)).take 3) ((ks++[x]).getD i (ak [])):=by
      intro i hi;have C3:f.length=3*m:=by have:=K.o.1;omega
      by_cases B9:i<m
      ·have e1:((f++[Value.bool o,Value.string r,Value.slice l p n]).drop (3*i)).take 3=(f.drop (3*i)).take 3:=by
        rw[List.drop_append_of_le_length (by omega),List.take_append_of_le_length (by rw[Uu];omega)]
       have e2:(ks++[x]).getD i (ak [])=ks.getD i (ak []):=by
        rw[Up,UW (by have:=C.o;omega),Up]
       rw[e1,e2];refine bg.move (w:=wr) (fun q j I=>?_) d _ _ (A2.o i B9);have A8:q<w1.heap.size:=by omega
       exact⟨⟨j.1,M q A8 j.2⟩,(N q A8 j.2).trans (Q.o.block q I)⟩
      ·have C0:i=m:=by omega
       subst C0;have e1:((f++[Value.bool o,Value.string r,Value.slice l p n]).drop (3*i)).take 3=[bV o,sV r,lV l p n]:=by
        rw[<-C3,List.drop_left];rfl
       have e2:(ks++[x]).getD i (ak [])=x:=by
        rw[Up,<-C.o,Vf (Ug _),Nat.sub_self];rfl
       rw[e1,e2];refine bg.move (w:=w1) (fun q j I=>?_) d _ _ B2.o;have D:(Value.slice a i cap).ownBlock≠some q:=fun h=>by have:=(J.o.lt q h).2;omega
       exact⟨⟨Ut A.o.size j,M q I D⟩,N q I D⟩
     have B0:=aa A3;have B3:=aa A7;have A9:=aa A0;clear W N M A0 A3 A7 O X C1 C2;have C9:(u:Int)<=(b.size:Int):=by omega
     go_wp2
     go_roundg (b.size - u)
     case measure=>have:=HG.o;omega
     case rel=>
      refine⟨b.extract u b.size,m+1,some ⟨g2,0,none⟩,F,ks++[x],f++[Value.bool o,Value.string r,Value.slice l p n],by simp,by simp;omega,by omega,rfl,rfl,?_,by show(ks++[x]).length=m+1;rw[Uq,C.o];rfl,B3.o,B0.o,A9.o⟩;have e:(b.extract u b.size).data.toList=b.data.toList.drop u:=by rw[Lib.extract_data,U4 (by simp)]
      show R=_;rw[e];exact HS.o
  ·have B5:¬((0:Int)<(b.size:Int)):=by omega
   have t:R=.ok ks:=by
    rw[H.o,LL _ _ _ (by rw[E.o];omega)];unfold mF;simp
   have B:=aa t;clear t;go_wp2
   go_ret2
   refine⟨?_,A.o⟩;rw[B.o];refine⟨lV a m cap,f,rfl,?_,by rw[C.o];exact hm,fun i hi=>bg.move (w:=wr) (fun q j _=>⟨j.1,rfl⟩) d _ _ (A2.o i (by rw[<-C.o];exact hi))⟩;rw[C.o];exact Fe J.o
def Ew:∀d,xX d/\BO d
 | 0=>⟨zl 0 (fun e h=>by omega),EA 0 (zl 0 (fun e h=>by omega))⟩
 |d+1=>
  have h:xX (d+1):=zl (d+1) (fun e h=>by
   have:e=d:=by omega
   subst this
   exact(Ew e).2)
  ⟨h,EA (d+1) h⟩
def Cl(w:World)(r:Except Nat Tree)(e:Ending)(w':World):Prop:=
 match r with
 | .error c=>e=rV (tV #[gV #[bV false,sV ByteArray.empty,lV none 0 0],iV .i64 c])/\c≠0
 | .ok x=>∃l t a m c,e=rV (tV #[gV #[bV l,sV t,lV a m c],iV .i64 0])/\bg 6 w' (fun b=>w.heap.size<=b) [bV l,sV t,lV a m c] x
def Si(s:yL)(h:4096<s.length):dC s=.error 1:=by unfold dC;rw[Uj h]
def Sl(s:yL)(h:¬4096<s.length)(c:Nat)(a:dr 6 s=.error c):dC s=.error c:=by unfold dC;rw[Ui h,a]
def Sj(s:yL)(h:¬4096<s.length)(x:Tree)(u:Nat)(a:dr 6 s=.ok (x,u))(b:u<s.length):dC s=.error 6:=by unfold dC;rw[Ui h,a];simp only;rw[Uj b]
def Sm(s:yL)(h:¬4096<s.length)(x:Tree)(u:Nat)(a:dr 6 s=.ok (x,u))(b:¬u<s.length):dC s=.ok x:=by unfold dC;rw[Ui h,a];simp only;rw[Ui b]
def xE(w:World)(s:yB)(hs:s.size<=maxLen):
 yC 99 #[sV s] w fun e w'=>Cl w (dC s.data.toList) e w'/\yW w w':=by
 unfold maxLen at hs;have f:s.data.toList.length=s.size:=by simp
 by_cases h4:4096<s.size
 ·rw[Si _ (by rw[f];exact h4)];have C:(4096:Int)<(s.size:Int):=by omega
  clear f;go_enter func99,ntmps99
  go_wp2
  exact UB (v:=tV #[gV #[bV false,sV ⟨#[]⟩,lV none 0 0],i6 1]) (by simp[results,results99,go_sem]) rfl ⟨⟨rfl,by decide⟩,(Un _ _).alloc (Ug _) _⟩
 have C:¬((4096:Int)<(s.size:Int)):=by omega
 have j:¬4096<s.data.toList.length:=by rw[f];exact h4
 have h:=fun w=>(Ew 6).1 w s 1 (by omega) rfl
 cases hT:dr 6 s.data.toList with
 |error c=>
  rw[Sl _ j c hT];have q:=De 6 _ _ hT;have E:((c:Int) != 0)=true:=by simp;omega
  rw[hT] at h;have n:=aa h;have A:=aa q;clear f j hT h q;go_enter func99,ntmps99
  go_wp2_with fail
  refine(n.o _).mono ?_;rintro e w1 ⟨rfl,d⟩;obtain⟨k0,k1,k2,f0,f1,f2⟩:=iB d;have k:=aa (((Un _ _).alloc (Ug _) _).trans (d.mono (by simp)));have g:w.heap.size<w1.heap.size:=by have:=d.size;simp at this;omega
  clear d;go_wp2
  exact UB (v:=tV #[gV #[bV false,sV ⟨#[]⟩,lV none 0 0],i6 (c:Int)]) (by simp[results,results99,go_sem,k0,k1,k2,g]) rfl ⟨⟨rfl,A.o⟩,oB k.o g _ _ _ _⟩
 |ok xu=>
  obtain⟨x,u⟩:=xu;rw[hT] at h;have n:=aa h;by_cases z:u<s.size
  ·rw[Sj _ j x u hT (by rw[f];exact z)];have D:(u:Int)<(s.size:Int):=by omega
   clear f j hT h;go_enter func99,ntmps99
   go_wp2_with fail
   refine(n.o _).mono ?_;rintro e w1 ⟨⟨l,t,a,m,c,rfl,o⟩,d⟩;obtain⟨k0,k1,k2,f0,f1,f2⟩:=iB d;have k:=aa (((Un _ _).alloc (Ug _) _).trans (d.mono (by simp)));have g:w.heap.size<w1.heap.size:=by have:=d.size;simp at this;omega
   clear d o;go_wp2
   exact UB (v:=tV #[gV #[bV false,sV ⟨#[]⟩,lV none 0 0],i6 6]) (by simp[results,results99,go_sem,k0,k1,k2,g]) rfl ⟨⟨rfl,by decide⟩,oB k.o g _ _ _ _⟩
  ·rw[Sm _ j x u hT (by rw[f];exact z)];have D:¬((u:Int)<(s.size:Int)):=by omega
   clear f j hT h;go_enter func99,ntmps99
   go_wp2_with fail
   refine(n.o _).mono ?_;rintro e w1 ⟨⟨l,t,a,m,c,rfl,o⟩,d⟩;obtain⟨k0,k1,k2,f0,f1,f2⟩:=iB d;have k:=aa (((Un _ _).alloc (Ug _) _).trans (d.mono (by simp)));have g:w.heap.size<w1.heap.size:=by have:=d.size;simp at this;omega
   have y:∀(i:World),(∀b,b<w1.heap.size->b≠w.heap.size->i.heap[b]? =w1.heap[b]?)->bg 6 i (fun b=>w.heap.size<=b) [bV l,sV t,lV a m c] x:=fun i h3=>by
    refine bg.move (w:=w1) (S:=fun b=>w.heap.size+1<=b) (fun b p r=>⟨by omega,h3 b r (by omega)⟩) 6 _ _ (by simpa using o)
   have B:=aa y;clear d o y;go_wp2
   exact UB (v:=tV #[gV #[bV l,sV t,lV a m c],i6 0]) (by simp[results,results99,go_sem,k0,k1,k2,g]) rfl ⟨⟨l,t,a,m,c,rfl,B.o _ (fun b r p=>by
    rw[U6 _ _ _ (by simp[World.setCell];omega)];simp[Uy,p])⟩,oB k.o g _ _ _ _⟩
end Go.Proofs.YtmafnmpeehmndaaGreatDoor
