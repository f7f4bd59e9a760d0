import Derived.Test.YtiimkkahmpmhdaaGreatDoorD
open Go.Proofs.Tryz
open Go.Proofs.Tryz renaming prog→yP
open Go.Value renaming string→sV,pointer→pV,int→iV,slice→lV,bool→bV,tuple→tV,agg→gV
open Go.Ending renaming returned→rV
namespace Go.Proofs.YtiimkkahmpmhdaaGreatDoor
open Go.RowKit
set_option maxRecDepth 100000
set_option maxHeartbeats 0
set_option linter.all false
def wC(d:Nat):Prop:=∀(w:World) (S:Nat->Prop) (v0 v1 v2:Value) (x:Tree),aY d w S [v0,v1,v2] x->
 Calls yP 147 #[gV #[v0,v1,v2]] w fun e w'=>e=rV (tV #[sV (gQ (bm d x)),bV (fg (bm d x))])/\yW w w'
def Ai(d:Nat):Prop:=∀(w:World) (S:Nat->Prop) (k:Value) (ks:List Tree) (a:List Value),gC w S k ks.length a->ks.length<140737488355329->(∀i,i<ks.length->aY d w S ((a.drop (3*i)).take 3) (ks.getD i (ay [])))->
 Calls yP 157 #[k] w fun e w'=>e=rV (tV #[sV (gQ (gG (ks.map (bm d)).flatten)),bV (fg (gG (ks.map (bm d)).flatten))])/\yW w w'
theorem Gf(w:World)(t:yB)(k:Value)(l:t.size<140737488355329):
 Calls yP 147 #[.agg #[.bool false,.string t,k]] w fun e w'=>e=.returned (.tuple #[.string (gQ (dg t.data.toList)),.bool (fg (dg t.data.toList))])/\yW w w':=by
 have b:t.data.toList.length=t.size:=by simp
 cases hb:fB t.data.toList with
 |true=>
  have e:dg t.data.toList=t.data.toList:=by unfold dg;rw[QX hb]
  have a:fg t.data.toList=true:=by
   unfold fB at hb;simp at hb;unfold fg;rw[b];exact Ra (by omega)
  rw[e,su _ a,jc,a];have c:Hid (fB t.data.toList=true):=hb;clear hb e a b;go_enter func147,ntmps147
  go_wp2_with fail
  refine(we t _).mono ?_;rw[c.out];rintro e w1 ⟨rfl,d⟩;subst d;go_wp2_with fail
  go_ret2
  exact⟨rfl,(Q1 _ _).alloc (QU _) _⟩
 |false=>
  have e:dg t.data.toList=cX (fu false) t.size++t.data.toList:=by unfold dg;rw[QW (by rw[hb];decide),b];rfl
  have a:=Fx false t.data.toList;rw[b,<-e] at a;have c:Hid (fB t.data.toList=false):=hb;have g:(if lH 128 t.data.toList then str (cX 128 t.size++t.data.toList) else ByteArray.empty)=gQ (dg t.data.toList):=by
   unfold gQ;rw[<-a,e];rfl
  have j:Hid ((if lH 128 t.data.toList then str (cX 128 t.size++t.data.toList) else ByteArray.empty)=gQ (dg t.data.toList)):=g;have i:Hid (lH 128 t.data.toList=fg (dg t.data.toList)):=a;clear hb e a b g;go_enter func147,ntmps147
  go_wp2_with fail
  refine(we t _).mono ?_;rw[c.out];rintro e w1 ⟨rfl,d⟩;subst d;go_wp2_with fail
  refine(EG 128 t (by omega) l _).mono ?_;rw[j.out,i.out];rintro e w2 ⟨rfl,f⟩;have h:Hid (yW w w2):=((Q1 _ _).alloc (QU _) _).trans (f.mono (by simp));clear f;go_wp2_with fail
  go_ret2
  exact⟨rfl,h.out⟩
theorem Gg(d:Nat)(j:Ai d):wC (d+1):=by
 intro w S v0 v1 v2 x p;rcases p with⟨t,k,a,rfl,o⟩|⟨t,k,ks,q,a,rfl,g,n,f⟩
 ·simp only[Sv,and_true] at a;obtain⟨rfl,rfl,rfl⟩:=a;rw[ir];exact Gf w t _ o.1
 ·simp only[Sv,and_true] at a;obtain⟨rfl,rfl,rfl⟩:=a;rw[kL];have m:=fun(w:World) (h:yW w w)=>j w
  clear m;go_enter func147,ntmps147
  go_wp2_with fail
  have b:yW w (w.alloc (.cells #[bV true,sV t,v2] 155)):=(Q1 _ _).alloc (QU _) _;refine(j _ S v2 ks q (g.below b) n (fun i hi=>(f i hi).below b)).mono ?_;rintro e w1 ⟨rfl,c⟩;have l:=aa (b.trans (c.mono (by simp)));clear c b g f;go_wp2_with fail
  go_ret2
  exact⟨rfl,l.out⟩
theorem Ge:wC 0:=by
 intro w S v0 v1 v2 x ⟨t,k,a,c,b⟩;subst c;simp only[Sv,and_true] at a;obtain⟨rfl,rfl,rfl⟩:=a;rw[ir];exact Gf w t _ b.1
theorem Jl(l):Lib.strCells (str l)=bI l:=by
 unfold Lib.strCells bI;simp[dV]
theorem Lv{w:World}{base e v n b}(h:w.ownsRow base e 1 v n b):∃a cap,v=lV a n cap/\(a=none->n=0):=by
 rcases h.2 with⟨rfl,rfl⟩|⟨g,cap,c,rfl,_⟩
 ·exact⟨none,0,rfl,fun _=>rfl⟩
 ·exact⟨_,cap,rfl,fun h=>by cases h⟩
theorem O8{w:World}{base v n l}(h:w.ownsRow base 5 1 v n (bI l)):(convert 143 9 v).run yP w=.ok (sV (str l)) w:=by
 have b:l.length=n:=by have:=h.1;simpa [bI] using this
 rcases h.2 with⟨rfl,h0⟩|⟨g,cap,d,rfl,e⟩
 ·have:l=[]:=Rm.1 (by omega);subst this;exact run_convert_bytes_nil (P:=yP) w 143 5 underlying143 underlying5 0 0 9 underlying9
 ·rw[<-nJ];exact St (P:=yP) w 143 5 underlying143 underlying5 g 0 n cap (l.map (fun c=>(c.toNat:Int))) (by rw[Rr,b]) (fun i hi=>by
   have:=h.cellAt i (by rw[Nat.mul_one];exact hi);rw[R5,this];have a:i<l.length:=by omega
   simp[bI,List.getD,QV a]) 9 underlying9
theorem qz{w w1:World}{base e c v n d}(h:w.ownsRow base e c v n d)(b:yW w w1):w1.ownsRow base e c v n d:=by
 refine⟨h.1,?_⟩;rcases h.2 with h0|⟨g,cap,f,l,i,a,k⟩
 ·exact .inl h0
 ·refine .inr ⟨g,cap,f,l,i,?_,k⟩;have j:g<w.heap.size:=by
   rcases Nat.lt_or_ge g w.heap.size with h|h
   ·exact h
   ·rw[Rk h] at a;cases a
  rw[b.block g j];exact a
theorem Lx(w:World)(base:Nat):w.ownsRow base 5 1 (lV none 0 0) 0 (bI []):=⟨rfl,.inl ⟨rfl,rfl⟩⟩
theorem DP(d:Nat)(ih:wC d):Ai d:=by
 intro w S k ks f V hb y;obtain⟨i0,B6,C0,C1,C2⟩:=Sf pt;obtain⟨D,X,z⟩:∃D X,k=lV D ks.length X:=by
  rcases V.oa with⟨h0,a,c,rfl⟩|⟨b,o,c,rfl,_⟩
  ·exact⟨a,c,by rw[h0]⟩
  ·exact⟨_,c,rfl⟩
 subst z;have HR:=aa V;have HK:=aa y;have HI:=aa ih;obtain⟨n,C⟩:=yX ks.length
 have G:=aa C;obtain⟨T,L⟩:=yX (gG (ks.map (bm d)).flatten)
 have K:=aa L;rw[<-C,<-L];rw[<-C] at hb;clear V y ih C L;go_enter func157,ntmps157
 go_wp2_with fail
 go_loopg [4,5] n (fun g v r wr=>∃(i:Nat) (m:Nat) (a:Option Addr) (cap:Nat),g=n - i/\i<=n/\r=iV .i64 i/\v=lV a m cap/\m<=4096/\wr.ownsRow w.heap.size 5 1 (lV a m cap) m (bI (iq d ks i))/\yW w wr)
 case atStart=>exact⟨0,0,none,0,rfl,by omega,rfl,rfl,by omega,Lx _ _,Q1 _ _⟩
 case round=>
  obtain⟨i,m,a,cap,hg,hi,rfl,rfl,hm,Q,A4⟩:=hrel;have HG:=aa hg;have HO:=aa Q;have p:=aa A4;have q:(iq d ks i).length=m:=by have:=Q.1;simpa [bI] using this
  have HM:=aa q;clear q;clear hg Q A4;by_cases A6:i<n
  ·have B:=A6;rw[G.out] at B;have W:=HR.out.below p.out;rcases W.oa with⟨h0,_⟩|⟨b,o,c,z,C4,x⟩
   ·omega
   have B7:D=some ⟨b,o,none⟩:=by cases z;rfl
   subst B7;have B9:3*i+2<f.length:=by rw[W.len];omega
   have g0:wr.cell? ⟨b,o+i*3,none⟩=some (f[3*i]'(by omega)):=by rw[<-QV,<-x (3*i) (by omega),Nat.mul_comm]
   have g1:wr.cell? ⟨b,o+i*3+1,none⟩=some (f[3*i+1]'(by omega)):=by rw[<-QV,<-x (3*i+1) (by omega),Nat.mul_comm,Nat.add_assoc]
   have g2:wr.cell? ⟨b,o+i*3+2,none⟩=some (f[3*i+2]'(by omega)):=by rw[<-QV,<-x (3*i+2) (by omega),Nat.mul_comm,Nat.add_assoc]
   have O:=(HK.out i B).below p.out;have e3:(f.drop (3*i)).take 3=[f[3*i]'(by omega),f[3*i+1]'(by omega),f[3*i+2]'(by omega)]:=by
    apply SK;intro j;rw[Sm];split
    ·rw[Sw];match j with
     | 0=>simp[QV (show 3*i<f.length by omega)]
     | 1=>simp[QV (show 3*i+1<f.length by omega)]
     | 2=>simp[QV (show 3*i+2<f.length by omega)]
     |j+3=>omega
    ·rw[RP (by simp;omega)]
   rw[e3] at O;generalize f[3*i]'(by omega)=v0 at*;generalize f[3*i+1]'(by omega)=v1 at*;generalize f[3*i+2]'(by omega)=v2 at*;have Z:=aa O;clear O e3 B9 x W B z;have A:4096<(iq d ks (i+1)).length->fg T=false/\gQ T=ByteArray.empty:=by
    intro h;have h1:=Pg d ks (i+1);have h2:fg T=false:=by
     unfold fg;rw[K.out];unfold gG;rw[Q4];exact Q9 (by omega)
    exact⟨h2,by unfold gQ;rw[h2];rfl⟩
   have A0:=aa A;have J:Hid (iq d ks (i+1)=iq d ks i++bm d (ks.getD i (ay []))):=Pf d ks i (by rw[<-G.out];exact A6);clear A;generalize hc:bm d (ks.getD i (ay []))=c at*;go_wp2_with fail
   refine(HI.out _ S v0 v1 v2 _ Z.out).mono ?_;rw[hc];rintro e w1 ⟨rfl,E⟩;have t:=aa (p.out.trans (E.mono p.out.size));have A2:=aa (qz HO.out E);clear E hc g0 g1 g2 Z;cases l:fg c with
   |false=>
    have hl:4096<c.length:=by unfold fg at l;simpa using l
    obtain⟨q1,q2⟩:=A0.out (by rw[J.out,Q4];omega);have H:=aa q1;have I:=aa q2;clear q1 q2 l;go_wp2_with fail
    go_ret2
    exact⟨by rw[H.out,I.out];rfl,t.out⟩
   |true=>
    have hl:c.length<=4096:=by unfold fg at l;simpa using l
    have B0:=aa (su c l);rw[B0.out];clear l;have s:=aH c;go_upto_region 8 with fail
    go_wp2_with (at_builtin;refine Lib.wpList_append_own_string _ rfl (.tmp 24) (.tmp 25) 143 9 rfl w.heap.size 5 i0 underlying143 underlying9 B6 C0 C1 C2 (lV a m cap) m (bI (iq d ks i)) rfl A2.out (str c) rfl ?d1 ?d2 ?d3 ?d4)
    case d1=>rw[s];unfold maxLen;omega
    case d2=>rw[s];omega
    case d3=>exact t.out.size
    intro C3 w2 R A5 _;rw[Jl] at R;have U:w2.ownsRow w.heap.size 5 1 C3 (m+c.length) (bI (iq d ks (i+1))):=by
     have e:bI (iq d ks (i+1))=bI (iq d ks i)++bI c:=by rw[J.out];simp[bI]
     rw[e];exact R
    obtain⟨a2,A3,rfl,_⟩:=Lv U;have A9:=aa U;have u:Hid (yW w w2):=t.out.grown A5 t.out.size (fun k y=>(A2.out.lt k y).1);have A8:Hid ((iq d ks (i+1)).length=m+c.length):=by
     rw[J.out,Q4,HM.out];rfl
    clear R U A5;obtain⟨M,q⟩:=yX (m+c.length)
    rw[<-q];have A1:=aa q;clear q;by_cases A:4096<M
    ·have B8:decide ((4096:Int)<(M:Int))=true:=by simp;omega
     obtain⟨q1,q2⟩:=A0.out (by rw[A8.out,<-A1.out];exact A);have H:=aa q1;have I:=aa q2;clear q1 q2;go_wp2_with fail
     go_ret2
     exact⟨by rw[H.out,I.out];rfl,u.out⟩
    ·have B8:decide ((4096:Int)<(M:Int))=false:=by simp;omega
     go_wp2_with fail
     go_roundg (n - (i+1))
     case measure=>have:=HG.out;omega
     case rel=>exact⟨i+1,M,a2,A3,rfl,by omega,by go_num,rfl,by omega,by rw[A1.out];exact A9.out,u.out⟩
  ·have N:iq d ks i=(ks.map (bm d)).flatten:=Ph d ks i (by rw[<-G.out];omega);have B5:=O8 HO.out;rw[N] at B5;have P:=HM.out;rw[N] at P;generalize hF:(ks.map (bm d)).flatten=F at*;have s:=aH F;have l:=Fx true F;have ho:(if lH 192 (str F).data.toList then str (cX 192 (str F).size++(str F).data.toList) else ByteArray.empty)=gQ T:=by
    rw[dV,s,K.out];unfold gQ gG;rw[<-(show fu true=192 from rfl),<-l]
   have B3:=aa ho;have A7:Hid (lH 192 (str F).data.toList=fg T):=by rw[dV,K.out];unfold gG;exact l
   have B4:Hid ((str F).size<140737488355329):=by rw[s,P];exact(show m<140737488355329 by omega)
   clear N hF l ho P s;have B:¬((i:Int)<(n:Int)):=by omega
   go_wp2_with fail
   refine(EG 192 (str F) (by omega) B4.out _).mono ?_;rw[B3.out,A7.out];rintro e w2 ⟨rfl,Y⟩;have u:=aa (p.out.trans (Y.mono p.out.size));clear Y;go_wp2_with fail
   go_ret2
   exact⟨rfl,u.out⟩
theorem vX:∀d,wC d/\Ai d
 | 0=>⟨Ge,DP 0 Ge⟩
 |d+1=>⟨Gg d (vX d).2,DP (d+1) (Gg d (vX d).2)⟩
def zT(d:Nat):Prop:=∀(w:World) (S:Nat->Prop) (k:Value) (ks:List Tree) (a:List Value) (l:Nat),1<=l->l<=7->gC w S k ks.length a->ks.length<140737488355329->(∀i,i<ks.length->aY d w S ((a.drop (3*i)).take 3) (ks.getD i (ay [])))->
 Calls yP 146 #[k,iV .i64 l] w fun e w'=>e=rV (bV (bK (7 - l) (bH ks)))/\w'=w
theorem mq(L:Nat)(ks:List Tree):bK (L+1) (bH ks)=(decide (ks.length<=64) && ks.all (bK L)):=by
 unfold bH;simp only[bK]
theorem mn(L:Nat)(t):bK L (ay t)=true:=by unfold ay;simp only[bK]
theorem zo(ks:List Tree):bK 0 (bH ks)=false:=by unfold bH;simp only[bK]
theorem IS{a:List Value}{i}(h:3*i+2<a.length):(a.drop (3*i)).take 3=[a[3*i]'(by omega),a[3*i+1]'(by omega),a[3*i+2]'(by omega)]:=by
 apply SK;intro j;rw[Sm];split
 ·rw[Sw];match j with
  | 0=>simp[QV (show 3*i<a.length by omega)]
  | 1=>simp[QV (show 3*i+1<a.length by omega)]
  | 2=>simp[QV (show 3*i+2<a.length by omega)]
  |j+3=>omega
 ·rw[RP (by simp;omega)]
theorem se{w S}{d:Nat}{j n q}{ks:List Tree}{e}(h:gC w S (lV j n q) ks.length e)(m:n=ks.length)
 (k:∀i,i<ks.length->aY d w S ((e.drop (3*i)).take 3) (ks.getD i (ay []))) (i:Nat) (hi:i<n):
 ∃b o v0 v1 v2,j=some ⟨b,o,none⟩/\w.cell? ⟨b,o+i*3,none⟩=some v0/\w.cell? ⟨b,o+i*3+1,none⟩=some v1/\w.cell? ⟨b,o+i*3+2,none⟩=some v2/\aY d w S [v0,v1,v2] (ks.getD i (ay [])):=by
 have f:=hi;rw[m] at f;rcases h.oa with⟨h0,_⟩|⟨b,o,c,l,r,a⟩
 ·omega
 have p:3*i+2<e.length:=by rw[h.len];omega
 have g:=k i f;rw[IS p] at g;refine⟨b,o,_,_,_,?_,?_,?_,?_,g⟩
 ·cases l;rfl
 ·rw[<-QV,<-a (3*i) (by omega),Nat.mul_comm]
 ·rw[<-QV,<-a (3*i+1) (by omega),Nat.mul_comm,Nat.add_assoc]
 ·rw[<-QV,<-a (3*i+2) (by omega),Nat.mul_comm,Nat.add_assoc]
theorem kG{d w S v0 v1 v2 x}(h:aY d w S [v0,v1,v2] x):
 (∃t,v0=bV false/\v1=sV t/\x=ay t.data.toList/\t.size<140737488355329)\/
 (∃e t ks c,d=e+1/\v0=bV true/\v1=sV t/\x=bH ks/\gC w S v2 ks.length c/\ks.length<140737488355329/\∀i,i<ks.length->aY e w S ((c.drop (3*i)).take 3) (ks.getD i (ay []))):=by
 cases d with
 |zero=>
  obtain⟨t,k,a,b,f,_⟩:=h;simp only[Sv,and_true] at a;exact .inl ⟨t,a.1,a.2.1,b,f⟩
 |succ d=>
  rcases h with⟨t,k,a,b,f,_⟩|⟨t,k,ks,c,a,b,l,g,j⟩
  ·simp only[Sv,and_true] at a;exact .inl ⟨t,a.1,a.2.1,b,f⟩
  ·simp only[Sv,and_true] at a;obtain⟨h1,h2,h3⟩:=a;subst h3;exact .inr ⟨d,t,ks,c,rfl,h1,h2,b,l,g,j⟩
theorem gC.slice{w S k n d}(h:gC w S k n d):∃a c,k=lV a n c:=by
 rcases h.oa with⟨rfl,a,c,e⟩|⟨b,o,c,e,_⟩
 ·exact⟨a,c,e⟩
 ·exact⟨_,c,e⟩
theorem qP{d w S v0 v1 v2 x}(h:aY d w S [v0,v1,v2] x):tN v2:=by
 cases d with
 |zero=>
  obtain⟨t,k,b,_,_,f⟩:=h;simp only[Sv,and_true] at b;rw[b.2.2];exact f
 |succ d=>
  rcases h with⟨t,k,b,_,_,f⟩|⟨t,k,ks,i,b,_,g,_⟩
  ·simp only[Sv,and_true] at b;rw[b.2.2];exact f
  ·simp only[Sv,and_true] at b;obtain⟨a,c,e⟩:=g.slice;rw[b.2.2];exact⟨a,_,c,e⟩
theorem AA(d:Nat)(Y:∀e,d=e+1->zT e):zT d:=by
 intro w S k ks Z l h1 h7 H hb T;obtain⟨K,L,A4⟩:∃K L,k=lV K ks.length L:=by
  rcases H.oa with⟨h0,a,c,rfl⟩|⟨b,o,c,rfl,_⟩
  ·exact⟨a,c,by rw[h0]⟩
  ·exact⟨_,c,rfl⟩
 subst A4;have HK:=aa T;have HI:=aa Y;obtain⟨n,s⟩:=yX ks.length
 have q:=aa s;have HR:Hid (gC w S (lV K n L) ks.length Z):=by rw[s];exact H
 obtain⟨R,B⟩:=yX (bK (7 - l) (bH ks))
 have z:=aa B;rw[<-s,<-B];rw[<-s] at hb;clear H T Y s B;by_cases A8:6<l
 ·have A5:decide ((6:Int)<(l:Int))=true:=by simp;omega
  have f:R=false:=by rw[z.out,show 7 - l=0 by omega,zo]
  have p:=aa f;clear f;go_enter func146,ntmps146
  go_wp2_with fail
  go_ret
  exact⟨by rw[p.out];rfl,rfl⟩
 ·have A5:decide ((6:Int)<(l:Int))=false:=by simp;omega
  have e7:7 - l=(6 - l)+1:=by omega
  by_cases h64:64<n
  ·have A6:decide ((64:Int)<(n:Int))=true:=by simp;omega
   have f:R=false:=by rw[z.out,e7,mq,Q9 (by rw[<-q.out];omega)];rfl
   have p:=aa f;clear f;go_enter func146,ntmps146
   go_wp2_with fail
   go_ret
   exact⟨by rw[p.out];rfl,rfl⟩
  ·have A6:decide ((64:Int)<(n:Int))=false:=by simp;omega
   have O:R=ks.all (bK (6 - l)):=by rw[z.out,e7,mq,Ra (by rw[<-q.out];omega)];rfl
   have M:=aa O;clear O e7;go_enter func146,ntmps146
   go_wp2_with fail
   go_loopg [5] n (fun g r wr=>wr=w/\∃i:Nat,g=n - i/\i<=n/\r=iV .i64 i/\Hid (∀j,j<i->bK (6 - l) (ks.getD j (ay []))=true))
   case atStart=>exact⟨rfl,0,rfl,by omega,rfl,fun j h=>by omega⟩
   case round=>
    obtain⟨hw,i,Q,hi,rfl,D⟩:=hrel;subst hw;have N:=aa Q;clear Q;by_cases V:i<n
    ·obtain⟨b,o,v0,v1,v2,A3,g0,g1,g2,F⟩:=se HR.out q.out HK.out i V;subst A3;have W:ks.getD i (ay [])∈ks:=by
      have E:=V;rw[q.out] at E;have e:ks.getD i (ay [])=ks[i]:=by simp[List.getD,QV E]
      rw[e];exact RV E
     have A1:=aa W;clear W;rcases kG F with⟨t,rfl,rfl,m,I⟩|⟨e,t,u,A7,P,rfl,rfl,m,X,A2,U⟩
     ·have v:=aa m;clear m F;go_wp2_with fail
      go_roundg (n - (i+1))
      case measure=>have:=N.out;omega
      case rel=>exact⟨rfl,i+1,rfl,by omega,by go_num,fun j G=>by
       by_cases e:j=i
       ·subst e;rw[v.out];exact mn _ _
       ·exact D.out j (by omega)⟩
     ·have v:=aa m;have C:=HI.out e P wr S v2 u A7 (l+1) (by omega) (by omega) X A2 U;have A:((l+1:Nat):Int)=(l:Int)+1:=by omega
      rw[A] at C;have y:=aa C;clear m F C X U P;go_wp2_with fail
      refine y.out.mono ?_;have e6:7 - (l+1)=6 - l:=by omega
      rw[e6];cases hfl:bK (6 - l) (bH u) with
      |true=>
       have A0:=aa hfl;clear hfl y A e6;rintro e w' ⟨rfl,J⟩;subst J;go_wp2_with fail
       go_roundg (n - (i+1))
       case measure=>have:=N.out;omega
       case rel=>exact⟨rfl,i+1,rfl,by omega,by go_num,fun j G=>by
        by_cases e:j=i
        ·subst e;rw[v.out];exact A0.out
        ·exact D.out j (by omega)⟩
      |false=>
       have f:R=false:=by
        rw[M.out];cases hq:ks.all (bK (6 - l)) with
        |false=>rfl
        |true=>have:=Sp.1 hq _ A1.out;rw[v.out,hfl] at this;cases this
       have p:=aa f;clear hfl y A e6 f;rintro e w' ⟨rfl,J⟩;subst J;go_wp2_with fail
       go_ret
       exact⟨by rw[p.out];rfl,rfl⟩
    ·have I:R=true:=by
      rw[M.out];refine Sp.2 fun x m=>?_
      obtain⟨j,G,rfl⟩:=List.getElem_of_mem m;have:=D.out j (by have:=q.out;omega);have e:ks.getD j (ay [])=ks[j]:=by simp[List.getD,QV G]
      rw[e] at this;exact this
     have HT:=aa I;clear I;go_wp2_with fail
     go_ret
     exact⟨by rw[HT.out];rfl,rfl⟩
theorem AB:∀d,zT d
 | 0=>AA 0 (fun e h=>by omega)
 |d+1=>AA (d+1) (fun e h=>by
  have:e=d:=by omega
  subst this
  exact AB e)
def eg(x:Tree):Int:=if bK 6 x=true then(if fg (bm 6 x)=true then 0 else 1) else 8
def fy(x:Tree):yB:=if bK 6 x=true then gQ (bm 6 x) else ByteArray.empty
theorem tf(w S v0 v1 v2)(x:Tree)(n:aY 6 w S [v0,v1,v2] x):
 Calls yP 129 #[gV #[v0,v1,v2]] w fun e w'=>e=rV (tV #[sV (fy x),iV .i64 (eg x)])/\yW w w':=by
 have g:yW w (w.alloc (.cells #[v0,v1,v2] 155)):=(Q1 _ _).alloc (QU _) _;have y:=aa (n.below g);have j:=aa g;rcases kG n with⟨t,rfl,rfl,rfl,B⟩|⟨e,t,ks,A,b,rfl,rfl,rfl,r,z,q⟩
 ·have a:=mn 6 t.data.toList;have d:fy (ay t.data.toList)=gQ (bm 6 (ay t.data.toList)):=by unfold fy;rw[QX a]
  have b:eg (ay t.data.toList)=(if fg (bm 6 (ay t.data.toList))=true then 0 else 1):=by unfold eg;rw[QX a]
  have m:=aa d;have l:=aa b;clear n g d b a;go_enter func129,ntmps129
  go_wp2_with fail
  refine((vX 6).1 _ S _ _ _ _ y.out).mono ?_;rintro e w1 ⟨rfl,h⟩;have k:=aa (j.out.trans (h.mono j.out.size));clear h;generalize bm 6 (ay t.data.toList)=c at*;cases hf:fg c with
  |true=>
   have f:=aa hf;clear hf;go_wp2_with fail
   go_ret2
   exact⟨by rw[m.out,l.out,f.out];rfl,k.out⟩
  |false=>
   have f:=aa hf;have p:Hid (gQ c=ByteArray.empty):=by unfold gQ;rw[hf];rfl
   clear hf;go_wp2_with fail
   go_ret2
   exact⟨by rw[m.out,l.out,f.out,p.out];rfl,k.out⟩
 ·obtain rfl:e=5:=by omega
  have s:=AB 5 _ S v2 ks A 1 (by omega) (by omega) (r.below g) z (fun i hi=>(q i hi).below g);have v:=aa s;cases a:bK 6 (bH ks) with
  |false=>
   have d:fy (bH ks)=ByteArray.empty:=by unfold fy;rw[a];rfl
   have b:eg (bH ks)=8:=by unfold eg;rw[a];rfl
   rw[d,b];have o:=aa a;clear n g d b a r q s;go_enter func129,ntmps129
   go_wp2_with fail
   refine v.out.mono ?_;rw[o.out];rintro e w1 ⟨rfl,u⟩;subst u;go_wp2_with fail
   go_ret2
   exact⟨rfl,j.out⟩
  |true=>
   have d:fy (bH ks)=gQ (bm 6 (bH ks)):=by unfold fy;rw[QX a]
   have b:eg (bH ks)=(if fg (bm 6 (bH ks))=true then 0 else 1):=by unfold eg;rw[QX a]
   have m:=aa d;have l:=aa b;have o:=aa a;clear n g d b a r q s;go_enter func129,ntmps129
   go_wp2_with fail
   refine v.out.mono ?_;rw[o.out];rintro e w1 ⟨rfl,u⟩;subst u;go_wp2_with fail
   refine((vX 6).1 _ S _ _ _ _ y.out).mono ?_;rintro e w1 ⟨rfl,h⟩;have k:=aa (j.out.trans (h.mono j.out.size));clear h;generalize bm 6 (bH ks)=c at*;cases hf:fg c with
   |true=>
    have f:=aa hf;clear hf;go_wp2_with fail
    go_ret2
    exact⟨by rw[m.out,l.out,f.out];rfl,k.out⟩
   |false=>
    have f:=aa hf;have p:Hid (gQ c=ByteArray.empty):=by unfold gQ;rw[hf];rfl
    clear hf;go_wp2_with fail
    go_ret2
    exact⟨by rw[m.out,l.out,f.out,p.out];rfl,k.out⟩
def QJ(d:Nat)(w:World)(r:Except Nat (Tree×Nat))(e:Ending)(w':World):Prop:=
 match r with
 | .error c=>e=rV (tV #[gV #[bV false,sV ByteArray.empty,lV none 0 0],iV .i64 0,iV .i64 c])
 | .ok (x,u)=>∃l t a m c,e=rV (tV #[gV #[bV l,sV t,lV a m c],iV .i64 u,iV .i64 0])/\aY d w' (fun b=>w.heap.size<=b) [bV l,sV t,lV a m c] x
def wv(d:Nat):Prop:=∀(w:World) (s:yB) (a:Nat),s.size<=4096->a+d=7->
 Calls yP 128 #[sV s,iV .i64 a] w fun e w'=>QJ d w (dd d s.data.toList) e w'/\yW w w'
def QT(d:Nat)(w:World)(r:Except Nat (List Tree))(e:Ending)(w':World):Prop:=
 match r with
 | .error c=>e=rV (tV #[lV none 0 0,iV .i64 c])/\c≠0
 | .ok ks=>∃k xs,e=rV (tV #[k,iV .i64 0])/\gC w' (fun b=>w.heap.size<=b) k ks.length xs/\ks.length<=64/\∀i,i<ks.length->aY d w' (fun b=>w.heap.size<=b) ((xs.drop (3*i)).take 3) (ks.getD i (ay []))
def zX(d:Nat):Prop:=∀(w:World) (s:yB) (a:Nat),s.size<=4096->a+d=7->
 Calls yP 145 #[sV s,iV .i64 a] w fun e w'=>QT d w (dU (dd d) 64 s.data.toList) e w'/\yW w w'
theorem Br(s)(l:Bool)(f n c:Nat)(h:jQ s l f n=.error c):c=5:=by
 unfold jQ at h;by_cases h1:s.length - f<n
 ·rw[QX h1] at h;cases h;rfl
 ·rw[QW h1] at h;cases h
theorem zg(s)(c:Nat)(h:eR s=.error c):c=5\/c=7:=by
 by_cases h0:s.length=0
 ·rw[EJ s h0] at h;cases h;exact .inl rfl
 by_cases h1:(s.getD 0 0).toNat<128
 ·rw[EL s h0 _ rfl h1] at h;cases h
 by_cases h2:(s.getD 0 0).toNat - (if 192<=(s.getD 0 0).toNat then 192 else 128)<=55
 ·rw[zd s h0 _ _ rfl h1 rfl h2] at h;exact .inl (Br _ _ _ _ _ h)
 rw[zf s h0 _ _ rfl h1 rfl h2] at h;generalize (s.getD 0 0).toNat - (if 192<=(s.getD 0 0).toNat then 192 else 128) - 55=q at h;by_cases h3:fs (s.drop 1) q=0
 ·rw[QX h3] at h;exact .inl (Br _ _ _ _ _ h)
 ·rw[QW h3] at h;cases h
  unfold fs at h3⊢;by_cases h4:(s.drop 1).length<q
  ·rw[QX h4];exact .inl rfl
  ·rw[QW h4] at h3⊢;by_cases h5:((s.drop 1).getD 0 0).toNat=0\/be ((s.drop 1).take q)<=55
   ·rw[QX h5];exact .inr rfl
   ·rw[QW h5] at h3;exact absurd rfl h3
theorem xe(d:Nat)(s)(c:Nat)(h:eR s=.error c):dd d s=.error c:=by unfold dd;rw[h]
theorem xf(d:Nat)(s)(f n:Nat)(h:eR s=.ok (false,f,n))(b:0<f)(a:fB ((s.drop f).take n)=true):dd d s=.error 7:=by
 unfold dd;rw[h];simp only;rw[QX trivial,QX ⟨b,a⟩]
theorem xd(d:Nat)(s)(f n:Nat)(h:eR s=.ok (false,f,n))(a:¬(0<f/\fB ((s.drop f).take n)=true)):dd d s=.ok (ay ((s.drop f).take n),f+n):=by
 unfold dd;rw[h];simp only;rw[QX trivial,QW a]
theorem AY(s)(f n:Nat)(h:eR s=.ok (true,f,n)):dd 0 s=.error 8:=by
 unfold dd;rw[h];simp
theorem AX(d:Nat)(s)(f n c:Nat)(h:eR s=.ok (true,f,n))(a:dU (dd d) 64 ((s.drop f).take n)=.error c):dd (d+1) s=.error c:=by
 conv=>lhs;unfold dd
 rw[h];simp only[Bool.true_eq_false,Ry];rw[a]
theorem AW(d:Nat)(s)(f n:Nat)(ks:List Tree)(h:eR s=.ok (true,f,n))(a:dU (dd d) 64 ((s.drop f).take n)=.ok ks):dd (d+1) s=.ok (bH ks,f+n):=by
 conv=>lhs;unfold dd
 rw[h];simp only[Bool.true_eq_false,Ry];rw[a]
theorem O6(s:yB)(f t:Nat):(s.extract f t).data.toList=(s.data.toList.drop f).take (t - f):=Lib.extract_data s f t
theorem xM{w w1 w2:World}{x y z p q r:Value}{T:TypeId}(b:w.heap.size<w1.heap.size)(k0:w1.cell? ⟨w.heap.size,0,none⟩=some x)(k1:w1.cell? ⟨w.heap.size,1,none⟩=some y)(k2:w1.cell? ⟨w.heap.size,2,none⟩=some z)
 (f0:w1.frozen? ⟨w.heap.size,0,none⟩=false) (f1:w1.frozen? ⟨w.heap.size,1,none⟩=false) (f2:w1.frozen? ⟨w.heap.size,2,none⟩=false)
 (c:Below (w1.alloc (.cells #[p,q,r] T)).heap.size (w1.alloc (.cells #[p,q,r] T)) w2):
 w2.cell? ⟨w.heap.size,0,none⟩=some x/\w2.cell? ⟨w.heap.size,1,none⟩=some y/\w2.cell? ⟨w.heap.size,2,none⟩=some z/\w2.frozen? ⟨w.heap.size,0,none⟩=false/\w2.frozen? ⟨w.heap.size,1,none⟩=false/\w2.frozen? ⟨w.heap.size,2,none⟩=false/\w2.cell? ⟨w1.heap.size,2,none⟩=some r:=by
 obtain⟨h1,h2⟩:=rf c;have a:w.heap.size<(w1.alloc (.cells #[p,q,r] T)).heap.size:=by simp;omega
 refine⟨?_,?_,?_,?_,?_,?_,?_⟩
 ·rw[h1 _ _ a,World.cell?_alloc_lt _ _ _ b];exact k0
 ·rw[h1 _ _ a,World.cell?_alloc_lt _ _ _ b];exact k1
 ·rw[h1 _ _ a,World.cell?_alloc_lt _ _ _ b];exact k2
 ·rw[h2 _ _ a,World.frozen?_alloc_past _ _ _ b];exact f0
 ·rw[h2 _ _ a,World.frozen?_alloc_past _ _ _ b];exact f1
 ·rw[h2 _ _ a,World.frozen?_alloc_past _ _ _ b];exact f2
 ·rw[h1 _ _ (by simp)];simp
theorem re{n w w1}(h:Below n w w1)(a b c):Below n w (((w1.setCell ⟨n,0,none⟩ a).setCell ⟨n,1,none⟩ b).setCell ⟨n,2,none⟩ c):=
 ((h.setCell (QU _) _).setCell (QU _) _).setCell (QU _) _
theorem nz{n w w1}(h:Below n w w1)(d:n<w1.heap.size)(a b c)(o:Obj):Below n w ((((w1.setCell ⟨n,0,none⟩ a).setCell ⟨n,1,none⟩ b).setCell ⟨n,2,none⟩ c).alloc o):=
 (re h a b c).alloc (by simp[World.setCell];omega) o
theorem xP(d:Nat)(I:∀e,d=e+1->zX e):wv d:=by
 intro w s J hs B7;have z:s.data.toList.length=s.size:=by simp
 have x:=fun w=>OB s hs w
 cases hh:eR s.data.toList with
 |error c=>
  rw[xe d _ c hh];have A2:=zg _ _ hh;rw[hh] at x;have q:Hid (∀w,Calls yP 143 #[sV s] w fun e w'=>e=rV (tV #[gV #[bV false,iV .i64 0,iV .i64 0],iV .i64 c])/\yW w w'):=x;have B0:((c:Int) != 0)=true:=by simp;omega
  clear x hh z A2;go_enter func128,ntmps128
  go_wp2_with fail
  refine(q.out _).mono ?_;rintro e w1 ⟨rfl,g⟩;obtain⟨k0,k1,k2,f0,f1,f2⟩:=fV g;have p:Hid (yW w w1):=((Q1 _ _).alloc (QU _) _).trans (g.mono (by simp));have m:w.heap.size<w1.heap.size:=by have:=g.size;simp at this;omega
  clear g;go_wp2_with fail
  exact Rf (v:=tV #[gV #[bV false,sV ⟨#[]⟩,lV none 0 0],iV .i64 0,iV .i64 (c:Int)]) (by simp[results,results128,go_sem,k0,k1,k2,m]) rfl ⟨rfl,nz p.out m _ _ _ _⟩
 |ok lfn=>
  obtain⟨l,f,n⟩:=lfn;obtain⟨H,G⟩:=ze _ l f n hh;have A3:f+n<=s.size:=by
   rcases G with⟨_,rfl,rfl,_⟩|⟨_,h,_⟩
   ·rw[z] at H;omega
   ·rw[z] at h;exact h
  rw[hh] at x;have q:Hid (∀w,Calls yP 143 #[sV s] w fun e w'=>e=rV (tV #[gV #[bV l,iV .i64 f,iV .i64 ((f+n:Nat):Int)],iV .i64 0])/\yW w w'):=x;have u:(s.extract f (f+n)).data.toList=(s.data.toList.drop f).take n:=by rw[O6,Nat.add_sub_cancel_left]
  have B:(s.extract f (f+n)).size=n:=by simp only[ByteArray.size_extract];omega
  have A8:Hid ((s.extract f (f+n)).data.toList=(s.data.toList.drop f).take n):=u;obtain⟨t,j⟩:=yX (f+n)
  rw[<-j] at A3;have B6:f<=t:=by omega
  have P:Hid (t=f+n):=j;cases l with
  |false=>
   by_cases r:0<f/\fB ((s.data.toList.drop f).take n)=true
   ·rw[xf d _ f n hh r.1 r.2];have Y:(0:Int)<(f:Int):=by omega
    have F:=fun w=>we (s.extract f t) w
    rw[j,u,r.2] at F;have O:Hid (∀w,Calls yP 144 #[sV (s.extract f t)] w fun e w'=>e=rV (bV true)/\w'=w):=by rw[j];exact F
    clear x hh z H G r F u B I;rw[<-j] at q;clear j;go_enter func128,ntmps128
    go_wp2_with fail
    refine(q.out _).mono ?_;rintro e w1 ⟨rfl,g⟩;obtain⟨k0,k1,k2,f0,f1,f2⟩:=fV g;have p:Hid (yW w w1):=((Q1 _ _).alloc (QU _) _).trans (g.mono (by simp));have m:w.heap.size<w1.heap.size:=by have:=g.size;simp at this;omega
    clear g;go_wp2_with fail
    refine(O.out _).mono ?_;rintro e w2 ⟨rfl,T⟩;subst T;go_wp2_with fail
    exact Rf (v:=tV #[gV #[bV false,sV ⟨#[]⟩,lV none 0 0],iV .i64 0,iV .i64 7]) (by simp[results,results128,go_sem,k0,k1,k2,m]) rfl ⟨rfl,nz p.out m _ _ _ _⟩
   ·rw[xd d _ f n hh r];have U:Hid (∀W:World,aY d W (fun b=>w.heap.size<=b) [bV false,sV (s.extract f t),lV none 0 0] (ay ((s.data.toList.drop f).take n))):=by
     intro W;have:=mi d W (fun b=>w.heap.size<=b) (s.extract f t) (lV none 0 0) (by rw[j,B];omega);rw[j,u,<-j] at this;exact this
    by_cases Y:f=0
    ·subst Y;rw[<-j] at q;clear x hh z H G r u B I j;go_enter func128,ntmps128
     go_wp2_with fail
     refine(q.out _).mono ?_;rintro e w1 ⟨rfl,g⟩;obtain⟨k0,k1,k2,f0,f1,f2⟩:=fV g;have p:Hid (yW w w1):=((Q1 _ _).alloc (QU _) _).trans (g.mono (by simp));have m:w.heap.size<w1.heap.size:=by have:=g.size;simp at this;omega
     clear g;go_wp2_with fail
     go_region
     all_goals go_wp2_with fail
     all_goals exact Rf (v:=tV #[gV #[bV false,sV (s.extract 0 t),lV none 0 0],iV .i64 (t:Int),iV .i64 0]) (by simp[results,results128,go_sem,k0,k1,k2,m]) rfl ⟨⟨false,s.extract 0 t,none,0,0,by rw[<-P.out],U.out _⟩,(nz p.out m _ _ _ _).drew⟩
    ·have X:fB ((s.data.toList.drop f).take n)=false:=by
      cases h:fB ((s.data.toList.drop f).take n) with
      |false=>rfl
      |true=>exact absurd ⟨by omega,h⟩ r
     have B5:(0:Int)<(f:Int):=by omega
     have F:=fun w=>we (s.extract f t) w
     rw[j,u,X] at F;have O:Hid (∀w,Calls yP 144 #[sV (s.extract f t)] w fun e w'=>e=rV (bV false)/\w'=w):=by rw[j];exact F
     rw[<-j] at q;clear x hh z H G r u B I j F X;go_enter func128,ntmps128
     go_wp2_with fail
     refine(q.out _).mono ?_;rintro e w1 ⟨rfl,g⟩;obtain⟨k0,k1,k2,f0,f1,f2⟩:=fV g;have p:Hid (yW w w1):=((Q1 _ _).alloc (QU _) _).trans (g.mono (by simp));have m:w.heap.size<w1.heap.size:=by have:=g.size;simp at this;omega
     clear g;go_wp2_with fail
     refine(O.out _).mono ?_;rintro e w2 ⟨rfl,T⟩;subst T;go_wp2_with fail
     go_region
     all_goals go_wp2_with fail
     all_goals exact Rf (v:=tV #[gV #[bV false,sV (s.extract f t),lV none 0 0],iV .i64 (t:Int),iV .i64 0]) (by simp[results,results128,go_sem,k0,k1,k2,m]) rfl ⟨⟨false,s.extract f t,none,0,0,by rw[<-P.out],U.out _⟩,(nz p.out m _ _ _ _).drew⟩
  |true=>
   cases d with
   |zero=>
    rw[AY _ f n hh];have A5:(6:Int)<(J:Int):=by omega
    rw[<-j] at q;clear x hh z H G u B I j;go_enter func128,ntmps128
    go_wp2_with fail
    refine(q.out _).mono ?_;rintro e w1 ⟨rfl,g⟩;obtain⟨k0,k1,k2,f0,f1,f2⟩:=fV g;have p:Hid (yW w w1):=((Q1 _ _).alloc (QU _) _).trans (g.mono (by simp));have m:w.heap.size<w1.heap.size:=by have:=g.size;simp at this;omega
    clear g;go_wp2_with fail
    exact Rf (v:=tV #[gV #[bV false,sV ⟨#[]⟩,lV none 0 0],iV .i64 0,iV .i64 8]) (by simp[results,results128,go_sem,k0,k1,k2,m]) rfl ⟨rfl,nz p.out m _ _ _ _⟩
   |succ d=>
    have A5:¬((6:Int)<(J:Int)):=by omega
    have E:=fun w=>I d rfl w (s.extract f t) (J+1) (by rw[j,B];omega) (by omega)
    have Q:((J+1:Nat):Int)=(J:Int)+1:=by omega
    rw[j,u,<-j,Q] at E;cases hk:dU (dd d) 64 ((s.data.toList.drop f).take n) with
    |error c=>
     rw[AX d _ f n c hh hk];rw[hk] at E;have M:Hid (∀w:World,Calls yP 145 #[sV (s.extract f t),iV .i64 ((J:Int)+1)] w fun e w'=>QT d w (.error c) e w'/\yW w w'):=E;rw[<-j] at q;clear x hh z H G u B I j E hk Q;go_enter func128,ntmps128
     go_wp2_with fail
     refine(q.out _).mono ?_;rintro e w1 ⟨rfl,g⟩;obtain⟨k0,k1,k2,f0,f1,f2⟩:=fV g;have p:Hid (yW w w1):=((Q1 _ _).alloc (QU _) _).trans (g.mono (by simp));have m:w.heap.size<w1.heap.size:=by have:=g.size;simp at this;omega
     clear g;go_wp2_with fail
     refine(M.out _).mono ?_;rintro e w2 ⟨⟨rfl,B3⟩,y⟩;have B4:((c:Int) != 0)=true:=by simp;omega
     obtain⟨m0,m1,m2,q0,q1,q2,a2⟩:=xM m k0 k1 k2 f0 f1 f2 y;have N:Hid (yW w w2):=(p.out.alloc (Nat.le_of_lt m) _).trans (y.mono (by simp;omega));have A7:w.heap.size<w2.heap.size:=by have:=y.size;simp at this;omega
     clear y p;go_wp2_with fail
     exact Rf (v:=tV #[gV #[bV false,sV ⟨#[]⟩,lV none 0 0],iV .i64 0,iV .i64 (c:Int)]) (by simp[results,results128,go_sem,m0,m1,m2]) rfl ⟨rfl,re N.out _ _ _⟩
    |ok ks=>
     rw[AW d _ f n ks hh hk];rw[hk] at E;have M:Hid (∀w:World,Calls yP 145 #[sV (s.extract f t),iV .i64 ((J:Int)+1)] w fun e w'=>QT d w (.ok ks) e w'/\yW w w'):=E;rw[<-j] at q;clear x hh z H G u B I j E hk Q;go_enter func128,ntmps128
     go_wp2_with fail
     refine(q.out _).mono ?_;rintro e w1 ⟨rfl,g⟩;obtain⟨k0,k1,k2,f0,f1,f2⟩:=fV g;have p:Hid (yW w w1):=((Q1 _ _).alloc (QU _) _).trans (g.mono (by simp));have m:w.heap.size<w1.heap.size:=by have:=g.size;simp at this;omega
     clear g;go_wp2_with fail
     refine(M.out _).mono ?_;rintro e w2 ⟨⟨k,xs,rfl,R,h64,Z⟩,y⟩;obtain⟨C,D,A4⟩:∃C D,k=lV C ks.length D:=by
      rcases R.oa with⟨h0,a,c,rfl⟩|⟨b,o,c,rfl,_⟩
      ·exact⟨a,c,by rw[h0]⟩
      ·exact⟨_,c,rfl⟩
     subst A4;obtain⟨K,L⟩:=yX ks.length
     have A9:Hid (K=ks.length):=L;obtain⟨m0,m1,m2,q0,q1,q2,a2⟩:=xM m k0 k1 k2 f0 f1 f2 y;have N:Hid (yW w w2):=(p.out.alloc (Nat.le_of_lt m) _).trans (y.mono (by simp;omega));have A7:w.heap.size<w2.heap.size:=by have:=y.size;simp at this;omega
     have A0:∀(A:World),(∀b,b≠w.heap.size->A.heap[b]? =w2.heap[b]?)->aY (d+1) A (fun b=>w.heap.size<=b) [bV true,sV ⟨#[]⟩,lV C ks.length D] (bH ks):=fun A h3=>by
      have V:∀b,(w1.heap.size+1<=b)->b<w2.heap.size->(w.heap.size<=b)/\A.heap[b]? =w2.heap[b]? :=fun b r _=>⟨by omega,h3 b (by omega)⟩
      have A6:gC w2 (fun b=>w1.heap.size+1<=b) (lV C ks.length D) ks.length xs:=by simpa using R
      refine vG d A _ _ (lV C ks.length D) ks xs (A6.move V) (by omega) (fun i hi=>aY.move (w:=w2) (S:=fun b=>w1.heap.size+1<=b) V d _ _ (by simpa using Z i hi))
     have A1:Hid (∀(A:World),(∀b,b≠w.heap.size->A.heap[b]? =w2.heap[b]?)->aY (d+1) A (fun b=>w.heap.size<=b) [bV true,sV ⟨#[]⟩,lV C K D] (bH ks)):=by rw[L];exact A0
     rw[<-L];clear y p R Z A0 L;go_wp2_with fail
     go_region
     all_goals go_wp2_with fail
     all_goals exact Rf (v:=tV #[gV #[bV true,sV ⟨#[]⟩,lV C K D],iV .i64 (t:Int),iV .i64 0]) (by simp[results,results128,go_sem,m0,m1,m2]) rfl ⟨⟨true,⟨#[]⟩,C,K,D,by rw[<-P.out],A1.out _ (fun b r=>by simp[Rc,r,World.drew])⟩,(re N.out _ _ _).drew⟩
theorem xg(f:yL->Except Nat (Tree×Nat))(b:∀s c,f s=.error c->c≠0):∀(m:Nat) (a) (c:Nat),dU f m a=.error c->c≠0
 | 0,a,c,h=>by
  unfold dU at h
  by_cases h0:a.length=0
  ·rw[QX h0] at h;cases h
  ·rw[QW h0] at h;cases h;decide
 |m+1,a,c,h=>by
  unfold dU at h
  by_cases h0:a.length=0
  ·rw[QX h0] at h;cases h
  ·rw[QW h0] at h
   simp only at h
   cases hk:f a with
   |error e=>rw[hk] at h;cases h;exact b _ _ hk
   |ok ku=>
    obtain⟨k,u⟩:=ku
    rw[hk] at h
    simp only at h
    cases hr:dU f m (a.drop u) with
    |error e=>rw[hr] at h;cases h;exact xg f b m _ _ hr
    |ok ks'=>rw[hr] at h;cases h
theorem AV:∀(d:Nat) (s) (c:Nat),dd d s=.error c->c≠0:=by
 intro d;induction d with
 |zero=>
  intro s c h;cases hh:eR s with
  |error e=>rw[xe 0 s e hh] at h;cases h;have:=zg _ _ hh;omega
  |ok lfn=>
   obtain⟨l,f,n⟩:=lfn;cases l with
   |true=>rw[AY s f n hh] at h;cases h;decide
   |false=>
    by_cases a:0<f/\fB ((s.drop f).take n)=true
    ·rw[xf 0 s f n hh a.1 a.2] at h;cases h;decide
    ·rw[xd 0 s f n hh a] at h;cases h
 |succ d ih=>
  intro s c h;cases hh:eR s with
  |error e=>rw[xe (d+1) s e hh] at h;cases h;have:=zg _ _ hh;omega
  |ok lfn=>
   obtain⟨l,f,n⟩:=lfn;cases l with
   |true=>
    cases hk:dU (dd d) 64 ((s.drop f).take n) with
    |error e=>rw[AX d s f n e hh hk] at h;cases h;exact xg _ ih _ _ _ hk
    |ok ks=>rw[AW d s f n ks hh hk] at h;cases h
   |false=>
    by_cases a:0<f/\fB ((s.drop f).take n)=true
    ·rw[xf (d+1) s f n hh a.1 a.2] at h;cases h;decide
    ·rw[xd (d+1) s f n hh a] at h;cases h
def lE(ks:List Tree)(r:Except Nat (List Tree)):Except Nat (List Tree):=match r with
 | .error e=>.error e
 | .ok rs=>.ok (ks++rs)
theorem Ja(f:yL->Except Nat (Tree×Nat))(m:Nat)(a:yL)(h:a.length=0):dU f m a=.ok []:=by unfold dU;rw[QX h]
theorem Jc(f:yL->Except Nat (Tree×Nat))(a:yL)(h:a.length≠0):dU f 0 a=.error 8:=by unfold dU;rw[QW h]
theorem Jd(f:yL->Except Nat (Tree×Nat))(m:Nat)(a:yL)(c:Nat)(h:a.length≠0)(b:f a=.error c):dU f (m+1) a=.error c:=by
 unfold dU;rw[QW h];simp only;rw[b]
theorem IZ(f:yL->Except Nat (Tree×Nat))(m:Nat)(a:yL)(k:Tree)(u:Nat)(h:a.length≠0)(b:f a=.ok (k,u)):dU f (m+1) a=lE [k] (dU f m (a.drop u)):=by
 conv=>lhs;unfold dU
 rw[QW h];simp only;rw[b];simp only;unfold lE;cases dU f m (a.drop u)<;>rfl
theorem NM(ks:List Tree)(k:Tree)(r:Except Nat (List Tree)):lE ks (lE [k] r)=lE (ks++[k]) r:=by
 unfold lE;cases r<;>simp
theorem Z8:(yP.info? 155).map (fun i=>(i.zero,i.size,i.bytes))=some (some (gV #[bV false,sV ⟨#[]⟩,lV none 0 0]),3,48):=by kernel_rfl
theorem CG(W:World)(x y z){H}(b:W.heap.size=H):∀j u,[x,y,z][j]? =some u->(W.alloc (.cells #[x,y,z] 155)).cell? ((⟨H,0,none⟩:Addr).add j)=some u:=by
 subst b;intro j u a;match j,a with
 | 0,a=>simp at a;subst a;simp[Addr.add]
 | 1,a=>simp at a;subst a;simp[Addr.add]
 | 2,a=>simp at a;subst a;simp[Addr.add]
 | (j+3),a=>simp at a
theorem CL{w:World}{base v n a}(h:w.ownsRow base 155 3 v n a):gC w (fun b=>base<=b) v n a:=by
 refine⟨by rw[h.1];omega,?_⟩;rcases h.2 with⟨rfl,rfl⟩|⟨g,cap,d,rfl,c,_⟩
 ·exact .inl ⟨rfl,_,_,rfl⟩
 ·refine .inr ⟨g,0,cap,rfl,c,fun j e=>?_⟩;rw[R5];exact h.cellAt j (by omega)
theorem Cc(d:Nat)(ih:wv d):zX d:=by
 intro w s P hs A6;obtain⟨i0,B8,C4,C5,C6⟩:=Sf Z8;have S:=aa ih;have T:=aa A6;obtain⟨R,G⟩:=yX (dU (dd d) 64 s.data.toList)
 rw[<-G];have U:Hid (∀c,R=.error c->c≠0):=fun c h=>by rw[G] at h;exact xg _ (AV d) _ _ _ h
 have W:R=lE [] (dU (dd d) (64 - 0) s.data.toList):=by
  rw[G];unfold lE;cases dU (dd d) 64 s.data.toList<;>rfl
 have V:=aa W;clear ih G W A6;go_enter func145,ntmps145
 go_wp2_with fail
 go_loopg [0,6] s.size (fun g c v wr=>∃(b:yB) (m:Nat) (a:Option Addr) (cap:Nat) (ks:List Tree) (f:List Value),g=b.size/\b.size<=4096/\m<=64/\c=sV b/\v=lV a m cap/\
  Hid (R=lE ks (dU (dd d) (64 - m) b.data.toList))/\Hid (ks.length=m)/\wr.ownsRow w.heap.size 155 3 (lV a m cap) m f/\
  Hid (∀i,i<m->aY d wr (fun q=>w.heap.size<=q/\(Value.slice a m cap).ownBlock≠some q) ((f.drop (3*i)).take 3) (ks.getD i (ay [])))/\yW w wr)
 case atStart=>exact⟨s,0,none,0,[],[],rfl,hs,by omega,rfl,rfl,V.out,rfl,⟨rfl,.inl ⟨rfl,rfl⟩⟩,fun i h=>by omega,Q1 _ _⟩
 case round=>
  obtain⟨b,m,a,cap,ks,f,hg,Z,hm,rfl,rfl,H,C,A7,A3,A0⟩:=hrel;have HG:=aa hg;have J:=aa A7;have A:=aa A0;have A2:b.data.toList.length=b.size:=by simp
  have E:=aa A2;clear hg A7 A0 A2 V;by_cases h0:0<b.size
  ·have B5:(0:Int)<(b.size:Int):=by omega
   by_cases h64:m=64
   ·have B6:((m:Int) == 64)=true:=beq_iff_eq.2 (by omega);have t:R=.error 8:=by
     rw[H.out,h64,Nat.sub_self,Jc _ _ (by rw[E.out];omega)];rfl
    have B:=aa t;clear t;go_wp2_with fail
    go_ret2
    exact⟨by rw[B.out];exact⟨rfl,by decide⟩,A.out⟩
   ·have B6:((m:Int) == 64)=false:=RW.2 (by omega);have e64:64 - m=(64 - (m+1))+1:=by omega
    cases hT:dd d b.data.toList with
    |error c=>
     have t:R=.error c:=by
      rw[H.out,e64,Jd _ _ _ c (by rw[E.out];omega) hT];rfl
     have C7:((c:Int) != 0)=true:=by have:=U.out c t;simp;omega
     have B:=aa t;have L:=aa hT;clear t hT;go_wp2_with fail
     refine(S.out _ b P Z T.out).mono ?_;rw[L.out];rintro e w1 ⟨rfl,z⟩;have y:=aa (A.out.trans (z.mono A.out.size));clear z;go_wp2_with fail
     go_ret2
     refine⟨by rw[B.out];exact⟨rfl,U.out c B.out⟩,?_⟩;exact y.out.alloc y.out.size _
    |ok xu=>
     obtain⟨x,u⟩:=xu;have HS:Hid (R=lE (ks++[x]) (dU (dd d) (64 - (m+1)) (b.data.toList.drop u))):=by
      rw[H.out,e64,IZ _ _ _ x u (by rw[E.out];omega) hT,NM];rfl
     obtain⟨u1,u2,_,_⟩:=AU d _ x u hT;have C8:u<=b.size:=by rw[E.out] at u2;exact u2
     have L:=aa hT;clear hT e64;go_wp2_with fail
     refine(S.out _ b P Z T.out).mono ?_;rw[L.out];rintro e w1 ⟨⟨o,r,l,p,n,rfl,A5⟩,z⟩;have B3:=aa A5;have y:=aa (A.out.trans (z.mono A.out.size));have Q:=aa z;have K:=aa (qz J.out z);clear A5 z;go_upto_region 8 with fail
     go_wp2_with (at_builtin;refine RG _ rfl (.tmp 26) (.tmp 28) 153 rfl w.heap.size 155 i0 _ 3 48 underlying153 B8 C4 C5 C6 rfl (by decide) (lV a m cap) m f rfl ((K.out.alloc _).alloc _) ⟨w1.heap.size+1,0,none⟩ 1 1 [bV o,sV r,lV l p n] rfl rfl ?c1 ?c2 (by omega) ?c3 ?c4 ?c5 _ rfl ?c6)
     case c1=>exact CG (w1.alloc _) _ _ _ (by simp)
     case c2=>intro v hv;simp at hv;rcases hv with rfl|rfl|rfl<;>rfl
     case c3=>unfold maxLen;omega
     case c4=>omega
     case c5=>have:=y.out.size;simp;omega
     intro g2 F w2 A8 O Y C1;have X:∀q,q<w1.heap.size->((w1.alloc (.cells #[bV o,sV r,lV l p n] 155)).alloc (.cells #[bV o,sV r,lV l p n] 155)).heap[q]? =w1.heap[q]? :=fun q j=>by
      rw[RL _ _ _ (by simp;omega),RL _ _ _ j]
     have N:∀q,q<w1.heap.size->(Value.slice a m cap).ownBlock≠some q->w2.heap[q]? =w1.heap[q]? :=fun q j D=>by
      rw[<-X q j];exact O.block q (by simp;omega) (fun h=>D h.symm)
     have M:∀q,q<w1.heap.size->(Value.slice a m cap).ownBlock≠some q->(Value.slice (qA g2) (m+1) F).ownBlock≠some q:=fun q j D h=>by
      have B7:g2=q:=by simpa [Value.ownBlock] using h
      rcases Y with h2|h2
      ·rw[B7] at h2;exact D h2
      ·omega
     have A1:yW w w2:=((y.out.alloc y.out.size _).alloc (by have:=y.out.size;simp;omega) _).grown O (by have:=y.out.size;simp;omega) (fun k hk=>(K.out.lt k hk).1);have C2:=Q.out.size;have A4:∀i,i<m+1->aY d w2 (fun q=>w.heap.size<=q/\(Value.slice (qA g2) (m+1) F).ownBlock≠some q) (((f++[Value.bool o,Value.string r,Value.slice l p n]).drop (3*i)).take 3) ((ks++[x]).getD i (ay [])):=by
      intro i hi;have C3:f.length=3*m:=by have:=K.out.1;omega
      by_cases B9:i<m
      ·have e1:((f++[Value.bool o,Value.string r,Value.slice l p n]).drop (3*i)).take 3=(f.drop (3*i)).take 3:=by
        rw[List.drop_append_of_le_length (by omega),List.take_append_of_le_length (by rw[Q8];omega)]
       have e2:(ks++[x]).getD i (ay [])=ks.getD i (ay []):=by
        rw[Q3,RA (by have:=C.out;omega),Q3]
       rw[e1,e2];refine aY.move (w:=wr) (fun q j I=>?_) d _ _ (A3.out i B9);have A9:q<w1.heap.size:=by omega
       exact⟨⟨j.1,M q A9 j.2⟩,(N q A9 j.2).trans (Q.out.block q I)⟩
      ·have C0:i=m:=by omega
       subst C0;have e1:((f++[Value.bool o,Value.string r,Value.slice l p n]).drop (3*i)).take 3=[bV o,sV r,lV l p n]:=by
        rw[<-C3,List.drop_left];rfl
       have e2:(ks++[x]).getD i (ay [])=x:=by
        rw[Q3,<-C.out,RY (QU _),Nat.sub_self];rfl
       rw[e1,e2];refine aY.move (w:=w1) (fun q j I=>?_) d _ _ B3.out;have D:(Value.slice a i cap).ownBlock≠some q:=fun h=>by have:=(J.out.lt q h).2;omega
       exact⟨⟨Q7 A.out.size j,M q I D⟩,N q I D⟩
     have B2:=aa A4;have B4:=aa A8;have B0:=aa A1;clear X N M A1 A4 A8 O Y C1 C2;have C9:(u:Int)<=(b.size:Int):=by omega
     go_wp2_with fail
     go_roundg (b.size - u)
     case measure=>have:=HG.out;omega
     case rel=>
      refine⟨b.extract u b.size,m+1,some ⟨g2,0,none⟩,F,ks++[x],f++[Value.bool o,Value.string r,Value.slice l p n],by simp,by simp;omega,by omega,rfl,rfl,?_,by show(ks++[x]).length=m+1;rw[Q4,C.out];rfl,B4.out,B2.out,B0.out⟩;have e:(b.extract u b.size).data.toList=b.data.toList.drop u:=by rw[Lib.extract_data,RI (by simp)]
      show R=_;rw[e];exact HS.out
  ·have B5:¬((0:Int)<(b.size:Int)):=by omega
   have t:R=.ok ks:=by
    rw[H.out,Ja _ _ _ (by rw[E.out];omega)];unfold lE;simp
   have B:=aa t;clear t;go_wp2_with fail
   go_ret2
   refine⟨?_,A.out⟩;rw[B.out];refine⟨lV a m cap,f,rfl,?_,by rw[C.out];exact hm,fun i hi=>aY.move (w:=wr) (fun q j _=>⟨j.1,rfl⟩) d _ _ (A3.out i (by rw[<-C.out];exact hi))⟩;rw[C.out];exact CL J.out
theorem BY:∀d,wv d/\zX d
 | 0=>⟨xP 0 (fun e h=>by omega),Cc 0 (xP 0 (fun e h=>by omega))⟩
 |d+1=>
  have h:wv (d+1):=xP (d+1) (fun e h=>by
   have:e=d:=by omega
   subst this
   exact(BY e).2)
  ⟨h,Cc (d+1) h⟩
def Aq(w:World)(r:Except Nat Tree)(e:Ending)(w':World):Prop:=
 match r with
 | .error c=>e=rV (tV #[gV #[bV false,sV ByteArray.empty,lV none 0 0],iV .i64 c])/\c≠0
 | .ok x=>∃l t a m c,e=rV (tV #[gV #[bV l,sV t,lV a m c],iV .i64 0])/\aY 6 w' (fun b=>w.heap.size<=b) [bV l,sV t,lV a m c] x
theorem O2(s:yL)(h:4096<s.length):fL s=.error 1:=by unfold fL;rw[QX h]
theorem O4(s:yL)(h:¬4096<s.length)(c:Nat)(a:dd 6 s=.error c):fL s=.error c:=by unfold fL;rw[QW h,a]
theorem O3(s:yL)(h:¬4096<s.length)(x:Tree)(u:Nat)(a:dd 6 s=.ok (x,u))(b:u<s.length):fL s=.error 6:=by unfold fL;rw[QW h,a];simp only;rw[QX b]
theorem O5(s:yL)(h:¬4096<s.length)(x:Tree)(u:Nat)(a:dd 6 s=.ok (x,u))(b:¬u<s.length):fL s=.ok x:=by unfold fL;rw[QW h,a];simp only;rw[QW b]
theorem vT(w:World)(s:yB)(D:s.size<=maxLen):
 Calls yP 100 #[sV s] w fun e w'=>Aq w (fL s.data.toList) e w'/\yW w w':=by
 unfold maxLen at D;have f:s.data.toList.length=s.size:=by simp
 by_cases h4:4096<s.size
 ·rw[O2 _ (by rw[f];exact h4)];have C:(4096:Int)<(s.size:Int):=by omega
  clear f;go_enter func100,ntmps100
  go_wp2_with fail
  exact Rf (v:=tV #[gV #[bV false,sV ⟨#[]⟩,lV none 0 0],iV .i64 1]) (by simp[results,results100,go_sem]) rfl ⟨⟨rfl,by decide⟩,(Q1 _ _).alloc (QU _) _⟩
 have C:¬((4096:Int)<(s.size:Int)):=by omega
 have j:¬4096<s.data.toList.length:=by rw[f];exact h4
 have h:=fun w=>(BY 6).1 w s 1 (by omega) rfl
 cases hT:dd 6 s.data.toList with
 |error c=>
  rw[O4 _ j c hT];have q:=AV 6 _ _ hT;have F:((c:Int) != 0)=true:=by simp;omega
  rw[hT] at h;have n:=aa h;have A:=aa q;clear f j hT h q;go_enter func100,ntmps100
  go_wp2_with fail
  refine(n.out _).mono ?_;rintro e w1 ⟨rfl,d⟩;obtain⟨k0,k1,k2,f0,f1,f2⟩:=fV d;have k:=aa (((Q1 _ _).alloc (QU _) _).trans (d.mono (by simp)));have g:w.heap.size<w1.heap.size:=by have:=d.size;simp at this;omega
  clear d;go_wp2_with fail
  exact Rf (v:=tV #[gV #[bV false,sV ⟨#[]⟩,lV none 0 0],iV .i64 (c:Int)]) (by simp[results,results100,go_sem,k0,k1,k2,g]) rfl ⟨⟨rfl,A.out⟩,nz k.out g _ _ _ _⟩
 |ok xu=>
  obtain⟨x,u⟩:=xu;rw[hT] at h;have n:=aa h;by_cases z:u<s.size
  ·rw[O3 _ j x u hT (by rw[f];exact z)];have E:(u:Int)<(s.size:Int):=by omega
   clear f j hT h;go_enter func100,ntmps100
   go_wp2_with fail
   refine(n.out _).mono ?_;rintro e w1 ⟨⟨l,t,a,m,c,rfl,o⟩,d⟩;obtain⟨k0,k1,k2,f0,f1,f2⟩:=fV d;have k:=aa (((Q1 _ _).alloc (QU _) _).trans (d.mono (by simp)));have g:w.heap.size<w1.heap.size:=by have:=d.size;simp at this;omega
   clear d o;go_wp2_with fail
   exact Rf (v:=tV #[gV #[bV false,sV ⟨#[]⟩,lV none 0 0],iV .i64 6]) (by simp[results,results100,go_sem,k0,k1,k2,g]) rfl ⟨⟨rfl,by decide⟩,nz k.out g _ _ _ _⟩
  ·rw[O5 _ j x u hT (by rw[f];exact z)];have E:¬((u:Int)<(s.size:Int)):=by omega
   clear f j hT h;go_enter func100,ntmps100
   go_wp2_with fail
   refine(n.out _).mono ?_;rintro e w1 ⟨⟨l,t,a,m,c,rfl,o⟩,d⟩;obtain⟨k0,k1,k2,f0,f1,f2⟩:=fV d;have k:=aa (((Q1 _ _).alloc (QU _) _).trans (d.mono (by simp)));have g:w.heap.size<w1.heap.size:=by have:=d.size;simp at this;omega
   have y:∀(i:World),(∀b,b<w1.heap.size->b≠w.heap.size->i.heap[b]? =w1.heap[b]?)->aY 6 i (fun b=>w.heap.size<=b) [bV l,sV t,lV a m c] x:=fun i h3=>by
    refine aY.move (w:=w1) (S:=fun b=>w.heap.size+1<=b) (fun b p r=>⟨by omega,h3 b r (by omega)⟩) 6 _ _ (by simpa using o)
   have B:=aa y;clear d o y;go_wp2_with fail
   exact Rf (v:=tV #[gV #[bV l,sV t,lV a m c],iV .i64 0]) (by simp[results,results100,go_sem,k0,k1,k2,g]) rfl ⟨⟨l,t,a,m,c,rfl,B.out _ (fun b r p=>by
    rw[RL _ _ _ (by simp[World.setCell];omega)];simp[Rc,p])⟩,nz k.out g _ _ _ _⟩
end Go.Proofs.YtiimkkahmpmhdaaGreatDoor
