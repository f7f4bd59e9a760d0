import Derived.Test.YteaodagofkcgbaaGreatDoorZc
open Go.Proofs.Tryz
open Go.Proofs.Tryz renaming prog→yP
open Go.Value renaming string→sV,pointer→pV,int→iV,slice→lV,bool→bV,tuple→tV,agg→gV
open Go.Ending renaming returned→rV
namespace Go.Proofs.YteaodagofkcgbaaGreatDoor
open Go.RowKit
set_option maxRecDepth 100000
set_option maxHeartbeats 0
set_option linter.all false
def jD(h:aH):Array Value:=#[sV h.addr,iV .i64 h.n,sV h.aI,sV h.code,lV h.sa h.az.length h.sc]
def uX(e:Ending):Prop:=∃r:yB,e=rV (sV r)/\r.size=32
def kS(Z:Bool->Prop)(e:Ending):Prop:=∃b:Bool,e=rV (bV b)/\Z b
def oM(W:World)(a:Option Addr)(cs:List yB):Prop:=∀i p,cs[i]? =some p->∃g,a=some ⟨g,0,none⟩/\g<W.heap.size/\W.cell? ⟨g,i,none⟩=some (sV p)
def fh(n:Nat)(cs:List yB):Prop:=cs.length<=n/\∀x∈cs,x.size<=4096
def fh.append{a b c d}(h:fh a c)(k:fh b d):fh (a+b) (c++d):=⟨by have:=h.1;have:=k.1;rw[Uq];omega,λx e=>(UA.1 e).elim (h.2 x) (k.2 x)⟩
def fh.mono{a b c}(h:fh a c)(k:a<=b):fh b c:=⟨Ut h.1 k,h.2⟩
def fh.one{x:yB}(h:x.size<=4096):fh 1 [x]:=⟨Ug _,λy a=>by rwa[Uo.1 a]⟩
def xS(n:Nat)(v:Value)(P:Option Addr->Nat->List yB->Prop):Prop:=∃a cap cs,v=lV a cs.length cap/\fh n cs/\P a cap cs
def Su(w:World)(c a sb f t N p:Nat)(m:Option Addr)(i:Option Addr)(k j:Nat)(RT:yB)(l g y:World->Prop) (u x z:Nat->World->Prop)(G:yH (l w))(E:yH (∀W,l W->W.cell? ⟨a,1,none⟩=some (pV (qA f))/\a<W.heap.size))(F:yH (∀W,g W->W.cell? ⟨a,1,none⟩=some (pV (qA f))/\W.cell? ⟨a,0,none⟩=some (pV (qA sb))/\a<W.heap.size))(Z:yH (∀n W,u n W->(W.cell? ⟨c,0,none⟩=some (lV m N p)/\c<W.heap.size)/\W.cell? ⟨a,0,none⟩=some (pV (qA sb))/\W.cell? ⟨a,2,none⟩=some (lV i k j)/\W.cell? ⟨a,4,none⟩=some (pV (qA t))/\a<W.heap.size))(T:yH (∀W,l W->yC 37 #[pV (qA f)] W λe w'=>e=rV (sV RT)/\l w'))(X:yH (∀W,l W->yC 38 #[pV (qA f)] W λe w'=>e=rV (sV RT)/\g w'))(U:yH (∀W,g W->yC 37 #[pV (qA f)] W λe w'=>e=rV (sV RT)/\g w'))(R:yH (∀W,g W->yC 11 #[pV (qA sb),sV RT] W λe w'=>∃n,e=rV (tV #[pV (qA n),i6 0])/\u n w'))(Y:yH (∀n W,u n W->∃a' q o w',(Builtin.append_ #[27,27] 27 #[lV m N p,lV (some ⟨W.heap.size+1,0,none⟩) 1 1]).run yP ((W.drew.alloc (.cells #[pV (qA sb),pV (qA n),lV i k j,lV i k j,pV (qA t)] 47)).alloc (.cells #[pV (qA W.heap.size)] 41))=.ok (lV a' q o) w'/\((w'.cell? ⟨c,0,none⟩=some (lV m N p)/\w'.cell? ⟨a,0,none⟩=some (pV (qA sb))/\w'.cell? ⟨a,2,none⟩=some (lV i k j)/\w'.cell? ⟨a,4,none⟩=some (pV (qA t)))/\w'.frozen? ⟨c,0,none⟩=false/\c<w'.heap.size)/\x n (w'.setCell ⟨c,0,none⟩ (lV a' q o))))(S:yH (∀n W,x n W->yC 18 #[pV (qA c),pV (qA a)] W λe w'=>e=rV (tV #[])/\z n w'))(V:yH (∀n W,z n W->yC 37 #[pV (qA n)] W λe w'=>e=rV (sV RT)/\y w')):yC 16 #[pV (qA c),pV (qA a)] w λe w'=>e=rV (bV true)/\yH (y w'):=by
 obtain⟨c1,d⟩:=E.o _ G.o;have s:=aa (T.o _ G.o);go_enter func16,ntmps16
 go_wp2_with fail
 apply s.m;rintro e w1⟨rfl,A⟩;have Q:=aa (X.o _ A);clear c1 d;obtain⟨c1,d⟩:=E.o _ A;clear A;go_wp2_with fail
 apply Q.m;rintro e w2⟨rfl,B⟩;have s:=aa (U.o _ B);clear c1 d;obtain⟨c1,_,d⟩:=F.o _ B;clear B;go_wp2_with fail
 apply s.m;rintro e w3⟨rfl,C⟩;have O:=aa (R.o _ C);clear c1 d;obtain⟨_,c0,d⟩:=F.o _ C;clear C;go_wp2_with fail
 apply O.m;rintro e w4⟨n,rfl,D⟩;clear c0 d;obtain⟨⟨k0,A4⟩,b0,b2,b4,d⟩:=Z.o _ _ D;obtain⟨a',q,o,w',M,⟨⟨kv,A5,A6,A7⟩,kf,kw⟩,I⟩:=Y.o _ _ D;have HR:=aa M;have A0:=aa I;clear M I D;go_upto_region 7 with fail
 go_cut [6] (λr wx=>r=sV RT/\yH (x n wx))
 .refine yd 28 (λw'=>w'.cell? ⟨c,0,none⟩=some (lV m N p)/\w'.cell? ⟨a,0,none⟩=some (pV (qA sb))/\w'.cell? ⟨a,2,none⟩=some (lV i k j)/\w'.cell? ⟨a,4,none⟩=some (pV (qA t))) (by kernel_rfl) (by go_keep) (λA2=>?_);iterate 23 (refine ye (v:=?_) rfl (by kernel_rfl) (λ_ _ _ h=>h) A2 (Or.inl ⟨by rfl,?_⟩) ?_;rotate_left;(intro w A3;(try dsimp only at A3);go_simp;try with_reducible rfl);(try simp only[Act.put,List.setIfInBounds_toArray,List.set_cons_zero,List.set_cons_succ]))
  refine ji rfl (by kernel_rfl) (λK b=>?_);go_simp
  refine b.o _ _ (λ_=>?s23) ?r23;case s23=>((try dsimp only);go_keep)
  clear b K;refine ji rfl (by kernel_rfl) (λK b=>?_);go_simp
  refine b.o _ _ (λ_=>?s24) ?r24;case s24=>((try dsimp only);go_keep)
  clear b K;refine ji rfl (by kernel_rfl) (λK b=>?_);refine yN rfl (.tmp 51) (.tmp 71) 27 rfl (lV m N p) (lV (some ⟨w4.heap.size+1,0,none⟩) 1 1) (lV a' q o) w' (by simp[Act.eval]) (by simp[Act.eval]) HR.o ?_;refine b.o _ _ (λ_=>?s25) ?r25;case s25=>((try dsimp only);go_keep)
  clear b K;refine ji rfl (by kernel_rfl) (λK b=>?_);go_simp
  refine b.o _ _ (λ_=>?s26) ?r26;case s26=>((try dsimp only);go_keep)
  clear b K;refine ji rfl (by kernel_rfl) (λK b=>?_);go_simp
  refine b.o _ _ (λ_=>?s27) ?r27;case s27=>((try dsimp only);go_keep)
  clear b K;refine ji rfl (by kernel_rfl) (λK b=>?_);go_simp
  refine b.o _ _ (λh=>absurd rfl h) ?r28;clear b K;refine yf (by kernel_rfl) ?_ _;go_wp2;go_meet;exact⟨rfl,A0⟩
 obtain⟨rfl,H⟩:=hcut;have P:=aa (S.o _ _ H.o);clear k0 A4 b0 b2 b4 d kv A5 A6 A7 kf kw H;go_wp2_with fail
 apply P.m;rintro e w7⟨rfl,J⟩;have s:=aa (V.o _ _ J);clear J;go_wp2_with fail
 apply s.m;rintro e w8⟨rfl,L⟩;have A1:=aa L;clear L;go_wp2;go_ret;exact⟨by first|rfl|simp,A1⟩
def Tp(w:World)(l d N D:Nat)(r:Option Addr)(k x y z:Int)(s t H:yB)(hN:N<4000000000)(h G:World->Prop) (Q:Bool->World->Prop) (q:Nat->World->Prop) (I:Nat->Nat->World->Prop)(B0:yH (h (w.alloc (.cells #[i6 k,i6 x,i6 y,i6 z,sV s,sV t] 33))))(A9:yH (yc w l 0 (lV r N D)/\l<w.heap.size))(P:yH (∀W,h W->(yc W l 0 (lV r N D)/\l<W.heap.size)/\yc W w.heap.size 0 (i6 k)/\yc W w.heap.size 1 (i6 x)/\yc W w.heap.size 2 (i6 y)/\yc W w.heap.size 3 (i6 z)/\yc W w.heap.size 4 (sV s)/\yc W w.heap.size 5 (sV t)/\w.heap.size<W.heap.size))(B1:yH (∀W n,h W->h (W.drewN n)))(A2:yH (∀W,h W->k=1->yC 9 #[] W λe w'=>∃c,e=rV (pV (qA c))/\q c w'))(A3:yH (∀c W,q c W->yC 10 #[] W λe w'=>e=rV (sV H)/\q c w'))(A4:yH (∀c W,q c W->yC 11 #[pV (qA c),sV H] W λe w'=>∃n,e=rV (tV #[pV (qA n),i6 0])/\I c n w'))(A8:yH (∀c n W,I c n W->yc W l 0 (lV r N D)/\l<W.heap.size))(A7:yH (∀c n W,I c n W->∃a' A u w' v,(Builtin.append_ #[27,27] 27 #[lV r N D,lV (some ⟨W.heap.size+2,0,none⟩) 1 1]).run yP (((W.alloc (.cells #[bV false,bV false] 44)).alloc (.cells #[pV (qA c),pV (qA n),lV none 0 0,lV none 0 0,pV (qA W.heap.size)] 47)).alloc (.cells #[pV (some ⟨W.heap.size+1,0,none⟩)] 41))=.ok (lV a' A u) w'/\(yc w' l 0 v/\w'.frozen? ⟨l,0,none⟩=false/\l<w'.heap.size)/\Q true (w'.setCell ⟨l,0,none⟩ (lV a' A u))))(B2:yH (∀W,h W->N=0->Q true W))(A5:yH (∀W,0<N->yC 12 #[i6 x,i6 N] W λe w'=>e=rV (i6 (bW x N))/\w'=W))(B3:yH (∀W,h W->0<N->∃g,r=some ⟨g,0,none⟩/\g<W.heap.size/\yc W g (bW x N) (pV (qA d))))(K2:yH (∀W,h W->0<N->k=2->yC 13 #[pV (qA d),sV s,sV t] W λe w'=>∃b,e=rV (bV b)/\Q b w'))(K3:yH (∀W,h W->0<N->k=3->yC 14 #[pV (qA d),sV s] W λe w'=>∃b,e=rV (bV b)/\Q b w'))(K4:yH (∀W,h W->0<N->k=4->yC 15 #[pV (qA d),sV s] W λe w'=>∃b,e=rV (bV b)/\Q b w'))(K5:yH (∀W,h W->0<N->k=5->yC 16 #[pV (qA l),pV (qA d)] W λe w'=>∃b,e=rV (bV b)/\Q b w'))(K8:yH (∀W,h W->0<N->k=8->yC 19 #[pV (qA d),i6 y] W λe w'=>∃b,e=rV (bV b)/\Q b w'))(K9:yH (∀W,h W->0<N->k=9->yC 20 #[pV (qA d),sV s] W λe w'=>∃b,e=rV (bV b)/\Q b w'))(B4:yH (∀W,h W->0<N->k=10->yC 21 #[pV (qA d),gV #[i6 k,i6 x,i6 y,i6 z,sV s,sV t]] W λe w'=>∃b,e=rV (bV b)/\Q b w'))(R:yH (∀W,h W->0<N->k=6\/k=7->yC 17 #[pV (qA d),gV #[i6 k,i6 x,i6 y,i6 z,sV s,sV t]] W λe w'=>e=rV (tV #[])/\G w'))(S:yH (∀W,G W->yC 18 #[pV (qA l),pV (qA d)] W λe w'=>e=rV (tV #[])/\Q true w'))(B5:yH (∀W,h W->0<N->Q true W)):yC 7 #[pV (qA l),gV #[i6 k,i6 x,i6 y,i6 z,sV s,sV t]] w λe w'=>∃b,e=rV (bV b)/\yH (Q b w'):=by
 obtain⟨C,F⟩:=yX (w.alloc (.cells #[i6 k,i6 x,i6 y,i6 z,sV s,sV t] 33));have B:yH (h C):=by rw[F];exact B0
 by_cases h30:k=1
 .have Z:=aa (A2.o _ B.o h30);subst h30;go_enter func7,ntmps7
  go_wp2_with fail
  rw[<-F];clear F;apply Z.m;rintro e w1⟨c,rfl,T⟩;have A0:=aa (A3.o _ _ T);clear T;go_wp2_with fail
  apply A0.m;rintro e w2⟨rfl,U⟩;have A1:=aa (A4.o _ _ U);clear U;go_wp2_with fail
  apply A1.m;rintro e w3⟨n,rfl,O⟩;obtain⟨c1,Y⟩:=A8.o _ _ _ O;obtain⟨a',A,u,w',v,X,⟨kv,kf,kw⟩,V⟩:=A7.o _ _ _ O;have HR:=aa X;have L:=aa V;clear X V O;go_wp2_with (at_builtin;refine jN rfl (.tmp 25) (.tmp 32) 27 rfl _ _ (lV a' A u) w' rfl rfl HR.o ?_)
  go_ret;exact⟨true,rfl,L⟩
 have C2:(k == 1)=false:=by simpa using h30
 clear h30;obtain⟨B6,C0⟩:=A9.o;go_enter func7,ntmps7
 go_upto_region 7 with fail
 go_cut [43] (λv wx=>v=bV ((N:Int) == 0)/\wx=C)
 .go_wp2;go_meet;exact⟨rfl,F.symm⟩
 obtain⟨rfl,rfl⟩:=hcut;clear F B6 C0;obtain⟨⟨c1,Y⟩,b0,b1,b2,b3,b4,b5,p⟩:=P.o _ B.o;by_cases J:N=0
 .have L:=aa (B2.o _ B.o J);have B7:((N:Int) == 0)=true:=by rw[J];rfl
  clear J;go_wp2;go_ret;exact⟨true,rfl,L⟩
 have B7:((N:Int) == 0)=false:=by simp;omega
 have M:0<N:=by omega
 have o:=aa M;have hj:bW x N<N:=ky x N M;obtain⟨g,rfl,B8,e0⟩:=B3.o _ B.o M;have A6:yH (∀W,yC 12 #[i6 x,i6 N] W λe w'=>e=rV (i6 (bW x N))/\w'=W):=λW=>A5.o W o.o
 generalize bW x N=j at*;have B9:(j:Int)<(N:Int):=by omega
 clear J;go_upto_region 10 with(go_quiet ((go_at_call 12;refine Calls.quiet_of_same (A6.o _))))
 have m:=aa (B1.o _ nq B.o);clear c1 Y b0 b1 b2 b3 b4 b5 p B8 e0 B9 hj;generalize wc.drewN nq=w1 at*;obtain⟨_,b0,b1,b2,b3,b4,b5,p⟩:=P.o _ m.o;by_cases h2:k=2
 .have i:=aa (K2.o _ m.o o.o h2);subst h2;go_wp2_with fail
  apply i.m;rintro e w9⟨b,rfl,a⟩;have f:=aa a;clear a b0 b1 b2 b3 b4 b5 p;go_wp2;go_ret;exact⟨b,rfl,f⟩
 have C3:(k == 2)=false:=by simpa using h2
 clear h2;by_cases h3:k=3
 .have i:=aa (K3.o _ m.o o.o h3);subst h3;go_wp2_with fail
  apply i.m;rintro e w9⟨b,rfl,a⟩;have f:=aa a;clear a b0 b1 b2 b3 b4 b5 p;go_wp2;go_ret;exact⟨b,rfl,f⟩
 have C4:(k == 3)=false:=by simpa using h3
 clear h3;by_cases h4:k=4
 .have i:=aa (K4.o _ m.o o.o h4);subst h4;go_wp2_with fail
  apply i.m;rintro e w9⟨b,rfl,a⟩;have f:=aa a;clear a b0 b1 b2 b3 b4 b5 p;go_wp2;go_ret;exact⟨b,rfl,f⟩
 have C5:(k == 4)=false:=by simpa using h4
 clear h4;by_cases h5:k=5
 .have i:=aa (K5.o _ m.o o.o h5);subst h5;go_wp2_with fail
  apply i.m;rintro e w9⟨b,rfl,a⟩;have f:=aa a;clear a b0 b1 b2 b3 b4 b5 p;go_wp2;go_ret;exact⟨b,rfl,f⟩
 have C6:(k == 5)=false:=by simpa using h5
 clear h5;by_cases h6:k=6
 .have i:=aa (R.o _ m.o o.o (.inl h6));subst h6;go_wp2_with fail
  apply i.m;rintro e w8⟨rfl,E⟩;have K:=aa (S.o _ E);clear E b0 b1 b2 b3 b4 b5 p;go_wp2_with fail
  apply K.m;rintro e w9⟨rfl,a⟩;have f:=aa a;clear a;go_wp2;go_ret;exact⟨true,rfl,f⟩
 have C7:(k == 6)=false:=by simpa using h6
 clear h6;by_cases h7:k=7
 .have i:=aa (R.o _ m.o o.o (.inr h7));subst h7;go_wp2_with fail
  apply i.m;rintro e w8⟨rfl,E⟩;have K:=aa (S.o _ E);clear E b0 b1 b2 b3 b4 b5 p;go_wp2_with fail
  apply K.m;rintro e w9⟨rfl,a⟩;have f:=aa a;clear a;go_wp2;go_ret;exact⟨true,rfl,f⟩
 have C8:(k == 7)=false:=by simpa using h7
 clear h7;by_cases h8:k=8
 .have i:=aa (K8.o _ m.o o.o h8);subst h8;go_wp2_with fail
  apply i.m;rintro e w9⟨b,rfl,a⟩;have f:=aa a;clear a b0 b1 b2 b3 b4 b5 p;go_wp2;go_ret;exact⟨b,rfl,f⟩
 have C9:(k == 8)=false:=by simpa using h8
 clear h8;by_cases h9:k=9
 .have i:=aa (K9.o _ m.o o.o h9);subst h9;go_wp2_with fail
  apply i.m;rintro e w9⟨b,rfl,a⟩;have f:=aa a;clear a b0 b1 b2 b3 b4 b5 p;go_wp2;go_ret;exact⟨b,rfl,f⟩
 have D0:(k == 9)=false:=by simpa using h9
 clear h9;by_cases h10:k=10
 .have i:=aa (B4.o _ m.o o.o h10);subst h10;go_wp2_with fail
  apply i.m;rintro e w9⟨b,rfl,a⟩;have f:=aa a;clear a b0 b1 b2 b3 b4 b5 p;go_wp2;go_ret;exact⟨b,rfl,f⟩
 have C1:(k == 10)=false:=by simpa using h10
 clear h10;have f:=aa (B5.o _ m.o o.o);go_wp2;go_ret;exact⟨true,rfl,f⟩
def TN(w:World)(rb B:Nat)(a:Option Addr)(cap N:Nat)(P:Int)(j a0:yB)(hN:N<4000000000)(D:Nat->List (Value×List yB)->World->Prop)(T:yH (yc w rb 2 (lV a N cap)/\rb<w.heap.size))(Y:yH (yC 9 #[] w λe w'=>∃z,e=rV (pV (qA z))/\(yc w' rb 2 (lV a N cap)/\rb<w'.heap.size)/\yH (yC 58 #[pV (qA z),lV a N cap,i6 P] w' λe w2=>∃d,e=rV (pV (qA d))/\D d [] w2)))(s:yH (∀d rows W,D d rows W->yc W rb 1 (pV (qA B))/\yc W rb 2 (lV a N cap)/\rb<W.heap.size))(A1:yH (∀d W,D d [] W->yC 55 #[pV (qA d)] W λe w'=>uX e/\D d [] w'))(A0:yH (∀d W,D d [] W->yC 55 #[pV (qA B)] W λe w'=>uX e/\D d [] w'))(X:yH (∀d W,D d [] W->yC 10 #[] W λe w'=>e=rV (sV j)/\D d [] w'))(I:yH (∀d W,D d [] W->0<N->∃g,a=some ⟨g,0,none⟩/\g<W.heap.size/\yc W g 0 (sV a0)))(H:yH (∀d W,D d [] W->0<N->yC 59 #[pV (qA d),sV a0] W λe w'=>∃(a':Option Addr)(f:Nat)(c:Int)(cs:List yB),e=rV (tV #[lV a' cs.length f,i6 c])/\fh 81 cs/\D d [(lV a' cs.length f,cs)] w'))(E:yH (∀d v cs W,D d [(v,cs)] W->fh 81 cs->∃a' f w',(Builtin.append_ #[63,63] 63 #[v,lV (qA W.heap.size) 1 1]).run yP (W.alloc (.cells #[sV bf] 9))=.ok (lV a' (cs++[bf]).length f) w'/\D d [(lV a' (cs++[bf]).length f,cs++[bf])] w'))(F:yH (∀d v cs W,D d [(v,cs++[bf])] W->fh 81 cs->yC 45 #[v] W λe w'=>kQ e/\D d [(v,cs++[bf])] w'))(G:yH (∀d rows W,D d rows W->yC 53 #[pV (qA rb)] W λe w'=>kQ e/\D d rows w')):yC 26 #[pV (qA rb),i6 P] w λe w'=>kQ e/\∃d r,yH (D d r w'):=by
 obtain⟨c3,A5⟩:=T.o;go_enter func26,ntmps26
 go_wp2_with fail
 apply Y.m;rintro e w1⟨z,rfl,⟨d3,A6⟩,C⟩;clear c3 A5;go_wp2_with fail
 apply C.m;rintro e w2⟨d,rfl,t⟩;obtain⟨r1,r2,k⟩:=s.o _ _ _ t;have p:=aa (A1.o _ _ t);clear t C d3 A6;go_wp2_with fail
 apply p.m;rintro e w3⟨⟨i,rfl,h32⟩,u⟩;clear r1 r2 k;obtain⟨r1,r2,k⟩:=s.o _ _ _ u;have p:=aa (A0.o _ _ u);have A9:(i.size:Int)=32:=by rw[h32];rfl
 clear u h32;go_wp2_with fail
 apply p.m;rintro e w4⟨⟨A,rfl,h32⟩,J⟩;clear r1 r2 k;have B0:(A.size:Int)=32:=by rw[h32];rfl
 have S:=aa (X.o _ _ J);clear J h32;go_wp2_with fail
 apply S.m;rintro e w5⟨rfl,o⟩;have l:=aa o;obtain⟨r1,r2,k⟩:=s.o _ _ _ o;have n:=aa (G.o _ _ _ o);clear o;have key:(i.toList == j.toList)=true\/(i.toList == j.toList)=false:=by cases (i.toList == j.toList)<;>simp
 by_cases M:N=0
 .subst M;rcases key with m|m
  .have A2:(i.toList != j.toList)=false:=by rw[bne,m];rfl
   cases hC:(i.toList == A.toList) with
   |true=>go_wp2;go_ret;exact⟨⟨true,rfl⟩,_,_,l⟩
   |false=>
    go_wp2_with fail
    apply n.m;rintro e w6⟨⟨b,rfl⟩,h⟩;have q:=aa h;clear h r1 r2 k;go_wp2;go_ret;exact⟨⟨b,rfl⟩,_,_,q⟩
  have A2:(i.toList != j.toList)=true:=by rw[bne,m];rfl
  go_wp2;go_ret;exact⟨⟨false,rfl⟩,_,_,l⟩
 have A8:(0:Int)<(N:Int):=by omega
 have A7:((N:Int) == 0)=false:=by simp;omega
 rcases key with m|m
 .obtain⟨g,ha,A4,A3⟩:=I.o _ _ l.o (by omega);subst ha;have R:=aa (H.o _ _ l.o (by omega));clear M;go_wp2_with fail
  apply R.m;rintro e w6⟨a',f,c,cs,rfl,y,h⟩;obtain⟨a7,c7,w7,O,K⟩:=E.o _ _ _ _ h y;have Z:=aa O;have Q:=aa (F.o _ _ _ _ K y);clear O K h y r1 r2 k A4 A3;generalize (cs++[bf]).length=L7 at*;go_wp2_with (at_builtin;refine jN rfl (.tmp 74) (.tmp 75) 63 rfl _ _ (lV a7 L7 c7) w7 rfl rfl Z.o ?_)
  apply Q.m;rintro e w8⟨⟨b,rfl⟩,x⟩;have U:=aa x;have n:=aa (G.o _ _ _ x);clear x;cases b with
  |true=>go_wp2;go_ret;exact⟨⟨true,rfl⟩,_,_,U⟩
  |false=>
   go_wp2_with fail
   apply n.m;rintro e w9⟨⟨b,rfl⟩,L⟩;have V:=aa L;clear L;go_wp2;go_ret;exact⟨⟨b,rfl⟩,_,_,V⟩
 clear I H E F;cases hC:(i.toList == A.toList) with
 |true=>go_wp2;go_ret;exact⟨⟨true,rfl⟩,_,_,l⟩
 |false=>
  go_wp2_with fail
  apply n.m;rintro e w6⟨⟨b,rfl⟩,h⟩;have q:=aa h;clear h r1 r2 k;go_wp2;go_ret;exact⟨⟨b,rfl⟩,_,_,q⟩
end Go.Proofs.YteaodagofkcgbaaGreatDoor
