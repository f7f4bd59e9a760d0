import Derived.Test.YteaodagofkcgbaaGreatDoorI
open Go.Proofs.Tryz
open Go.Proofs.Tryz renaming prog→yP
open Go.Value renaming string→sV,pointer→pV,int→iV,slice→lV,bool→bV,tuple→tV,agg→gV
open Go.Ending renaming returned→rV
namespace Go.Proofs.YteaodagofkcgbaaGreatDoor
open Go.RowKit
set_option maxRecDepth 100000
set_option maxHeartbeats 0
set_option linter.all false
def P9(w):(Instr.makeSlice 153 (i6 0) (i6 17)).run yP w=.ok (lV (qA w.heap.size) 0 17) (w.alloc (.cells (madeCells #[bV false,sV ⟨#[]⟩,lV none 0 0] 51) 155)):=by
 let⟨i0,hi,a,b,c⟩:=Vp AD;have:=run_make (P:=yP) w 153 155 i0 _ underlying153 hi a .i64 .i64 0 17 (by omega) (by omega) (by rw[c];omega) (by omega);rwa[b] at this
def ON(w:World)(base:Nat)(a:base<=w.heap.size):(w.alloc (.cells (madeCells #[bV false,sV ⟨#[]⟩,lV none 0 0] 51) 155)).ownsRow base 155 3 (lV (qA w.heap.size) 0 17) 0 []:=
 ⟨rfl,.inr ⟨w.heap.size,17,_,rfl,a,UG _ _,by omega,by unfold maxLen;omega,by rw[size_madeCells],by simp⟩⟩
def Bw(v)(ks:Nat->Nd):((List.range 16).map (λi=>ko (ks i) (ks i).item)++[ak v]).length=17:=by simp
def oe(v:yL)(ks:Nat->Nd)(i:Nat):Tree:=if i<16 then(ks i).ref else ak v
def QJ(v)(ks:Nat->Nd)(i:Nat)(h:i<17):((List.range 16).map (λi=>ko (ks i) (ks i).item)++[ak v]).getD i (ak [])=oe v ks i:=by
 unfold oe;by_cases h16:i<16
 .rw[Uj h16,Up,UW (by simpa using h16),UK,List.getElem?_range h16];rfl
 obtain rfl:i=16:=by omega
 rw[Ui h16,Up,Vf (by simp)];rfl
def RA(d:Nat)(v)(ks:Nat->Nd)(h:bN d (bJ ((List.range 16).map (λi=>ko (ks i) (ks i).item)++[ak v]))=true):∃e,d=e+1/\∀i,i<16->bN e (ks i).ref=true:=by
 cases d with
 |zero=>rw[AW] at h;cases h
 |succ e=>rw[nA] at h;simp only[Vr,Vy] at h;exact⟨e,rfl,λi hi=>h.2 _ (UA.2 (.inl (UO.2 ⟨i,Vq.2 hi,rfl⟩)))⟩
def GR{base e i d cap g2:Nat}{w1 w2:World}{f:List Value}{T:Nat->Tree}{a b c:Value}{o:Obj}(m:w1.ownsRow base 155 3 (lV (qA d) i cap) i f)(t:∀j,j<i->bg e w1 (λq=>base<=q/\d≠q) ((f.drop (3*j)).take 3) (T j))(v:bg e w1 (λq=>base<=q/\d≠q) [a,b,c] (T i))(s:World.grownBy (w1.alloc o) w2 (Value.ownBlock (lV (qA d) i cap)))(n:Value.ownBlock (lV (qA d) i cap)=some g2\/(w1.alloc o).heap.size<=g2):∀j,j<i+1->bg e w2 (λq=>base<=q/\g2≠q) (((f++[a,b,c]).drop (3*j)).take 3) (T j):=by
 have r:∀q,q<w1.heap.size->d≠q->w2.heap[q]? =w1.heap[q]? :=λq g k=>by
  rw[<-U6 w1 o q g];exact s.block q (by simp;omega) (λh=>k (by simpa [Value.ownBlock] using h.symm))
 have p:∀q,q<w1.heap.size->d≠q->g2≠q:=λq g k h=>by
  rcases n with h2|h2
  .exact k ((by simpa [Value.ownBlock] using h2:d=g2).trans h)
  simp at h2;omega
 have mv:∀cs x,bg e w1 (λq=>base<=q/\d≠q) cs x->bg e w2 (λq=>base<=q/\g2≠q) cs x:=λcs x h=>
  bg.move (λq g l=>⟨⟨g.1,p q l g.2⟩,r q l g.2⟩) e cs x h
 intro j y;have w:f.length=3*i:=by have:=m.1;omega
 by_cases u:j<i
 .have e1:((f++[a,b,c]).drop (3*j)).take 3=(f.drop (3*j)).take 3:=by
   rw[List.drop_append_of_le_length (by omega),List.take_append_of_le_length (by rw[Uu];omega)]
  rw[e1];exact mv _ _ (t j u)
 obtain rfl:j=i:=by omega
 have e1:((f++[a,b,c]).drop (3*j)).take 3=[a,b,c]:=by rw[<-w,List.drop_left];rfl
 rw[e1];exact mv _ _ v
def Q1(h v)(ks:Nat->Nd)(ih:∀i,i<16->BN (ks i)):u9 (.branch h v ks):=by
 intro w S p d hA hS _ hf;obtain⟨b,B4,Ss,rfl,hs,B,B8,B6,hK⟩:=hA;obtain⟨_,V,A5⟩:=hS;have c0:w.cell? ⟨b,0,none⟩=some (i6 3):=B.c0;have c3:w.cell? ⟨b,3,none⟩=some (sV (ae v)):=B.c3;have HC:yH (∀i,i<16->∃u,B4 i=pV u/\w.cell? ⟨b,5+i,none⟩=some (pV u)):=λi hi=>by
  obtain⟨u,H⟩:=(hK i hi).ptr;exact⟨u,H,by rw[B.ck i hi,H]⟩
 have A1:=B.lt;obtain⟨e,rfl,A8⟩:=RA d v ks hf;have HK:yH (∀W i u,i<16->B4 i=pV u->yW w W->yC 150 #[pV u] W (pM e W (oe v ks i))):=λW i u hi H D=>by
  have:=ih i hi W (Ss i) _ e ((hK i hi).below D) (A5 i hi) (A8 i hi);rw[H] at this;unfold oe;rw[Uj hi];exact this
 have B7:=P9;obtain⟨i0,A9,B1,B2,B3⟩:=Vp AD;clear B hf A8 hK B8 A5 ih B6;unfold ptr;go_enter func138,ntmps138
 go_upto_region 3 with fail
 obtain⟨f,K⟩:=yX (w.alloc (.cells #[bV false,sV ⟨#[]⟩,lV none 0 0] 155));have A6:yW w f:=by rw[K];exact(Un _ _).alloc (Ug _) _
 have A3:f.heap.size=w.heap.size+1:=by rw[K];simp
 have A4:=aa A3;have O:=aa A6;have HR:yH (f.heap[w.heap.size]? =some (.cells #[bV false,sV ⟨#[]⟩,lV none 0 0] 155 (0,0))):=by show _=_;rw[K];exact UG _ _
 have G:=ON f f.heap.size (Ug _);have E:yW f (f.alloc (.cells (madeCells #[bV false,sV ⟨#[]⟩,lV none 0 0] 51) 155)):=(Un _ _).alloc (Ug _) _;rw[<-K];generalize hW2:f.alloc (.cells (madeCells #[bV false,sV ⟨#[]⟩,lV none 0 0] 51) 155)=W2 at*;rw[<-A3];generalize hG1:f.heap.size=g1 at G⊢;have J:yH (W2.ownsRow f.heap.size 155 3 (lV (qA g1) 0 17) 0 []):=by rw[hG1];exact G
 have I:=aa E;clear G E A6 A3 K hW2 hG1 B7;go_wp2;go_loopg [3,4] 16 (λg sl r wr=>∃(i n cap:Nat)(s:List Value),g=16 - i/\i<=16/\sl=lV (qA n) i cap/\r=i6 (i:Int)/\wr.ownsRow f.heap.size 155 3 (lV (qA n) i cap) i s/\
  yH (∀j,j<i->bg e wr (λq=>f.heap.size<=q/\n≠q) ((s.drop (3*j)).take 3) (oe v ks j))/\yW f wr)
 .exact⟨0,g1,17,[],rfl,by omega,rfl,rfl,J.o,λj F=>by omega,I.o⟩
 obtain⟨i,n,cap,s,hg,hi,rfl,rfl,G,T,E⟩:=hrel;have HG:=aa hg;have A:=aa G;have y:=aa E;have Q:=aa (O.o.trans (E.mono O.o.size));clear hg G E;by_cases h16:i<16
 .obtain⟨u,H,A7⟩:=HC.o i h16;have hI:(i:Int)<16:=by omega
  have dk:=(Q.o.cell (p:=⟨b,5+i,none⟩) A1).trans A7;clear A7;go_wp2_with fail
  refine(HK.o _ i u h16 H Q.o).mono ?_;rintro e1 w1⟨l,t1,a,m,c,rfl,B0,x⟩;have A0:n<wr.heap.size:=(A.o.lt n rfl).2;have Y:=aa (rE A.o x);have B5:yH (∀j,j<i->bg e w1 (λq=>f.heap.size<=q/\n≠q) ((s.drop (3*j)).take 3) (oe v ks j)):=λj F=>(T.o j F).below x
  have Z:yH (bg e w1 (λq=>f.heap.size<=q/\n≠q) [bV l,sV t1,lV a m c] (oe v ks i)):=bg.move (λq t _=>⟨⟨Ut y.o.size t,by omega⟩,rfl⟩) e _ _ B0;have P:=aa (y.o.trans (x.mono y.o.size));clear B0 x A0 T dk;go_wp2_with (at_builtin;refine U0 _ rfl (.tmp 18) (.tmp 26) 153 rfl f.heap.size 155 i0 _ 3 48 underlying153 A9 B1 B2 B3 rfl (by decide) (lV (qA n) i cap) i s rfl (Y.o.alloc _) ⟨w1.heap.size,0,none⟩ 1 1 [bV l,sV t1,lV a m c] rfl rfl ?c1 ?c2 (by omega) ?c3 ?c4 ?c5 _ rfl ?c6)
  case c1=>exact Fc w1 _ _ _ rfl
  case c2=>intro v V;simp at V;rcases V with rfl|rfl|rfl<;>rfl
  case c3=>unfold maxLen;omega
  case c4=>omega
  case c5=>have:=P.o.size;simp;omega
  intro g2 C w2 M z L A2;have X:yH (∀j,j<i+1->bg e w2 (λq=>f.heap.size<=q/\g2≠q) (((s++[Value.bool l,Value.string t1,Value.slice a m c]).drop (3*j)).take 3) (oe v ks j)):=GR Y.o B5.o Z.o z (L.imp id (λh=>by rw[h];simp));have J:=aa M;have I:yH (yW f w2):=(P.o.alloc P.o.size _).grown z (by have:=P.o.size;simp;omega) (λk hk=>(Y.o.lt k hk).1);clear M z L A2;go_wp2;go_roundg (16 - (i+1))
  .exact⟨i+1,g2,C,_,rfl,by omega,rfl,by go_num,J.o,X.o,I.o⟩
  have:=HG.o;omega
 obtain rfl:i=16:=by omega
 have hI:¬((16:Nat):Int)<16:=by omega
 have d3:=(Q.o.cell (p:=⟨b,3,none⟩) A1).trans c3;have A0:n<wr.heap.size:=(A.o.lt n rfl).2;have B9:b<wr.heap.size:=Us A1 Q.o.size;have Z:yH (bg e wr (λq=>f.heap.size<=q/\n≠q) [bV false,sV (ae v),lV none 0 0] (oe v ks 16)):=xk e _ _ v _ (by omega);clear A0 V;go_wp2_with (at_builtin;refine U0 _ rfl (.tmp 28) (.tmp 34) 153 rfl f.heap.size 155 i0 _ 3 48 underlying153 A9 B1 B2 B3 rfl (by decide) (lV (qA n) 16 cap) 16 s rfl (A.o.alloc _) ⟨wr.heap.size,0,none⟩ 1 1 [bV false,sV (ae v),lV none 0 0] rfl rfl ?e1 ?e2 (by omega) ?e3 ?e4 ?e5 _ rfl ?e6)
 case e2=>exact⟨rfl,rfl,rfl⟩
 case e3=>unfold maxLen;omega
 case e5=>have:=y.o.size;simp;omega
 intro g2 C w2 M z L A2;have X:yH (∀j,j<17->bg e w2 (λq=>f.heap.size<=q/\g2≠q) (((s++[Value.bool false,Value.string (ae v),Value.slice none 0 0]).drop (3*j)).take 3) (oe v ks j)):=GR A.o T.o Z.o z (L.imp id (λh=>by rw[h];simp));have J:=aa M;have x:yW f w2:=(y.o.alloc y.o.size _).grown z (by have:=y.o.size;simp;omega) (λk hk=>(A.o.lt k hk).1);have N:w2.heap[w.heap.size]? =some (.cells #[bV false,sV ⟨#[]⟩,lV none 0 0] 155 (0,0)):=(x.block _ (by rw[A4.o];omega)).trans HR.o;have q0:w2.cell? ⟨w.heap.size,0,none⟩=some (bV false):=by rw[Ur w2 _ 0 _ _ _ N];rfl
 have q1:w2.cell? ⟨w.heap.size,1,none⟩=some (sV ⟨#[]⟩):=by rw[Ur w2 _ 1 _ _ _ N];rfl
 have q2:w2.cell? ⟨w.heap.size,2,none⟩=some (lV none 0 0):=by rw[Ur w2 _ 2 _ _ _ N];rfl
 have R:∀o,w2.frozen? ⟨w.heap.size,o,none⟩=false:=λo=>by simp[World.frozen?,N]
 have f0:=R 0;have f1:=R 1;have f2:=R 2;have I:=aa x;clear M z L A2 T x N R;go_wp2;refine UB (v:=gV #[bV true,sV ⟨#[]⟩,lV (qA g2) 17 C]) (by simp[results,results138,go_sem,q0,q1,q2]) rfl ⟨true,⟨#[]⟩,_,_,_,rfl,?_,?_⟩
 .have D:∀W:World,(∀q,q≠w.heap.size->W.heap[q]? =w2.heap[q]?)->bg (e+1) W (λq=>w.heap.size<=q) [bV true,sV ⟨#[]⟩,lV (qA g2) 17 C] (Nd.branch h v ks).item:=λW D=>by
   have U:∀q,f.heap.size<=q->w.heap.size<=q/\q≠w.heap.size:=λq t=>by rw[A4.o] at t;omega
   refine xm e W _ ⟨#[]⟩ _ _ _ (by rw[Bw];exact(Fe J.o).move λq t _=>⟨(U q t).1,D q (U q t).2⟩) (by rw[Bw];decide) λj F=>?_
   rw[Bw] at F;rw[QJ v ks j F];exact bg.move (λq t _=>⟨(U q t.1).1,D q (U q t.1).2⟩) e _ _ (X.o j F)
  exact D _ λq t=>by simp[Uy,t]
 exact sy (O.o.trans (I.o.mono O.o.size)) _ _ _
def sx{n g w w1}(h:Below n w w1)(e:n<=g)(a b c d):Below n w ((((w1.setCell ⟨g,0,none⟩ a).setCell ⟨g,1,none⟩ b).setCell ⟨g,2,none⟩ c).setCell ⟨g,3,none⟩ d):=
 (((h.setCell e _).setCell e _).setCell e _).setCell e _
def qJ(w:World)(o p:Obj):yW w ((w.alloc o).alloc p):=((Un _ _).alloc (Ug _) _).alloc (by simp) _
def rf(r)(n:Nat):(ae r).extract n (ae r).size=ae (r.drop n):=by
 apply Go.WideShapes.bytes_inj;rw[Lib.extract_data,eU,eU];exact U4 (by rw[aN];simp)
def wM(b:Nat)(h p:yL)(k u A3)(r:yL)(hp:p.length<=4096)(hr:r.length<=4096)(A1:aF r p=p.length)(d:Nat)(hd:d<4096)(bl:Bool)(w)(B:bU w b (.ext h p k) (.pointer u) A3):yC 112 #[cz (.pointer (qA b)) (ae r) d bl] w λe w'=>e=.returned (cz (.pointer u) (ae (r.drop p.length)) (d+p.length) true)/\yW w w':=by
 have c0:yc w b 0 (.int .i64 2):=B.c0;have c2:yc w b 2 (.string (ae p)):=B.c2;have c4:yc w b 4 (.pointer u):=B.c4;have A5:=B.lt;have HS:yH (∀w:World,yC 134 #[.string (ae r),.string (ae p)] w λe w'=>e=.returned (.int .i64 ((ae p).size:Int))/\∃n,w'=w.drewN n):=λw=>by
  have:=tD (ae r) (ae p) (by rw[aN];unfold maxLen;omega) (by rw[aN];unfold maxLen;omega) w;rw[eU,eU,A1] at this;rw[aN];exact this
 have HX:yH ((ae r).extract (ae p).size (ae r).size=ae (r.drop p.length)):=by show _=_;rw[aN p,rf]
 have A0:=(iN r p).1;rw[A1] at A0;have A4:(ae p).size<=(ae r).size:=by rw[aN,aN];exact A0
 have A6:(ae p).size<=4096:=by rw[aN];exact hp
 have A2:=aa ((aN p).symm);unfold cz;clear B A1 A0 hp;generalize ae r=R at*;generalize ae p=P at*;go_enter func112,ntmps112
 go_wp2;go_quiet ((go_at_call 134;refine Calls.quiet_of (HS.o _)))
 go_wp2;go_region
 all_goals
  go_wp2;exact UB (v:=cz (.pointer u) (R.extract P.size R.size) (d+P.size) true) (by simp[results,results112,go_sem,cz]) rfl ⟨by rw[HX.o,A2.o];rfl,sx (Below.drewN (qJ w _ _) _) (Nat.le_succ _) _ _ _ _⟩
def zQ(b:Nat)(h p:yL)(k A1 A2)(r:yL)(hp:p.length<=4096)(hr:r.length<=4096)(A0:aF r p≠p.length)(d:Nat)(bl:Bool)(w)(B:bU w b (.ext h p k) A1 A2):yC 112 #[cz (.pointer (qA b)) (ae r) d bl] w λe w'=>e=.returned (cz (.pointer none) ⟨#[]⟩ 0 false)/\yW w w':=by
 have c0:yc w b 0 (.int .i64 2):=B.c0;have c2:yc w b 2 (.string (ae p)):=B.c2;have A3:=B.lt;obtain⟨m,hm⟩:=yX (aF r p);have HS:yH (∀w:World,yC 134 #[.string (ae r),.string (ae p)] w λe w'=>e=.returned (.int .i64 (m:Int))/\∃n,w'=w.drewN n):=λw=>by
  have:=tD (ae r) (ae p) (by rw[aN];unfold maxLen;omega) (by rw[aN];unfold maxLen;omega) w;rw[eU,eU,<-hm] at this;exact this
 have A4:((m:Int) == ((ae p).size:Int))=false:=Vd.2 (by rw[aN,hm];omega);have A5:(ae p).size<=4096:=by rw[aN];exact hp
 unfold cz;clear B A0 hp hm;generalize ae r=R at*;generalize ae p=P at*;go_enter func112,ntmps112
 go_wp2;go_quiet ((go_at_call 134;refine Calls.quiet_of (HS.o _)))
 go_wp2;exact UB (v:=cz (.pointer none) ⟨#[]⟩ 0 false) (by simp[results,results112,go_sem,cz]) rfl ⟨rfl,sx (Below.drewN (qJ w _ _) _) (Nat.le_succ _) _ _ _ _⟩
def zP(b:Nat)(h p v:yL)(A0 A1)(r:yL)(hp:p.length<=4096)(d:Nat)(bl:Bool)(w)(B:bU w b (.leaf h p v) A0 A1):yC 112 #[cz (.pointer (qA b)) (ae r) d bl] w λe w'=>e=.returned (cz (.pointer none) ⟨#[]⟩ 0 false)/\yW w w':=by
 have c0:yc w b 0 (.int .i64 1):=B.c0;have c2:yc w b 2 (.string (ae p)):=B.c2;have A2:=B.lt;have A3:(ae p).size<=4096:=by rw[aN];exact hp
 unfold cz;clear B hp;generalize ae r=R at*;generalize ae p=P at*;go_enter func112,ntmps112
 go_wp2;go_quiet (fail)
 go_wp2;exact UB (v:=cz (.pointer none) ⟨#[]⟩ 0 false) (by simp[results,results112,go_sem,cz]) rfl ⟨rfl,sx (Below.drewN (qJ w _ _) _) (Nat.le_succ _) _ _ _ _⟩
def zR(b:Nat)(h v)(ks:Nat->Nd)(a c)(d:Nat)(bl:Bool)(w)(B:bU w b (.branch h v ks) a c):yC 112 #[cz (pV (qA b)) ⟨#[]⟩ d bl] w λe w'=>e=rV (cz (pV none) ⟨#[]⟩ 0 false)/\yW w w':=by
 have c0:=B.c0;have c2:=B.c2;have f:=B.lt;unfold cz;clear B;go_enter func112,ntmps112
 go_wp2;go_quiet (fail)
 go_wp2;exact UB (v:=cz (pV none) ⟨#[]⟩ 0 false) (by simp[results,results112,go_sem,cz]) rfl ⟨rfl,sx (Below.drewN (qJ w _ _) _) (Nat.le_succ _) _ _ _ _⟩
end Go.Proofs.YteaodagofkcgbaaGreatDoor
