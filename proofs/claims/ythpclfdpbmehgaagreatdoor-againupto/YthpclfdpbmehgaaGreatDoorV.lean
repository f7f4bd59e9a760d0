import Derived.Test.YthpclfdpbmehgaaGreatDoorS
open Go.Proofs.Tryz
open Go.Proofs.Tryz renaming prog→yP
open Go.Value renaming string→sV,pointer→pV,int→iV,slice→lV,bool→bV,tuple→tV,agg→gV
open Go.Ending renaming returned→rV
namespace Go.Proofs.YthpclfdpbmehgaaGreatDoor
open Go.RowKit
set_option maxRecDepth 100000
set_option maxHeartbeats 0
set_option linter.all false
def TJ(w:World)(v)(n:Nat)(base:Nat)(i:List Value)(h:w.ownsRow base 9 1 v n i)(a)(c:Nat)(e:a=none->c=0):
 (Builtin.append_ #[40,40] 40 #[v,lV a 0 c]).run yP w=.ok v w:=by
 let⟨i0,b,j,k,l⟩:=Vp oo;obtain⟨a',cap,rfl,d,_,f⟩:=dM h;cases a with
 |none=>
  obtain rfl:=e rfl;rcases f with⟨rfl,rfl,rfl⟩|⟨g,rfl⟩
  ·simp[Builtin.append_,run_underlying underlying40,sizeOf,typeInfo,b,Builtin.lenOf,Builtin.firstCells]
  ·simp[Builtin.append_,run_underlying underlying40,sizeOf,typeInfo,b,Builtin.lenOf,Builtin.firstCells,d,storeCells]
 |some ad=>
  rcases f with⟨rfl,rfl,rfl⟩|⟨g,rfl⟩
  ·simp[Builtin.append_,run_underlying underlying40,sizeOf,typeInfo,b,Builtin.lenOf,Builtin.firstCells,loadCells,loadCellsFrom]
  ·simp[Builtin.append_,run_underlying underlying40,sizeOf,typeInfo,b,Builtin.lenOf,Builtin.firstCells,d,storeCells,loadCells,loadCellsFrom]
def uR(w:World)(base:Nat)(v)(cs:List yB)(i:w.ownsRow base 9 1 v cs.length (cs.map Value.string))(b:Nat)(m)(q:List yB)(C:dE b w m q)(h63:cs.length+q.length<=4200000000000)(t:base<=w.heap.size):
 ∃v' w',(Builtin.append_ #[40,40] 40 #[v,m]).run yP w=.ok v' w'/\w'.ownsRow base 9 1 v' (cs++q).length ((cs++q).map Value.string)/\w.grownBy w' v.ownBlock/\(∀g,v'.ownBlock=some g->v.ownBlock=some g\/w.heap.size<=g):=by
 let⟨i0,z,E,F,G⟩:=Vp oo;obtain⟨a,c,rfl,K,l⟩:=C;rw[Vl,Uq];by_cases A:q.length=0
 ·have e:q=[]:=UH.1 A;subst e;refine⟨v,w,TJ w v _ base _ i a c fun n=>?_,by simpa using i,⟨rfl,rfl,rfl,Ug _,fun _ _ _=>rfl⟩,fun g f=>.inl f⟩;rcases l with⟨_,h⟩|⟨g,o,h,_⟩
  ·exact h
  ·rw[n] at h;cases h
 ·rcases l with⟨_,h⟩|⟨g,o,rfl,J,L,y⟩
  ·omega
  ·let⟨I,H,w',D,B,f,s,_⟩:=run_append_lies (P:=yP) w 40 40 base 9 i0 (sV ⟨#[]⟩) 1 16 underlying40 z E F G rfl (by decide) v cs.length (cs.map Value.string) i ⟨g,o,none⟩ q.length c (q.map Value.string) (by simp) (fun j u d=>by
    have r:(⟨g,o,none⟩:Addr).add j=⟨g,o+j,none⟩:=by unfold Addr.add;split<;>simp_all
    rw[UK] at d;cases hqj:q[j]? with
    |none=>rw[hqj] at d;cases d
    |some p=>rw[hqj] at d;injection d with d;rw[r,<-d];exact y j p hqj) (fun u d=>by obtain⟨p,_,rfl⟩:=UO.1 d;rfl) (by omega) (by unfold maxLen;omega) (by omega) t _ rfl
   refine⟨_,w',D,B,f,fun x k=>?_⟩;injection k with k;subst k;rcases s with h|h
   ·exact .inl h
   ·exact .inr (Nat.le_of_eq h.symm)
def gP.after{l l1}{L:jG}{w w1}{B:eO}{c b a v cs w'}(m:Mv (fun x=>x=L.tr\/x=L.bk) l l1 w w1)(e:∀g,B.mv.ownBlock=some g->g<w.heap.size)(d:∀g,B.bv.ownBlock=some g->g<w.heap.size)(h:gP l1 L w1 B c b a v cs w'):gP l L w B c b a v cs w':=by
 let⟨l2,S,f,b0,h⟩:=h;exact⟨l2,S,f,b0,⟨m.trans h.mv,h.bk,h.cP,h.row,Ut m.size h.low,h.hi,h.bt,e,d⟩⟩
def gP.append{l L w B y t s v cs w1}(h:gP l L w B y t s v cs w1)(n:L.ok)(b:Nat)(j)(q:List yB)(C:dE b w1 j q)(h63:cs.length+q.length<=4200000000000):
 ∃c w',(Builtin.append_ #[40,40] 40 #[v,j]).run yP w1=.ok c w'/\gP l L w B y t s c (cs++q) w':=by
 let⟨l1,m,u,b0,h⟩:=h;let⟨c,w',D,r,a,o⟩:=uR w1 b0 v cs h.row b j q C h63 h.hi;refine⟨c,w',D,?_⟩;cases hv:v.ownBlock with
 |none=>
  have p:yW w1 w':=⟨a.os,a.tape,a.output,a.size,fun k d=>a.block k d fun e=>by rw[hv] at e;cases e⟩
  have i:=Mv.below (fun _=>False) l1 p;refine⟨_,m,u,b0,⟨h.mv.trans (i.mono fun _ f=>f.elim),h.bk.move i id id id,h.cP.move i id id,r,h.low,Ut h.hi p.size,fun g z=>?_,h.mm,h.bb⟩⟩;rcases o g z with e|e
  ·rw[hv] at e;cases e
  ·exact ou e
 |some g=>
  have g1:w.heap.size<=g:=Ut h.low (h.row.lt g hv).1;have g2:l1 g=0:=h.bt g hv;have g3:∀k,k<w1.heap.size->k≠g->w'.heap[k]? =w1.heap[k]? :=fun k d A=>a.block k d fun e=>A (by rw[hv] at e;injection e)
  refine⟨_,m,u,b0,⟨h.mv.row a.os a.tape a.output a.size g3 g1,h.bk.row n a.size g3 g2 (fun e=>by have:=h.mm g e;omega) (fun e=>by have:=h.bb g e;omega),h.cP.row n g3 g2,r,h.low,Ut h.hi a.size,fun x f=>?_,h.mm,h.bb⟩⟩;rcases o x f with e|e
  ·rw[hv] at e;injection e with e;subst e;rw[kH (h.row.lt g hv).2];exact g2
  ·exact ou e
def dE.one(w:World)(x):dE 0 (w.alloc (.cells #[sV x] 9)) (lV (qA w.heap.size) 1 1) [x]:=
 ⟨_,_,rfl,Ug _,.inr ⟨w.heap.size,0,rfl,UD _,by simp,fun i p a=>by
  have hi:=(Ux.1 a).1
  simp at hi
  subst hi
  simp at a
  subst a
  exact SZ _ _ _⟩⟩
def TX(n:Nat)(v:Value)(P:Value->Prop):Prop:=∃a cap,v=lV a n cap/\P v
def Ru(w W0:World)(f B u:Nat)(mv:Value)(D C:Bool)(k x y z:Int)(key t)(A5:W0=w.alloc (.cells #[i6 k,i6 x,i6 y,i6 z,sV key,sV t] 51))(_hbl:f<w.heap.size)
 (m:World->Prop) (d:Value->List yB->World->Prop) (E:Int) (cs:List yB) (RT H:yB)
 (B3:yH (yC 48 #[pV (qA f),sV key] W0 fun e w'=>∃b,e=rV (bV b)/\m w'))
 (B5:yH (∀W,m W->yc W f 1 (pV (qA B))/\yc W w.heap.size 4 (sV key)/\m W.drew/\f<W.heap.size/\w.heap.size<W.heap.size))
 (C7:yH (∀W,m W->yC 22 #[pV (qA B),sV key] W fun e w'=>∃v a cap,v=lV a cs.length cap/\e=rV (tV #[v,i6 E])/\d v cs w'))
 (F:yH (∀v c W,d v c W->(yc W f 1 (pV (qA B))/\yc W f 2 mv/\yc W f 4 (pV (qA u))/\yc W u 0 (bV D)/\yc W u 1 (bV C))/\(yc W w.heap.size 2 (i6 y)/\yc W w.heap.size 3 (i6 z)/\yc W w.heap.size 4 (sV key)/\yc W w.heap.size 5 (sV t))/\f<W.heap.size/\w.heap.size<W.heap.size))
 (p:yH (∀v c W j,d v c W->yW W j->d v c j))
 (C2:yH (∀W,yC 74 #[sV key,sV ⟨#[]⟩] W fun e w'=>e=rV (bV (decide (40<key.size)))/\w'=W))
 (A1:yH (∀W c,yc W f 4 (pV (qA u))->yc W u 0 (bV D)->yc W u 1 (bV C)->yC 75 #[pV (qA f),i6 c] W fun r w'=>r=rV (bV (cw D C c))/\w'=W))
 (D4:yH (∀v W,d v cs W->yC 21 #[pV (qA B)] W fun e w2=>e=rV (sV RT)/\yW W w2))
 (C6:yH (∀W,yC 40 #[i6 z,i6 6] W fun e w'=>e=rV (i6 (bW z 6))/\w'=W))
 (B8:yH (∀a cap W,d (lV a cs.length cap) cs W->yC 85 #[lV a cs.length cap,i6 (bW z 6),i6 y,sV t] W fun e w'=>∃g i q,e=rV (lV g q.length i)/\dE W.heap.size w' (lV g q.length i) q/\q.length<=91/\(∀c∈q,c.size<=1073741824)/\yW W w'))
 (D5:yH (∀v W g i b (q:List yB),d v cs W->dE b W (lV g q.length i) q->q.length<=91->(∀c∈q,c.size<=1073741824)->yC 84 #[sV RT,sV key,lV g q.length i] W fun e w2=>e=rV (tV #[sV (e8 RT key q),i6 (gR RT key q)])/\yW W w2))
 (C1:yH (∀v W j,d v cs W->j.heap=W.heap->yC 77 #[mv,sV key] j fun e w'=>e=rV (sV H)/\w'=j))
 (A0:yH (∀v c W b vq q,d v c W->dE b W vq q->c.length+q.length<=1000->∃v' w',(Builtin.append_ #[40,40] 40 #[v,vq]).run yP W=.ok v' w'/\d v' (c++q) w'))
 (B6:yH (∀v q W,d v (cs++q++[bf]) W->(∀c∈q,c.size<=1073741824)->q.length<=91->yC 13 #[v] W fun e w'=>e=rV (bV (bY (cs++q++[bf]) (cs++q++[bf]).length))/\yW W w'))
 (E4:cs.length<=81):
 yC 49 #[pV (qA f),jb k x y z key t] w fun e w'=>∃b,e=rV (bV b)/\(m w'\/∃v c,d v c w'):=by
 unfold jb;generalize hQ:(fun(e:Ending) (w':World)=>∃b,e=rV (bV b)/\(m w'\/∃v c,d v c w'))=Q;have C5:yH (∀w' A,m w'->Q (rV (bV A)) w'):=fun w' A h2=>by rw[<-hQ];exact⟨_,rfl,.inl h2⟩
 have s:yH (∀w' A,(∃v c,d v c w')->Q (rV (bV A)) w'):=fun w' A h3=>by rw[<-hQ];exact⟨_,rfl,.inr h3⟩
 clear hQ;have B4:yH (yC 48 #[pV (qA f),sV key] (w.alloc (.cells #[i6 k,i6 x,i6 y,i6 z,sV key,sV t] 51)) fun e w'=>∃b,e=rV (bV b)/\m w'):=by rw[<-A5];exact B3
 clear A5;suffices hs:yC 49 #[pV (qA f),gV #[i6 k,i6 x,i6 y,i6 z,sV key,sV t]] w (fun e w'=>Q e w'/\True) from hs.mono fun e w' h=>h.1
 go_enter func49,ntmps49
 go_wp2_with fail
 refine B4.m ?_;rintro e w1 ⟨b1,rfl,K⟩;obtain⟨c1,c4,Y,D8,D9⟩:=B5.o w1 K;cases b1 with
 |false=>
  have l:yH (Q (rV (bV false)) w1):=C5.o _ _ K;clear K Y;go_wp2
  go_ret
  exact⟨l.o,trivial⟩
 |true=>
  have C8:=aa (C7.o _ Y);clear Y K;go_upto_region 4 with fail
  go_cut [6,7] (fun v r n=>r=i6 E/\TX cs.length v (fun v=>d v cs n))
  case first=>
   go_region_with (go_at_call 22;refine C8.m ?_;rintro e w2 ⟨v,a,cap,rfl,rfl,L⟩)
   all_goals
    go_wp2
    go_meet
    exact⟨rfl,_,_,rfl,L⟩
  case rest=>
   obtain⟨rfl,a,cap,rfl,L⟩:=hcut;have G:=aa L;clear L c1 c4 D8 D9;generalize wc=w2 at*;obtain⟨⟨d1,d2,d4,e0,e1⟩,⟨b2,b3,b4,b5⟩,g1,g2⟩:=F.o _ _ _ G.o;go_wp2_with fail
   refine(C2.o _).mono ?_;rintro e n ⟨rfl,E2⟩;subst E2;by_cases h40:40<key.size
   ·rw[Uw h40];go_wp2
    go_ret
    exact⟨s.o _ _ ⟨_,_,G.o⟩,trivial⟩
   ·rw[Uv h40];by_cases U:E=0
    ·have D7:(E != 0)=false:=by simpa using U
     clear U;have D1:yH (yC 21 #[pV (qA B)] n fun e w2=>e=rV (sV RT)/\yW n w2):=D4.o _ _ G.o;go_wp2_with fail
     refine D1.m ?_;rintro e w3 ⟨rfl,A7⟩;have P:=aa (p.o _ _ _ _ G.o A7);clear A7 d1 d2 d4 e0 e1 b2 b3 b4 b5 g1 g2;obtain⟨⟨d1,d2,d4,e0,e1⟩,⟨b2,b3,b4,b5⟩,g1,g2⟩:=F.o _ _ _ P.o;go_wp2_with fail
     refine(C6.o _).mono ?_;rintro e o ⟨rfl,Z⟩;subst Z;have B9:=aa (B8.o _ _ _ P.o);go_wp2_with fail
     refine B9.m ?_;rintro e w4 ⟨g,i,q,rfl,hq,A9,B0,A8⟩;have R:=aa (p.o _ _ _ _ P.o A8);have A2:=aa hq;have A3:=aa B0;have J:=aa A9;clear A8 hq B0 A9 d1 d2 d4 e0 e1 b2 b3 b4 b5 g1 g2;obtain⟨⟨d1,d2,d4,e0,e1⟩,⟨b2,b3,b4,b5⟩,g1,g2⟩:=F.o _ _ _ R.o;have D6:=aa (D5.o _ _ _ _ _ _ R.o A2.o J.o A3.o);go_wp2_with fail
     refine D6.m ?_;rintro e w5 ⟨rfl,X⟩;have S:=aa (p.o _ _ _ _ R.o X);have C9:=aa (A2.o.below X);clear X d1 d2 d4 e0 e1 b2 b3 b4 b5 g1 g2;obtain⟨⟨d1,d2,d4,e0,e1⟩,⟨b2,b3,b4,b5⟩,g1,g2⟩:=F.o _ _ _ S.o;have C0:yH (∀j,j.heap=w5.heap->yC 77 #[mv,sV key] j fun e w'=>e=rV (sV H)/\w'=j):=fun j h=>C1.o _ _ _ S.o h
     go_upto_region 15 with(go_quiet ((go_at_call 77;refine Calls.quiet_of_same (C0.o _ rfl))))
     have T:=aa (p.o _ _ _ _ S.o (ig (Un _ _) nq));have D0:=aa (C9.o.below (ig (Un _ _) nq));clear d1 d2 d4 e0 e1 b2 b3 b4 b5 g1 g2;generalize w5.drewN nq=w7 at*;generalize hVS:e8 RT key q=VS at*;generalize hVC:gR RT key q=VC at*;clear hVS hVC;by_cases I:VC=0
     ·have E1:(VC != 0)=false:=by simpa using I
      by_cases M:VS=H
      ·have E0:(VS.toList == H.toList)=true:=by rw[dV];exact Uw M
       have l:yH (Q (rV (bV true)) w7):=s.o _ _ ⟨_,_,T.o⟩;clear M I;go_wp2
       go_ret
       exact⟨l.o,trivial⟩
      ·have E0:(VS.toList == H.toList)=false:=by rw[dV];exact Uv M
       obtain⟨v8,w8,B1,A4⟩:=A0.o _ _ _ _ _ _ T.o D0.o (by have:=J.o;omega);have C4:yH (d v8 (cs++q) (w8.alloc (.cells #[sV bf] 9))):=p.o _ _ _ _ A4 ((Un _ _).alloc (Ug _) _);obtain⟨v9,w9,B2,V⟩:=A0.o _ _ _ 0 (lV (qA w8.heap.size) 1 1) [bf] C4.o (dE.one w8 bf) (by have:=J.o;rw[Uq,Vm];omega);have B7:=aa (B6.o _ _ _ V A3.o J.o);have C3:=aa V;have D2:=aa B1;have D3:=aa B2;clear B1 B2 A4 V M;generalize bY (cs++q++[bf]) (cs++q++[bf]).length=CK at*;go_wp2_with (at_builtin;first| (refine jN rfl (.tmp 78) (.tmp 79) 40 rfl _ _ v8 w8 rfl rfl D2.o ?_) | (refine jN rfl (.tmp 81) (.tmp 82) 40 rfl _ _ v9 w9 rfl rfl D3.o ?_))
       refine B7.m ?_;rintro e w10 ⟨rfl,A6⟩;have O:=aa (p.o _ _ _ _ C3.o A6);clear A6;obtain⟨⟨_,_,d4,e0,e1⟩,_,g1,g2⟩:=F.o _ _ _ O.o;cases CK with
       |true=>
        have l:yH (Q (rV (bV true)) w10):=s.o _ _ ⟨_,_,O.o⟩;go_wp2
        go_ret
        exact⟨l.o,trivial⟩
       |false=>
        have l:yH (Q (rV (bV (cw D C 0))) w10):=s.o _ _ ⟨_,_,O.o⟩;have N:=aa (A1.o w10 0 d4 e0 e1);subst I;go_wp2_with fail
        refine N.m ?_;rintro e wz ⟨rfl,E3⟩;subst E3;go_wp2
        go_ret
        exact⟨l.o,trivial⟩
     ·have E1:(VC != 0)=true:=by simpa using I
      have l:yH (Q (rV (bV VS.toList.isEmpty)) w7):=s.o _ _ ⟨_,_,T.o⟩;clear I;go_wp2
      go_ret
      exact⟨l.o,trivial⟩
    ·have D7:(E != 0)=true:=by simpa using U
     have N:=aa (A1.o n E d4 e0 e1);go_wp2_with fail
     refine N.m ?_;rintro e o ⟨rfl,Z⟩;subst Z;go_wp2
     go_ret
     exact⟨s.o _ _ ⟨_,_,G.o⟩,trivial⟩
def jD(h:aH):Array Value:=#[sV h.addr,iV .i64 h.n,sV h.aI,sV h.code,lV h.sa h.az.length h.sc]
def vi(v:Value):Prop:=∃b:Bool,v=bV b
def uX(e:Ending):Prop:=∃r:yB,e=rV (sV r)/\r.size=32
def BL(e:Ending):Prop:=∃(x:yB) (c:Nat),e=rV (tV #[sV x,iV .i64 c])/\x.size<=160
def uW(e:Ending):Prop:=∃x:yB,e=rV (sV x)
def TS(e:Ending):Prop:=∃x:yB,e=rV (sV x)/\x.size<=1073741824
def oM(W:World)(a:Option Addr)(cs:List yB):Prop:=∀i p,cs[i]? =some p->∃g,a=some ⟨g,0,none⟩/\g<W.heap.size/\W.cell? ⟨g,i,none⟩=some (sV p)
def fh(n:Nat)(cs:List yB):Prop:=cs.length<=n/\∀x∈cs,x.size<=4096
def fh.append{a b c d}(h:fh a c)(k:fh b d):fh (a+b) (c++d):=⟨by have:=h.1;have:=k.1;rw[Uq];omega,fun x e=>(UA.1 e).elim (h.2 x) (k.2 x)⟩
def fh.mono{a b c}(h:fh a c)(k:a<=b):fh b c:=⟨Ut h.1 k,h.2⟩
def fh.one{x:yB}(h:x.size<=4096):fh 1 [x]:=⟨Ug _,fun y a=>by rw[Uo.1 a];exact h⟩
def xS(n:Nat)(v:Value)(P:Option Addr->Nat->List yB->Prop):Prop:=∃a cap cs,v=lV a cs.length cap/\fh n cs/\P a cap cs
def yN{P:Program}{b:Array Oper}{o:Oper}{a:Act}{w:World}{K:Act->World->Prop}{Q:Exit->Act->World->Prop}{E:Prop}
 (f:o.guard=none) (s x:Operand) (t:TypeId) (g:o.op=Op.call {callee:=Callee.builtin Builtin.append,args:=#[s,x],argTypes:=#[t,t]})
 (v d c:Value) (w':World) (hs:a.eval s=v) (j:a.eval x=d) (h:(Builtin.append_ #[t,t] o.type #[v,d]).run P w=.ok c w') (e:K (a.put o.dst c) w'):
 if Region.wanted o (yielded b a.tmps)=true then Oper.wp P o a w K Q else E:=by
 have i:Region.wanted o (yielded b a.tmps)=true:=by simp[Region.wanted,f]
 rw[Uj i];unfold Oper.wp;simp[execOp,g,resolve,invoke,builtin,hs,j,h,Result.andThen];exact e
def GZ:(yP.info? 91).map (·.size)=some 2:=by kernel_rfl
def GY:(yP.info? 105).map (·.size)=some 1:=by kernel_rfl
def xt{e n}(h:(yP.info? e).map (·.size)=some n):∃j,yP.info? e=some j/\j.size=n:=by
 let⟨j,h1,h2⟩:=Option.map_eq_some_iff.1 h;exact⟨j,h1,h2⟩
def NI(a:Nat)(W):(binOp BinOp.eql 89 (pV (qA a)) (pV (qA a))).run yP W=.ok (bV true) W:=by
 let⟨j,h1,_⟩:=xt GZ;exact run_eql_ptr_same W ⟨a,0,none⟩ underlying89 h1
def NH(a:Nat)(W):(binOp BinOp.eql 103 (pV (qA a)) (pV (qA a))).run yP W=.ok (bV true) W:=by
 let⟨j,h1,_⟩:=xt GY;exact run_eql_ptr_same W ⟨a,0,none⟩ underlying103 h1
def NL{a b}{W:World}{c d i k}(h:a≠b)(f:W.heap[a]? =some (.cells c i (0,0)))(g:W.heap[b]? =some (.cells d k (0,0))):(binOp BinOp.eql 89 (pV (qA a)) (pV (qA b))).run yP W=.ok (bV false) W:=by
 let⟨j,h1,h2⟩:=xt GZ;exact run_eql_ptr_other W underlying89 h1 (by rw[h2];decide) (fun e=>h (by injection e)) f g
def NJ{a b}{W:World}{c d i k}(h:a≠b)(f:W.heap[a]? =some (.cells c i (0,0)))(g:W.heap[b]? =some (.cells d k (0,0))):(binOp BinOp.eql 103 (pV (qA a)) (pV (qA b))).run yP W=.ok (bV false) W:=by
 let⟨j,h1,h2⟩:=xt GY;exact run_eql_ptr_other W underlying103 h1 (by rw[h2];decide) (fun e=>h (by injection e)) f g
section
variable {P : Program} {ops : Array Oper} {Q : Exit → Act → World → Prop} {md : Region.Mode} {S : World → Prop} {z : Nat}
def j8(P:Program)(c:Region.Mode)(b:Array Oper)(Q:Exit->Act->World->Prop)(S:World->Prop)(z:Nat):Nat->Array Bool->Act->World->Prop
 | 0,listed,a,w=>Region.ready c b listed=[]/\Q .normal a w
 |f+1,listed,a,w=>(Region.ready c b listed=[]->Q .normal a w)/\∀i∈Region.ready c b listed,wpOp P b Q i (fun a' w'=>(i≠z->S w')/\j8 P c b Q S z f (listed.setIfInBounds i true) a' w') a w
def Cs:∀(f:Nat) (b:Array Bool) (a:Act) (w),j8 P md ops Q S z f b a w->wpAny P md ops Q f b a w
 | 0,_,_,_,h=>h
 |f+1,_,_,_,h=>⟨h.1,fun i hi=>wpOp_mono (fun a' w' k=>Cs f _ a' w' k.2) (h.2 i hi)⟩
def Ku{i m G}{v:Value}(hi:ops[i]? =some m)(X:ops[z]? =some G)(N:∃e∈G.after,Region.binds md e=true/\e.on=i)(E:∀(j:Nat) (o:Oper) cs b,ops[j]? =some o->o.op≠.select cs b)
 (I:∀c a w,Q (.panic c) (a.put m.dst v) w->Q (.panic c) a w) (Y:i≠z):
 ∀(f:Nat) (d:Array Bool) (a:Act) (w:World),(∀j n,ops[j]? =some n->j≠i->d.getD j true=false->(∀e∈n.after,Region.binds md e=true->e.on≠i)->m.apart ops n=true)->i∈Region.ready md ops d->YieldsIf P ops S m v a->S w->
  j8 P md ops Q S z f (d.setIfInBounds i true) (a.put m.dst v) w->j8 P md ops Q S z (f+1) d a w:=by
 intro f;induction f with
 |zero=>
  intro d a w _ l t p H;refine⟨fun h=>(by rw[h] at l;cases l),fun j s=>?_⟩;by_cases g:j=i
  ·subst g;exact t.wpOp hi p ⟨fun _=>p,H⟩
  ·have:=ready_mono s g;rw[H.1] at this;cases this
 |succ f ih=>
  intro d a w A l t p H;refine⟨fun h=>(by rw[h] at l;cases l),fun j s=>?_⟩;by_cases g:j=i
  ·subst g;exact t.wpOp hi p ⟨fun _=>p,H⟩
  ·have k1:=H.2 j (ready_mono s g);let⟨C,n,q,J⟩:=mem_ready.1 s;have D:∀e∈n.after,Region.binds md e=true->e.on≠i:=fun e K y L=>by
    have h1:=J e K y;have h0:=(mem_ready.1 l).1;rw[L] at h1;rcases Nat.lt_or_ge i d.size with u|u
    ·simp[u] at h0 h1;rw[h0] at h1;cases h1
    ·simp[UF u] at h1
   have O:j≠z:=fun e=>by
    let⟨x,W,y,V⟩:=N;rw[e,X] at q;cases q
    exact D x W y V
   have k2:=wpOp_putIf q (A j n q g C D) (fun cs b=>E i m cs b hi) (fun cs b=>E j n cs b q) I t k1;have M:∀k r,ops[k]? =some r->k≠i->(d.setIfInBounds j true).getD k true=false->(∀e∈r.after,Region.binds md e=true->e.on≠i)->m.apart ops r=true:=fun k r R T F U=>by
    refine A k r R T ?_ U;by_cases B:j=k
    ·subst B;exact C
    ·rw[getD_set_ne true B] at F;exact F
   refine wpOp_mono (fun a' w' h3=>⟨h3.2.1,ih (d.setIfInBounds j true) a' w' M (ready_mono l (Ne.symm g)) h3.1 (h3.2.1 O) ?_⟩) k2;rw[Array.setIfInBounds_comm _ _ g];exact h3.2.2
def yo(b:Array Oper)(a:Region.Mode)(z i:Nat):Bool:=match b[z]? with
 |some oz=>oz.after.any fun e=>Region.binds a e && e.on == i
 |none=>false
def Ks{i g}{v:Value}{f:Nat}{d:Array Bool}{a:Act}{w:World}(hi:ops[i]? =some g)
 (hs:Region.noSelect ops=true) (o:Region.free md ops d i=true) (p:(Region.ready md ops d).contains i=true) (b:yo ops md z i=true) (k:(i == z)=false)
 (l:∀c a w,Q (.panic c) (a.put g.dst v) w->Q (.panic c) a w) (q:YieldsIf P ops S g v a) (m:S w)
 (h:j8 P md ops Q S z f (d.setIfInBounds i true) (a.put g.dst v) w):j8 P md ops Q S z (f+1) d a w:=by
 unfold yo at b;cases ho:ops[z]? with
 |none=>rw[ho] at b;cases b
 |some oz=>
  rw[ho] at b;let⟨e,n,j⟩:=Array.any_eq_true'.1 b;simp at j k;exact Ku hi ho ⟨e,n,j.1,j.2⟩ (Region.noSelect_spec hs) l k f d a w (Region.free_spec hi o) (by simpa using p) q m h
def Kt{i o}{f:Nat}{b}{a:Act}{w:World}(d:Region.ready md ops b=[i])(l:ops[i]? =some o)
 (h:∀K':Act->World->Prop,yH (∀a w,(i≠z->S w)->j8 P md ops Q S z f (b.setIfInBounds i true) a w->K' a w)->if Region.wanted o (yielded ops a.tmps)=true then Oper.wp P o a w K' Q else K' (a.put o.dst undef) w):j8 P md ops Q S z (f+1) b a w:=by
 refine⟨fun h0=>(by rw[d] at h0;cases h0),fun j c=>?_⟩;rw[d] at c;obtain rfl:=Uo.1 c;exact wpOp_step l fun K' e=>h K' fun a w g k=>e a w ⟨g,k⟩
def yf{c a w}(b:Region.ready md ops c=[])(h:Q .normal a w):∀f,j8 P md ops Q S z f c a w
 | 0=>⟨b,h⟩
 | _+1=>⟨fun _=>h,by rw[b];simp⟩
def od(n:Nat):Nat->Array Bool
 | 0=>Array.replicate n false
 |k+1=>(od n k).setIfInBounds k true
def ye{k n:Nat}{b rest}{v:Value}{f:Nat}{a:Act}{w:World}(hi:ops.toList.drop k=b::rest)
 (d:(Region.noSelect ops && (Region.free md ops (od n k) k && ((Region.ready md ops (od n k)).contains k && (yo ops md z k && !(k == z)))))=true)
 (e:∀c a w,Q (.panic c) (a.put b.dst v) w->Q (.panic c) a w) (g:S w) (i:YieldsIf P ops S b v a)
 (h:j8 P md ops Q S z f (od n (k+1)) (a.put b.dst v) w):j8 P md ops Q S z (f+1) (od n k) a w:=by
 simp only[Vr,Bool.not_eq_true'] at d;let⟨h1,h2,h3,h4,h5⟩:=d;have h6:ops[k]? =some b:=by
  have:(ops.toList.drop k)[0]? =some b:=by rw[hi];rfl
  rw[VE] at this;simpa using this
 exact Ks h6 h1 h2 h3 h4 h5 e i g h
def ji{k n o rest}{f:Nat}{a:Act}{w:World}(hi:ops.toList.drop k=o::rest)(b:Region.ready md ops (od n k)=[k])
 (h:∀K':Act->World->Prop,yH (∀a w,(k≠z->S w)->j8 P md ops Q S z f (od n (k+1)) a w->K' a w)->if Region.wanted o (yielded ops a.tmps)=true then Oper.wp P o a w K' Q else K' (a.put o.dst undef) w):j8 P md ops Q S z (f+1) (od n k) a w:=by
 refine Kt b ?_ h;have:(ops.toList.drop k)[0]? =some o:=by rw[hi];rfl
 rw[VE] at this;simpa using this
def yd{d a}{w:World}(z:Nat)(S:World->Prop)(c:P.follows .mixedOrders=true)(b:S w.drew)(h:S w.drew->j8 P .any ops Q S z ops.size (od ops.size 0) a w.drew):(Code.region d ops true).wp P Q a w:=
 wp_region_any c (Cs _ _ _ _ (h b))
end
def Su(w:World)(c a sb f t N p:Nat)(m:Option Addr)(i:Option Addr)(k j:Nat)(RT:yB)
 (l g y:World->Prop) (u x z:Nat->World->Prop)
 (G:yH (l w))
 (E:yH (∀W,l W->W.cell? ⟨a,1,none⟩=some (pV (qA f))/\a<W.heap.size))
 (F:yH (∀W,g W->W.cell? ⟨a,1,none⟩=some (pV (qA f))/\W.cell? ⟨a,0,none⟩=some (pV (qA sb))/\a<W.heap.size))
 (Z:yH (∀n W,u n W->(W.cell? ⟨c,0,none⟩=some (lV m N p)/\c<W.heap.size)/\W.cell? ⟨a,0,none⟩=some (pV (qA sb))/\W.cell? ⟨a,2,none⟩=some (lV i k j)/\W.cell? ⟨a,4,none⟩=some (pV (qA t))/\a<W.heap.size))
 (T:yH (∀W,l W->yC 21 #[pV (qA f)] W fun e w'=>e=rV (sV RT)/\l w'))
 (X:yH (∀W,l W->yC 78 #[pV (qA f)] W fun e w'=>e=rV (sV RT)/\g w'))
 (U:yH (∀W,g W->yC 21 #[pV (qA f)] W fun e w'=>e=rV (sV RT)/\g w'))
 (R:yH (∀W,g W->yC 17 #[pV (qA sb),sV RT] W fun e w'=>∃n,e=rV (tV #[pV (qA n),i6 0])/\u n w'))
 (Y:yH (∀n W,u n W->∃a' q o w',(Builtin.append_ #[45,45] 45 #[lV m N p,lV (some ⟨W.heap.size+1,0,none⟩) 1 1]).run yP ((W.drew.alloc (.cells #[pV (qA sb),pV (qA n),lV i k j,lV i k j,pV (qA t)] 94)).alloc (.cells #[pV (qA W.heap.size)] 88))=.ok (lV a' q o) w'/\((w'.cell? ⟨c,0,none⟩=some (lV m N p)/\w'.cell? ⟨a,0,none⟩=some (pV (qA sb))/\w'.cell? ⟨a,2,none⟩=some (lV i k j)/\w'.cell? ⟨a,4,none⟩=some (pV (qA t)))/\w'.frozen? ⟨c,0,none⟩=false/\c<w'.heap.size)/\x n (w'.setCell ⟨c,0,none⟩ (lV a' q o))))
 (S:yH (∀n W,x n W->yC 46 #[pV (qA c),pV (qA a)] W fun e w'=>e=rV (tV #[])/\z n w'))
 (V:yH (∀n W,z n W->yC 21 #[pV (qA n)] W fun e w'=>e=rV (sV RT)/\y w')):
 yC 44 #[pV (qA c),pV (qA a)] w fun e w'=>e=rV (bV true)/\yH (y w'):=by
 obtain⟨c1,d⟩:=E.o _ G.o;have s:=aa (T.o _ G.o);go_enter func44,ntmps44
 go_wp2_with fail
 refine s.m ?_;rintro e w1 ⟨rfl,A⟩;have Q:=aa (X.o _ A);clear c1 d;obtain⟨c1,d⟩:=E.o _ A;clear A;go_wp2_with fail
 refine Q.m ?_;rintro e w2 ⟨rfl,B⟩;have s:=aa (U.o _ B);clear c1 d;obtain⟨c1,_,d⟩:=F.o _ B;clear B;go_wp2_with fail
 refine s.m ?_;rintro e w3 ⟨rfl,C⟩;have O:=aa (R.o _ C);clear c1 d;obtain⟨_,c0,d⟩:=F.o _ C;clear C;go_wp2_with fail
 refine O.m ?_;rintro e w4 ⟨n,rfl,D⟩;clear c0 d;obtain⟨⟨k0,A4⟩,b0,b2,b4,d⟩:=Z.o _ _ D;obtain⟨a',q,o,w',M,⟨⟨kv,A5,A6,A7⟩,kf,kw⟩,I⟩:=Y.o _ _ D;have HR:=aa M;have A0:=aa I;clear M I D;go_upto_region 7 with fail
 go_cut [6] (fun r wx=>r=sV RT/\yH (x n wx))
 case first=>
  refine yd 28 (fun w'=>w'.cell? ⟨c,0,none⟩=some (lV m N p)/\w'.cell? ⟨a,0,none⟩=some (pV (qA sb))/\w'.cell? ⟨a,2,none⟩=some (lV i k j)/\w'.cell? ⟨a,4,none⟩=some (pV (qA t))) (by kernel_rfl) (by go_keep) (fun A2=>?_);iterate 23 (refine ye (v:=?_) rfl (by kernel_rfl) (fun _ _ _ h=>h) A2 (Or.inl ⟨by rfl,?_⟩) ?_;rotate_left;(intro w A3;(try dsimp only at A3);go_simp;try with_reducible rfl);(try simp only[Act.put,List.setIfInBounds_toArray,List.set_cons_zero,List.set_cons_succ]))
  refine ji rfl (by kernel_rfl) (fun K b=>?_);go_simp
  refine b.o _ _ (fun _=>?s23) ?r23;case s23=>((try dsimp only);go_keep)
  clear b K;refine ji rfl (by kernel_rfl) (fun K b=>?_);go_simp
  refine b.o _ _ (fun _=>?s24) ?r24;case s24=>((try dsimp only);go_keep)
  clear b K;refine ji rfl (by kernel_rfl) (fun K b=>?_);refine yN rfl (.tmp 51) (.tmp 71) 45 rfl (lV m N p) (lV (some ⟨w4.heap.size+1,0,none⟩) 1 1) (lV a' q o) w' (by simp[Act.eval]) (by simp[Act.eval]) HR.o ?_;refine b.o _ _ (fun _=>?s25) ?r25;case s25=>((try dsimp only);go_keep)
  clear b K;refine ji rfl (by kernel_rfl) (fun K b=>?_);go_simp
  refine b.o _ _ (fun _=>?s26) ?r26;case s26=>((try dsimp only);go_keep)
  clear b K;refine ji rfl (by kernel_rfl) (fun K b=>?_);go_simp
  refine b.o _ _ (fun _=>?s27) ?r27;case s27=>((try dsimp only);go_keep)
  clear b K;refine ji rfl (by kernel_rfl) (fun K b=>?_);go_simp
  refine b.o _ _ (fun h=>absurd rfl h) ?r28;clear b K;refine yf (by kernel_rfl) ?_ _;go_wp2
  go_meet
  exact⟨rfl,A0⟩
 case rest=>
  obtain⟨rfl,H⟩:=hcut;have P:=aa (S.o _ _ H.o);clear k0 A4 b0 b2 b4 d kv A5 A6 A7 kf kw H;go_wp2_with fail
  refine P.m ?_;rintro e w7 ⟨rfl,J⟩;have s:=aa (V.o _ _ J);clear J;go_wp2_with fail
  refine s.m ?_;rintro e w8 ⟨rfl,L⟩;have A1:=aa L;clear L;go_wp2
  go_ret
  exact⟨by first|rfl|simp,A1⟩
def Tp(w:World)(l d N D:Nat)(r:Option Addr)(k x y z:Int)(s t H:yB)(hN:N<4000000000)
 (h G:World->Prop) (Q:Bool->World->Prop) (q:Nat->World->Prop) (I:Nat->Nat->World->Prop)
 (B0:yH (h (w.alloc (.cells #[i6 k,i6 x,i6 y,i6 z,sV s,sV t] 51))))
 (A9:yH (yc w l 0 (lV r N D)/\l<w.heap.size))
 (P:yH (∀W,h W->(yc W l 0 (lV r N D)/\l<W.heap.size)/\yc W w.heap.size 0 (i6 k)/\yc W w.heap.size 1 (i6 x)/\yc W w.heap.size 2 (i6 y)/\yc W w.heap.size 3 (i6 z)/\yc W w.heap.size 4 (sV s)/\yc W w.heap.size 5 (sV t)/\w.heap.size<W.heap.size))
 (B1:yH (∀W n,h W->h (W.drewN n)))
 (A2:yH (∀W,h W->k=1->yC 6 #[] W fun e w'=>∃c,e=rV (pV (qA c))/\q c w'))
 (A3:yH (∀c W,q c W->yC 7 #[] W fun e w'=>e=rV (sV H)/\q c w'))
 (A4:yH (∀c W,q c W->yC 17 #[pV (qA c),sV H] W fun e w'=>∃n,e=rV (tV #[pV (qA n),i6 0])/\I c n w'))
 (A8:yH (∀c n W,I c n W->yc W l 0 (lV r N D)/\l<W.heap.size))
 (A7:yH (∀c n W,I c n W->∃a' A u w' v,(Builtin.append_ #[45,45] 45 #[lV r N D,lV (some ⟨W.heap.size+2,0,none⟩) 1 1]).run yP (((W.alloc (.cells #[bV false,bV false] 91)).alloc (.cells #[pV (qA c),pV (qA n),lV none 0 0,lV none 0 0,pV (qA W.heap.size)] 94)).alloc (.cells #[pV (some ⟨W.heap.size+1,0,none⟩)] 88))=.ok (lV a' A u) w'/\(yc w' l 0 v/\w'.frozen? ⟨l,0,none⟩=false/\l<w'.heap.size)/\Q true (w'.setCell ⟨l,0,none⟩ (lV a' A u))))
 (B2:yH (∀W,h W->N=0->Q true W))
 (A5:yH (∀W,0<N->yC 40 #[i6 x,i6 N] W fun e w'=>e=rV (i6 (bW x N))/\w'=W))
 (B3:yH (∀W,h W->0<N->∃g,r=some ⟨g,0,none⟩/\g<W.heap.size/\yc W g (bW x N) (pV (qA d))))
 (K2:yH (∀W,h W->0<N->k=2->yC 41 #[pV (qA d),sV s,sV t] W fun e w'=>∃b,e=rV (bV b)/\Q b w'))
 (K3:yH (∀W,h W->0<N->k=3->yC 42 #[pV (qA d),sV s] W fun e w'=>∃b,e=rV (bV b)/\Q b w'))
 (K4:yH (∀W,h W->0<N->k=4->yC 43 #[pV (qA d),sV s] W fun e w'=>∃b,e=rV (bV b)/\Q b w'))
 (K5:yH (∀W,h W->0<N->k=5->yC 44 #[pV (qA l),pV (qA d)] W fun e w'=>∃b,e=rV (bV b)/\Q b w'))
 (K8:yH (∀W,h W->0<N->k=8->yC 47 #[pV (qA d),i6 y] W fun e w'=>∃b,e=rV (bV b)/\Q b w'))
 (K9:yH (∀W,h W->0<N->k=9->yC 48 #[pV (qA d),sV s] W fun e w'=>∃b,e=rV (bV b)/\Q b w'))
 (B4:yH (∀W,h W->0<N->k=10->yC 49 #[pV (qA d),gV #[i6 k,i6 x,i6 y,i6 z,sV s,sV t]] W fun e w'=>∃b,e=rV (bV b)/\Q b w'))
 (R:yH (∀W,h W->0<N->k=6\/k=7->yC 45 #[pV (qA d),gV #[i6 k,i6 x,i6 y,i6 z,sV s,sV t]] W fun e w'=>e=rV (tV #[])/\G w'))
 (S:yH (∀W,G W->yC 46 #[pV (qA l),pV (qA d)] W fun e w'=>e=rV (tV #[])/\Q true w'))
 (B5:yH (∀W,h W->0<N->Q true W)):
 yC 23 #[pV (qA l),gV #[i6 k,i6 x,i6 y,i6 z,sV s,sV t]] w fun e w'=>∃b,e=rV (bV b)/\yH (Q b w'):=by
 obtain⟨C,F⟩:=yX (w.alloc (.cells #[i6 k,i6 x,i6 y,i6 z,sV s,sV t] 51))
 have B:yH (h C):=by rw[F];exact B0
 by_cases h30:k=1
 ·have Z:=aa (A2.o _ B.o h30);subst h30;go_enter func23,ntmps23
  go_wp2_with fail
  rw[<-F];clear F;refine Z.m ?_;rintro e w1 ⟨c,rfl,T⟩;have A0:=aa (A3.o _ _ T);clear T;go_wp2_with fail
  refine A0.m ?_;rintro e w2 ⟨rfl,U⟩;have A1:=aa (A4.o _ _ U);clear U;go_wp2_with fail
  refine A1.m ?_;rintro e w3 ⟨n,rfl,O⟩;obtain⟨c1,Y⟩:=A8.o _ _ _ O;obtain⟨a',A,u,w',v,X,⟨kv,kf,kw⟩,V⟩:=A7.o _ _ _ O;have HR:=aa X;have L:=aa V;clear X V O;go_wp2_with (at_builtin;refine jN rfl (.tmp 25) (.tmp 32) 45 rfl _ _ (lV a' A u) w' rfl rfl HR.o ?_)
  go_ret
  exact⟨true,rfl,L⟩
 ·have C2:(k == 1)=false:=by simpa using h30
  clear h30;obtain⟨B6,C0⟩:=A9.o;go_enter func23,ntmps23
  go_upto_region 7 with fail
  go_cut [43] (fun v wx=>v=bV ((N:Int) == 0)/\wx=C)
  case first=>
   go_wp2
   go_meet
   exact⟨rfl,F.symm⟩
  case rest=>
   obtain⟨rfl,rfl⟩:=hcut;clear F B6 C0;obtain⟨⟨c1,Y⟩,b0,b1,b2,b3,b4,b5,p⟩:=P.o _ B.o;by_cases J:N=0
   ·have L:=aa (B2.o _ B.o J);have B7:((N:Int) == 0)=true:=by rw[J];rfl
    clear J;go_wp2
    go_ret
    exact⟨true,rfl,L⟩
   ·have B7:((N:Int) == 0)=false:=by simp;omega
    have M:0<N:=by omega
    have o:=aa M;have hj:bW x N<N:=ky x N M;obtain⟨g,rfl,B8,e0⟩:=B3.o _ B.o M;have A6:yH (∀W,yC 40 #[i6 x,i6 N] W fun e w'=>e=rV (i6 (bW x N))/\w'=W):=fun W=>A5.o W o.o
    generalize bW x N=j at*;have B9:(j:Int)<(N:Int):=by omega
    clear J;go_upto_region 10 with(go_quiet ((go_at_call 40;refine Calls.quiet_of_same (A6.o _))))
    have m:=aa (B1.o _ nq B.o);clear c1 Y b0 b1 b2 b3 b4 b5 p B8 e0 B9 hj;generalize wc.drewN nq=w1 at*;obtain⟨_,b0,b1,b2,b3,b4,b5,p⟩:=P.o _ m.o;by_cases h2:k=2
    ·have i:=aa (K2.o _ m.o o.o h2);subst h2;go_wp2_with fail
     refine i.m ?_;rintro e w9 ⟨b,rfl,a⟩;have f:=aa a;clear a b0 b1 b2 b3 b4 b5 p;go_wp2
     go_ret
     exact⟨b,rfl,f⟩
    have C3:(k == 2)=false:=by simpa using h2
    clear h2;by_cases h3:k=3
    ·have i:=aa (K3.o _ m.o o.o h3);subst h3;go_wp2_with fail
     refine i.m ?_;rintro e w9 ⟨b,rfl,a⟩;have f:=aa a;clear a b0 b1 b2 b3 b4 b5 p;go_wp2
     go_ret
     exact⟨b,rfl,f⟩
    have C4:(k == 3)=false:=by simpa using h3
    clear h3;by_cases h4:k=4
    ·have i:=aa (K4.o _ m.o o.o h4);subst h4;go_wp2_with fail
     refine i.m ?_;rintro e w9 ⟨b,rfl,a⟩;have f:=aa a;clear a b0 b1 b2 b3 b4 b5 p;go_wp2
     go_ret
     exact⟨b,rfl,f⟩
    have C5:(k == 4)=false:=by simpa using h4
    clear h4;by_cases h5:k=5
    ·have i:=aa (K5.o _ m.o o.o h5);subst h5;go_wp2_with fail
     refine i.m ?_;rintro e w9 ⟨b,rfl,a⟩;have f:=aa a;clear a b0 b1 b2 b3 b4 b5 p;go_wp2
     go_ret
     exact⟨b,rfl,f⟩
    have C6:(k == 5)=false:=by simpa using h5
    clear h5;by_cases h6:k=6
    ·have i:=aa (R.o _ m.o o.o (.inl h6));subst h6;go_wp2_with fail
     refine i.m ?_;rintro e w8 ⟨rfl,E⟩;have K:=aa (S.o _ E);clear E b0 b1 b2 b3 b4 b5 p;go_wp2_with fail
     refine K.m ?_;rintro e w9 ⟨rfl,a⟩;have f:=aa a;clear a;go_wp2
     go_ret
     exact⟨true,rfl,f⟩
    have C7:(k == 6)=false:=by simpa using h6
    clear h6;by_cases h7:k=7
    ·have i:=aa (R.o _ m.o o.o (.inr h7));subst h7;go_wp2_with fail
     refine i.m ?_;rintro e w8 ⟨rfl,E⟩;have K:=aa (S.o _ E);clear E b0 b1 b2 b3 b4 b5 p;go_wp2_with fail
     refine K.m ?_;rintro e w9 ⟨rfl,a⟩;have f:=aa a;clear a;go_wp2
     go_ret
     exact⟨true,rfl,f⟩
    have C8:(k == 7)=false:=by simpa using h7
    clear h7;by_cases h8:k=8
    ·have i:=aa (K8.o _ m.o o.o h8);subst h8;go_wp2_with fail
     refine i.m ?_;rintro e w9 ⟨b,rfl,a⟩;have f:=aa a;clear a b0 b1 b2 b3 b4 b5 p;go_wp2
     go_ret
     exact⟨b,rfl,f⟩
    have C9:(k == 8)=false:=by simpa using h8
    clear h8;by_cases h9:k=9
    ·have i:=aa (K9.o _ m.o o.o h9);subst h9;go_wp2_with fail
     refine i.m ?_;rintro e w9 ⟨b,rfl,a⟩;have f:=aa a;clear a b0 b1 b2 b3 b4 b5 p;go_wp2
     go_ret
     exact⟨b,rfl,f⟩
    have D0:(k == 9)=false:=by simpa using h9
    clear h9;by_cases h10:k=10
    ·have i:=aa (B4.o _ m.o o.o h10);subst h10;go_wp2_with fail
     refine i.m ?_;rintro e w9 ⟨b,rfl,a⟩;have f:=aa a;clear a b0 b1 b2 b3 b4 b5 p;go_wp2
     go_ret
     exact⟨b,rfl,f⟩
    have C1:(k == 10)=false:=by simpa using h10
    clear h10;have f:=aa (B5.o _ m.o o.o);go_wp2
    go_ret
    exact⟨true,rfl,f⟩
def TN(w:World)(rb I:Nat)(a:Option Addr)(cap N:Nat)(turn:Int)(i a0:yB)(hN:N<4000000000)(m A:yB->Prop)(q:List yB->Prop)(d:Bool)
 (D:Nat->List (Value×List yB)->World->Prop)
 (Z:yH (yc w rb 2 (lV a N cap)/\rb<w.heap.size))
 (A9:yH (yC 6 #[] w fun e w'=>∃H,e=rV (pV (qA H))/\(yc w' rb 2 (lV a N cap)/\rb<w'.heap.size)/\yH (yC 91 #[pV (qA H),lV a N cap,i6 turn] w' fun e w2=>∃b,e=rV (pV (qA b))/\D b [] w2)))
 (y:yH (∀b rows W,D b rows W->yc W rb 1 (pV (qA I))/\yc W rb 2 (lV a N cap)/\rb<W.heap.size))
 (B4:yH (∀b W,D b [] W->yC 11 #[pV (qA b)] W fun e w'=>(∃r:yB,e=rV (sV r)/\r.size=32/\m r)/\D b [] w'))
 (B3:yH (∀b W,D b [] W->yC 11 #[pV (qA I)] W fun e w'=>(∃r:yB,e=rV (sV r)/\r.size=32/\A r)/\D b [] w'))
 (A6:yH (∀b W,D b [] W->yC 7 #[] W fun e w'=>e=rV (sV i)/\D b [] w'))
 (B2:yH (∀b W,D b [] W->0<N->∃g,a=some ⟨g,0,none⟩/\g<W.heap.size/\yc W g 0 (sV a0)))
 (B0:yH (∀b W,D b [] W->0<N->yC 12 #[pV (qA b),sV a0] W fun e w'=>∃(a':Option Addr) (j:Nat) (c:Int) (cs:List yB),e=rV (tV #[lV a' cs.length j,i6 c])/\fh 81 cs/\q cs/\D b [(lV a' cs.length j,cs)] w'))
 (Y:yH (∀b v cs W,D b [(v,cs)] W->fh 81 cs->∃a' j w',(Builtin.append_ #[40,40] 40 #[v,lV (qA W.heap.size) 1 1]).run yP (W.alloc (.cells #[sV bf] 9))=.ok (lV a' (cs++[bf]).length j) w'/\D b [(lV a' (cs++[bf]).length j,cs++[bf])] w'))
 (A2:yH (∀b v cs W,D b [(v,cs++[bf])] W->fh 81 cs->yC 13 #[v] W fun e w'=>e=rV (bV (bY (cs++[bf]) (cs++[bf]).length))/\D b [(v,cs++[bf])] w'))
 (L:yH (∀b rows W,D b rows W->yC 87 #[pV (qA rb)] W fun e w'=>e=rV (bV d)/\D b rows w'))
 (B5:yH (∀r,m r->N=0->r=i)) (B6:yH (∀r cs,m r->q cs->N≠0->r=i->d=false->bY (cs++[bf]) (cs++[bf]).length=true)) (B7:yH (∀r r',m r->A r'->d=false->r=r')):
 yC 52 #[pV (qA rb),i6 turn] w fun e w'=>e=rV (bV true)/\∃b r,yH (D b r w'):=by
 obtain⟨c3,C0⟩:=Z.o;go_enter func52,ntmps52
 go_wp2_with fail
 refine A9.m ?_;rintro e w1 ⟨H,rfl,⟨d3,C1⟩,J⟩;clear c3 C0;go_wp2_with fail
 refine J.m ?_;rintro e w2 ⟨b,rfl,B⟩;obtain⟨r1,r2,l⟩:=y.o _ _ _ B;have u:=aa (B4.o _ _ B);clear B J d3 C1;go_wp2_with fail
 refine u.m ?_;rintro e w3 ⟨⟨f,rfl,h32,Q⟩,C⟩;have z:=aa Q;clear r1 r2 l;obtain⟨r1,r2,l⟩:=y.o _ _ _ C;have u:=aa (B3.o _ _ C);have C5:(f.size:Int)=32:=by rw[h32];rfl
 clear C h32 Q;go_wp2_with fail
 refine u.m ?_;rintro e w4 ⟨⟨n,rfl,h32,R⟩,M⟩;have A5:=aa (B7.o _ _ z.o R);have A7:=aa (B5.o _ z.o);clear r1 r2 l;have C6:(n.size:Int)=32:=by rw[h32];rfl
 have X:=aa (A6.o _ _ M);clear M h32 R;go_wp2_with fail
 refine X.m ?_;rintro e w5 ⟨rfl,t⟩;have p:=aa t;obtain⟨r1,r2,l⟩:=y.o _ _ _ t;have o:=aa (L.o _ _ _ t);clear t;have K:yH ((f.toList == n.toList)=false->d=true):=fun h=>by
  cases hm:d with
  |true=>rfl
  |false=>rw[A5.o hm,dV,Uw rfl] at h;cases h
 by_cases F:N=0
 ·subst F;have s:(f.toList == i.toList)=true:=by rw[A7.o rfl,dV,Uw rfl]
  have C2:(f.toList != i.toList)=false:=by rw[bne,s];rfl
  cases hC:(f.toList == n.toList) with
  |true=>
   go_wp2
   go_ret
   exact⟨rfl,_,_,p⟩
  |false=>
   obtain rfl:=K.o hC;go_wp2_with fail
   refine o.m ?_;rintro e w6 ⟨rfl,k⟩;have x:=aa k;clear k r1 r2 l;go_wp2
   go_ret
   exact⟨rfl,_,_,x⟩
 ·have C4:(0:Int)<(N:Int):=by omega
  have C3:((N:Int) == 0)=false:=by simp;omega
  cases s:(f.toList == i.toList) with
  |true=>
   obtain⟨g,ha,B9,B8⟩:=B2.o _ _ p.o (by omega);subst ha;have A8:yH (f=i):=by rw[dV] at s;show f=i;exact of_decide_eq_true s
   have V:=aa (B0.o _ _ p.o (by omega));have A1:yH (∀cs,q cs->d=false->bY (cs++[bf]) (cs++[bf]).length=true):=fun cs h=>B6.o _ cs z.o h F A8.o
   clear F;go_wp2_with fail
   refine V.m ?_;rintro e w6 ⟨a',j,c,cs,rfl,G,S,k⟩;obtain⟨a7,c7,w7,T,O⟩:=Y.o _ _ _ _ k G;have B1:=aa T;have U:=aa (A2.o _ _ _ _ O G);have A0:=aa (A1.o _ S);clear T O k G S r1 r2 l B9 B8;generalize bY (cs++[bf]) (cs++[bf]).length=CK at*;generalize (cs++[bf]).length=L7 at*;go_wp2_with (at_builtin;refine jN rfl (.tmp 74) (.tmp 75) 40 rfl _ _ (lV a7 L7 c7) w7 rfl rfl B1.o ?_)
   refine U.m ?_;rintro e w8 ⟨rfl,E⟩;have A3:=aa E;have o:=aa (L.o _ _ _ E);clear E;cases CK with
   |true=>
    go_wp2
    go_ret
    exact⟨rfl,_,_,A3⟩
   |false=>
    obtain rfl:d=true:=by
     cases d with
     |true=>rfl
     |false=>exact A0.o rfl
    go_wp2_with fail
    refine o.m ?_;rintro e w9 ⟨rfl,P⟩;have A4:=aa P;clear P;go_wp2
    go_ret
    exact⟨rfl,_,_,A4⟩
  |false=>
   cases hC:(f.toList == n.toList) with
   |true=>
    go_wp2
    go_ret
    exact⟨rfl,_,_,p⟩
   |false=>
    obtain rfl:=K.o hC;go_wp2_with fail
    refine o.m ?_;rintro e w6 ⟨rfl,k⟩;have x:=aa k;clear k r1 r2 l;go_wp2
    go_ret
    exact⟨rfl,_,_,x⟩
end Go.Proofs.YthpclfdpbmehgaaGreatDoor
