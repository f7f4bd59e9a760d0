import Derived.Test.YthpclfdpbmehgaaGreatDoorI
open Go.Proofs.Tryz
open Go.Proofs.Tryz renaming prog→yP
open Go.Value renaming string→sV,pointer→pV,int→iV,slice→lV,bool→bV,tuple→tV,agg→gV
open Go.Ending renaming returned→rV
namespace Go.Proofs.YthpclfdpbmehgaaGreatDoor
open Go.RowKit
set_option maxRecDepth 100000
set_option maxHeartbeats 0
set_option linter.all false
def jN{P:Program}{w:World}{b:Array Oper}{rest:List Oper}{o:Oper}{a:Act}{Q:Exit->Act->World->Prop}(g:o.guard=none)(s x:Operand)(t:TypeId)
 (i:o.op=.call {callee:=.builtin .append,args:=#[s,x],argTypes:=#[t,t]}) (d e c:Value) (w':World) (hs:a.eval s=d) (k:a.eval x=e)
 (j:(Builtin.append_ #[t,t] o.type #[d,e]).run P w=.ok c w') (h:wpList P b Q rest (a.put o.dst c) w'):wpList P b Q (o::rest) a w:=by
 refine wpList_plain g fun K f=>?_
 unfold Oper.wp execOp;simp only[i,resolve,invoke,builtin,Sem.run_bind,Sem.run_pure,Result.andThen_ok,List.map_toArray,List.map_cons,List.map_nil,hs,k,j];exact f _ _ h
def EM:∀(a:List (yB×yB)) (m:Nat),fK (a.take m)=(fK a).take (m*2)
 | [],m=>by simp[fK]
 |q::t,0=>by simp[fK]
 |q::t,m+1=>by
  have:=EM t m
  rw[show(m+1)*2=m*2+2 by omega]
  show [Value.string q.1,Value.string q.2]++fK (t.take m)=_
  rw[this];rfl
def fp(a:List (yB×yB))(h t:yB):List (yB×yB):=(others a h).take (aZ (others a h) h)++[(h,t)]++(others a h).drop (aZ (others a h) h)
def jj(a:Nat->Value):Array Value:=((List.range 256).map a).toArray
def vQ(a):(jj a).size=256:=by simp[jj]
def mY(a)(c:Nat)(h:c<256):(jj a)[c]? =some (a c):=by
 unfold jj;rw[Vu,UK,List.getElem?_range h];rfl
def bd(a:Nat->Value)(c:Nat)(v:Value):Nat->Value:=fun d=>if d=c then v else a d
def yU(d)(c:Nat)(v)(h:c<256):(jj d).setIfInBounds c v=jj (bd d c v):=by
 apply Vw;intro j;rw[Vi];by_cases a:c=j
 ·subst a;rw[Uj rfl,Uj (by rw[vQ];exact h),mY _ _ h];simp[bd]
 ·rw[Ui a];by_cases b:j<256
  ·rw[mY _ _ b,mY _ _ b];simp[bd,Ne.symm a]
  ·rw[UF (by rw[vQ];omega),UF (by rw[vQ];omega)]
structure bZ(base:Nat)(w:World)(b:Nat)(vs:Nat->Value)(sh:Nat->List (yB×yB)):Prop where
 ai:w.heap[b]? =some (.cells (jj vs) 55 (0,0))
 own:∀c,c<256->w.ownsRow base 177 2 (vs c) (sh c).length (fK (sh c))
 sep:∀c d g,c<256->d<256->(vs c).ownBlock=some g->(vs d).ownBlock=some g->c=d
 fL:∀c g,c<256->(vs c).ownBlock=some g->g≠b
def bZ.lK{base w b l i}(h:bZ base w b l i)(c:Nat)(d:c<256):∃a cap,l c=lV a (i c).length cap/\sF w b c a cap (i c):=by
 let⟨a,cap,e,_,_,f⟩:=dM (h.own c d);refine⟨a,cap,e,⟨by rw[Ur w b c _ _ _ h.ai,mY _ _ d,e],fun k p j=>?_⟩⟩;have m:=(Ux.1 j).1;rcases f with⟨_,h0,_⟩|⟨g,rfl⟩
 ·omega
 ·let⟨p1,p2⟩:=tQ _ k p j;exact⟨g,rfl,fc (h.own c d) (by rw[e];rfl) _ _ p1,fc (h.own c d) (by rw[e];rfl) _ _ p2⟩
def EN:∀(a:List (yB×yB)) (k:Nat) (p:yB×yB),fK (a.set k p)=((fK a).set (k*2) (sV p.1)).set (k*2+1) (sV p.2)
 | [],k,p=>by simp[fK]
 |q::t,0,p=>by simp[fK]
 |q::t,k+1,p=>by
  have:=EN t k p
  rw[show(k+1)*2=k*2+2 by omega,show k*2+2+1=k*2+1+2 by omega]
  show [Value.string q.1,Value.string q.2]++fK (t.set k p)=_
  rw[this];rfl
def fw(L:List (yB×yB))(n:Nat):Nat->List (yB×yB)
 | 0=>L
 |k+1=>(fw L n k).set (n - k) (L.getD (n - k - 1) (⟨#[]⟩,⟨#[]⟩))
def qX(L)(n:Nat):∀k,(fw L n k).length=L.length
 | 0=>rfl
 |k+1=>by show((fw L n k).set _ _).length=_;rw[Vh,qX L n k]
def yq(L)(n:Nat):∀k j,j+k<=n->(fw L n k)[j]? =L[j]?
 | 0,j,_=>rfl
 |k+1,j,h=>by
  show((fw L n k).set (n - k) _)[j]? =_
  rw[Ve (by omega)]
  exact yq L n k j (by omega)
def CA(L:List (yB×yB))(n:Nat)(a:L.length=n+1):∀k j,k<=n->n<j+k->j<=n->(fw L n k)[j]? =L[j - 1]?
 | 0,j,_,h,hj=>by omega
 |k+1,j,hk,h,hj=>by
  show((fw L n k).set (n - k) _)[j]? =_
  by_cases e:n - k=j
  ·subst e
   rw[List.getElem?_set_self (by rw[qX,a];omega),Up,Uh (by omega)];rfl
  ·rw[Ve e]
   exact CA L n a k j (by omega) (by omega) hj
def Q8:(yP.info? 177).map (fun i=>(i.zero,i.size,i.bytes))=some (some (gV #[sV ⟨#[]⟩,sV ⟨#[]⟩]),2,32):=by kernel_rfl
structure aU(T:Nat->Prop)(w w':World):Prop where
 os:w'.os=w.os
 tape:w'.tape=w.tape
 output:w'.output=w.output
 size:w.heap.size<=w'.heap.size
 block:∀k,k<w.heap.size->¬T k->w'.heap[k]? =w.heap[k]?
def aU.set{T w w'}(h:aU T w w')(a:Addr)(v)(b:T a.block\/w.heap.size<=a.block):aU T w (w'.setCell a v):=
 ⟨h.os,h.tape,h.output,by simpa using h.size,fun k d c=>by
  rw[UL _ _ _ k (fun e=>by rcases b with b|b;exact c (by rw[e];exact b);omega)]
  exact h.block k d c⟩
def aP(a:Nat->List (yB×yB))(c:Nat)(l:List (yB×yB)):Nat->List (yB×yB):=fun d=>if d=c then l else a d
def bZ.grown{base w b j x}(S:bZ base w b j x)(c:Nat)(n:c<256)(o:Obj)(l:List (yB×yB))
 (g cap:Nat) (w1:World) (v:w1.ownsRow base 177 2 (lV (qA g) l.length cap) l.length (fK l)) (m:(w.drew.alloc o).grownBy w1 (j c).ownBlock) (t:(j c).ownBlock=some g\/g=w.heap.size+1):
 w1.heap[b]? =some (.cells (jj j) 55 (0,0))/\bZ base (w1.setCell ⟨b,c,none⟩ (lV (qA g) l.length cap)) b (bd j c (lV (qA g) l.length cap)) (aP x c l)/\
  aU (fun k=>k=b\/(j c).ownBlock=some k) w (w1.setCell ⟨b,c,none⟩ (lV (qA g) l.length cap))/\g<w1.heap.size:=by
 have y:b<w.heap.size:=(Um.1 S.ai).1;have E:=m.size;have D:(w.drew.alloc o).heap.size=w.heap.size+1:=by simp
 have s:∀k,k<w.heap.size->(w.drew.alloc o).heap[k]? =w.heap[k]? :=fun k r=>U6 w.drew o k r
 have p:w1.heap[b]? =some (.cells (jj j) 55 (0,0)):=by
  rw[m.block b (by omega) (fun e=>S.fL c b n e.symm rfl),s b y];exact S.ai
 have u:g≠b:=by
  rcases t with h|h
  ·exact S.fL c g n h
  ·omega
 have z:g<w1.heap.size:=(v.lt g rfl).2;refine⟨p,⟨?_,?_,?_,?_⟩,?_,z⟩
 ·rw[U7 w1 b c _ _ (0,0) _ p,Vk w1 b _ _ _ _ p,yU _ _ _ n]
 ·intro d f;by_cases e:d=c
  ·subst e;simp only[bd,aP,U5];exact cM v fun a i=>UL _ _ _ a (by show a≠b;simp[Value.ownBlock] at i;subst i;exact u)
  ·simp only[bd,aP,e,UT];refine cM (S.own d f) fun a i=>?_
   have A:=((S.own d f).lt a i).2;rw[UL _ _ _ a (by show a≠b;exact S.fL d a f i),m.block a (by omega) (fun h=>e (S.sep d c a f n i h.symm)),s a A]
 ·intro d1 d2 a h1 h2 e1 e2;have key:∀d,d<256->d≠c->(j d).ownBlock=some g->False:=fun d f C i=>by
   rcases t with h|h
   ·exact C (S.sep d c g f n i h)
   ·have:=((S.own d f).lt g i).2;omega
  by_cases q1:d1=c<;>by_cases q2:d2=c
  ·rw[q1,q2]
  ·simp only[bd,q1,U5] at e1;simp only[bd,q2,UT] at e2;simp[Value.ownBlock] at e1;subst e1;exact(key d2 h2 q2 e2).elim
  ·simp only[bd,q2,U5] at e2;simp only[bd,q1,UT] at e1;simp[Value.ownBlock] at e2;subst e2;exact(key d1 h1 q1 e1).elim
  ·simp only[bd,q1,UT] at e1;simp only[bd,q2,UT] at e2;exact S.sep d1 d2 a h1 h2 e1 e2
 ·intro d a f e;by_cases q:d=c
  ·simp only[bd,q,U5] at e;simp[Value.ownBlock] at e;subst e;exact u
  ·simp only[bd,q,UT] at e;exact S.fL d a f e
 ·exact aU.set (T:=fun k=>k=b\/(j c).ownBlock=some k) (w:=w) (w':=w1) ⟨m.os,m.tape,m.output,by omega,fun k r B=>by
   rw[m.block k (by omega) (fun h=>B (.inr h.symm)),s k r]⟩ ⟨b,c,none⟩ _ (.inl (.inl rfl))
def bZ.put{base w b l j}(S:bZ base w b l j)(c:Nat)(m:c<256)(g:Nat)(f:(l c).ownBlock=some g)(k:Nat)(p:yB×yB):
 bZ base ((w.setCell ⟨g,k*2,none⟩ (sV p.1)).setCell ⟨g,k*2+1,none⟩ (sV p.2)) b l (aP j c ((j c).set k p)):=by
 have n:=S.fL c g m f;refine⟨?_,?_,S.sep,S.fL⟩
 ·rw[UL _ _ _ b (by show b≠g;exact n.symm),UL _ _ _ b (by show b≠g;exact n.symm)];exact S.ai
 ·intro d i;by_cases e:d=c
  ·subst e;simp only[aP,U5];rw[EN,Vh];exact tS (tS (S.own d i) f _ _) f _ _
  ·simp only[aP,e,UT];refine cM (S.own d i) fun a q=>?_
   have o:a≠g:=fun h=>e (S.sep d c g i m (by rw[<-h];exact q) f)
   rw[UL _ _ _ a (by show a≠g;exact o),UL _ _ _ a (by show a≠g;exact o)]
def Nc(base:Nat)(w)(b:Nat)(f)(a:Nat->List (yB×yB))(S:bZ base w b f a)(c at_:Nat)(m:c<256)(B6:at_<=(a c).length)(hn:(a c).length<4000000000000)(C5:base<=w.heap.size):
 yC 149 #[.pointer (qA b),.int .u8 c,.int .i64 at_] w fun e w'=>e=.returned (.tuple #[])/\
  (∃l,bZ base w' b (bd f c l) (aP a c (fw (a c++[(⟨#[]⟩,⟨#[]⟩)]) (a c).length ((a c).length - at_)))/\∀g,l.ownBlock=some g->(f c).ownBlock=some g\/w.heap.size<=g)/\aU (fun k=>k=b\/(f c).ownBlock=some k) w w':=by
 have B7:b<w.heap.size:=(Um.1 S.ai).1;have c0:w.cell? ⟨b,c,none⟩=some (f c):=by rw[Ur w b c _ _ _ S.ai];exact mY _ _ m
 have B3:(w.alloc (.cells #[.string ⟨#[]⟩,.string ⟨#[]⟩] 177)).cell? ⟨b,c,none⟩=some (f c):=by
  rw[Uz (w:=w) (U6 _ _ _ B7)];exact c0
 obtain⟨i0,U,A1,A2,A3⟩:=Vp Q8;have C6:(c:Int)<256:=by omega
 have A8:=aa (S.own c m);have A4:yH (∀g5 i w5,w5.ownsRow base 177 2 (.slice (qA g5) ((a c).length+1) i) ((a c).length+1) (fK (a c)++[.string ⟨#[]⟩,.string ⟨#[]⟩])->(w.drew.alloc (.cells #[.string ⟨#[]⟩,.string ⟨#[]⟩] 177)).grownBy w5 (f c).ownBlock->
  ((f c).ownBlock=some g5\/g5=w.heap.size+1)->
  yH (bZ base (w5.setCell ⟨b,c,none⟩ (.slice (qA g5) ((a c).length+1) i)) b (bd f c (.slice (qA g5) ((a c).length+1) i)) (aP a c (a c++[(⟨#[]⟩,⟨#[]⟩)]))/\aU (fun k=>k=b\/(f c).ownBlock=some k) w (w5.setCell ⟨b,c,none⟩ (.slice (qA g5) ((a c).length+1) i))/\((f c).ownBlock=some g5\/w.heap.size<=g5))/\
   w5.cell? ⟨b,c,none⟩=some (f c)/\w5.frozen? ⟨b,c,none⟩=false):=by
  intro g5 i w5 o n v;have X:(a c++[((⟨#[]⟩:yB),(⟨#[]⟩:yB))]).length=(a c).length+1:=by simp
  have:=S.grown c m _ (a c++[(⟨#[]⟩,⟨#[]⟩)]) g5 i w5 (by rw[X,zy];exact o) n v;rw[X] at this;obtain⟨h1,h2,h3,_⟩:=this;refine⟨⟨h2,h3,?_⟩,by rw[Ur w5 b c _ _ _ h1];exact mY _ _ m,US w5 b c _ _ h1⟩;rcases v with v|v
  ·exact .inl v
  ·exact .inr (by omega)
 clear S;go_enter func149,ntmps149
 go_upto_region 0 with fail
 go_cut [] (fun wx=>∃g5 i,yH (bZ base wx b (bd f c (.slice (qA g5) ((a c).length+1) i)) (aP a c (a c++[(⟨#[]⟩,⟨#[]⟩)])))/\yH (aU (fun k=>k=b\/(f c).ownBlock=some k) w wx)/\yH ((f c).ownBlock=some g5\/w.heap.size<=g5))
 case first=>
  go_region_law (refine step_append_lies _ rfl (.tmp 14) (.tmp 16) 52 rfl base 177 i0 (.agg #[.string ⟨#[]⟩,.string ⟨#[]⟩]) 2 32 underlying52 U A1 A2 A3 rfl (by decide) (f c) (a c).length (fK (a c)) (by simp[Act.eval]) (A8.o.drew.alloc _) ⟨w.heap.size,0,none⟩ 1 1 [.string ⟨#[]⟩,.string ⟨#[]⟩] (by simp[Act.eval]) rfl (vC _ _ _ _ rfl) (by intro u hu;simp at hu;subst hu;rfl) (by omega) (by unfold maxLen;omega) (by omega) (by simp;omega) _ rfl ?_;intro g5 i w5 hown5 hgr5 hat5 hlt5;obtain⟨HF5,e3,g3⟩:=A4.o g5 i w5 hown5 hgr5 (by simpa using hat5);clear hown5 hgr5 hat5 hlt5)
  all_goals
   go_wp2
   go_meet
   exact⟨g5,i,HF5.o.1,HF5.o.2.1,HF5.o.2.2⟩
 case rest=>
  obtain⟨g5,i,y,HW,E⟩:=hcut;clear c0 B3;obtain⟨N,B⟩:=yX ((a c).length)
  obtain⟨L,A⟩:=yX (a c++[((⟨#[]⟩:yB),(⟨#[]⟩:yB))])
  have P:L.length=N+1:=by rw[A,B];simp
  obtain⟨V,C⟩:=yX (bd f c (.slice (qA g5) (N+1) i))
  have H:V c=.slice (qA g5) (N+1) i:=by rw[C];simp[bd]
  rw[<-B,<-A,<-C] at y;have d0:wc.cell? ⟨b,c,none⟩=some (.slice (qA g5) (N+1) i):=by
   rw[Ur wc b c _ _ _ y.o.ai,mY _ _ m,H]
  have x:=aa P;have F:=aa H;have A5:yH (∀W,bZ base W b V (aP a c (fw L N (N - at_)))->∃l,bZ base W b (bd f c l) (aP a c (fw (a c++[(⟨#[]⟩,⟨#[]⟩)]) (a c).length ((a c).length - at_)))/\∀g,l.ownBlock=some g->(f c).ownBlock=some g\/w.heap.size<=g):=fun W h=>by
   rw[C,A,B] at h;exact⟨_,h,fun g n=>by simp[Value.ownBlock] at n;subst n;exact E.o⟩
  have A7:yH (∀W k,bZ base W b V (aP a c (fw L N k))->W.cell? ⟨b,c,none⟩=some (.slice (qA g5) (N+1) i)/\∀j p,(fw L N k)[j]? =some p->W.cell? ⟨g5,j*2,none⟩=some (.string p.1)/\W.cell? ⟨g5,j*2+1,none⟩=some (.string p.2)/\W.frozen? ⟨g5,j*2,none⟩=false/\W.frozen? ⟨g5,j*2+1,none⟩=false):=fun W k h=>by
   have o:=h.own c m;simp only[aP,U5] at o;have D:(V c).ownBlock=some g5:=by rw[F.o];rfl
   refine⟨by rw[Ur W b c _ _ _ h.ai,mY _ _ m,F.o],fun j p I=>?_⟩;obtain⟨p1,p2⟩:=tQ _ j p I;exact⟨fc o D _ _ p1,fc o D _ _ p2,kZ o D _,kZ o D _⟩
  have B1:yH (∀W k p,k<N->L[N - k - 1]? =some p->bZ base W b V (aP a c (fw L N k))->bZ base ((W.setCell ⟨g5,(N - k)*2,none⟩ (.string p.1)).setCell ⟨g5,(N - k)*2+1,none⟩ (.string p.2)) b V (aP a c (fw L N (k+1)))):=fun W k p hk I h=>by
   have:=h.put c m g5 (by rw[F.o];rfl) (N - k) p;have e:aP (aP a c (fw L N k)) c ((aP a c (fw L N k) c).set (N - k) p)=aP a c (fw L N (k+1)):=by
    funext d
    by_cases T:d=c
    ·simp only[aP,T,U5];show(fw L N k).set (N - k) p=(fw L N k).set (N - k) (L.getD (N - k - 1) _);rw[Up,I];rfl
    ·simp only[aP,T,UT]
   rw[e] at this;exact this
  have A9:=aa y;have C4:at_<=N:=by omega
  have C2:N<4000000000000:=by omega
  clear C A B H P B6 hn y U A1 A2 A3;go_wp2
  clear d0;go_loopg [6] (N - at_) (fun g r wr=>∃k:Nat,g=N - at_ - k/\k<=N - at_/\r=.int .i64 ((N:Int) - (k:Int))/\yH (bZ base wr b V (aP a c (fw L N k)))/\yH (aU (fun q=>q=b\/(f c).ownBlock=some q) w wr))
  case atStart=>exact⟨0,rfl,by omega,by go_num,A9,HW⟩
  case round=>
   obtain⟨k,n,hk,rfl,s,t⟩:=hrel;have HG:=aa n;clear n;obtain⟨e0,z⟩:=A7.o wr k s.o;by_cases C7:k<N - at_
   ·obtain⟨M,G⟩:=yX (N - k)
    have B5:(N:Int) - (k:Int)=(M:Int):=by omega
    obtain⟨Q,R⟩:=yX (N - k - 1)
    have B9:(M:Int) - 1=(Q:Int):=by omega
    have J:L[N - k - 1]? =some (L[N - k - 1]'(by rw[x.o];omega)):=Uh _;have Y:(fw L N k)[N - k - 1]? =L[N - k - 1]? :=yq L N k _ (by omega);have Z:(fw L N k)[N - k]? =some ((fw L N k)[N - k]'(by rw[qX,x.o];omega)):=Uh _;obtain⟨s1,s2,_,_⟩:=z _ _ (Y.trans J);obtain⟨t1,t2,t3,t4⟩:=z _ _ Z;have K:=B1.o wr.drew k _ (by omega) J ⟨s.o.ai,s.o.own,s.o.sep,s.o.fL⟩;generalize L[N - k - 1]'(by rw[x.o];omega)=p at*;generalize (fw L N k)[N - k]'(by rw[qX,x.o];omega)=pu at*;rw[<-G] at t1 t2 t3 t4 K;rw[<-R] at s1 s2;rw[B5];have B0:=aa K;have C3:(at_:Int)<(M:Int):=by omega
    have C0:(M:Int)<(N:Int)+1:=by omega
    have C1:(Q:Int)<(N:Int)+1:=by omega
    have C8:IntKind.i64.wrap (Q:Int)=(Q:Int):=by rw[UY];omega
    have C9:IntKind.i64.wrap (M:Int)=(M:Int):=by rw[UY];omega
    have A6:=aa G;have B2:yH (aU (fun q=>q=b\/(f c).ownBlock=some q) w ((wr.drew.setCell ⟨g5,M*2,none⟩ (.string p.1)).setCell ⟨g5,M*2+1,none⟩ (.string p.2))):=
     aU.set (w':=wr.drew.setCell ⟨g5,M*2,none⟩ (.string p.1)) (aU.set (w':=wr.drew) ⟨t.o.os,t.o.tape,t.o.output,t.o.size,t.o.block⟩ ⟨g5,M*2,none⟩ _ (E.o.elim (fun h=>.inl (.inr h)) .inr)) ⟨g5,M*2+1,none⟩ _ (E.o.elim (fun h=>.inl (.inr h)) .inr)
    clear J Y Z K z R G;go_wp2
    go_region
    all_goals
     go_wp2
     go_roundg (N - at_ - (k+1))
     case measure=>have:=HG.o;omega
     case rel=>exact⟨k+1,rfl,by omega,by have:=A6.o;go_num,B0,B2⟩
   ·obtain rfl:k=N - at_:=by omega
    have B4:(N:Int) - ((N - at_:Nat):Int)=(at_:Int):=by omega
    rw[B4];have B8:¬(at_:Int)<(at_:Int):=by omega
    obtain⟨l,A0⟩:=A5.o wr s.o;have O:yH ((bZ base wr b (bd f c l) (aP a c (fw (a c++[(⟨#[]⟩,⟨#[]⟩)]) (a c).length ((a c).length - at_)))/\∀g,l.ownBlock=some g->(f c).ownBlock=some g\/w.heap.size<=g)/\aU (fun q=>q=b\/(f c).ownBlock=some q) w wr):=⟨A0,t.o⟩
    clear A0 z;go_wp2
    go_end0
    exact⟨rfl,⟨l,O.o.1⟩,O.o.2⟩
def Li(a:List (yB×yB))(e q:yB×yB)(k:Nat)(f:k<=a.length):(fw (a++[e]) a.length (a.length - k)).set k q=a.take k++[q]++a.drop k:=by
 apply VQ;intro j;have g:(fw (a++[e]) a.length (a.length - k)).length=a.length+1:=by rw[qX];simp
 have c:(a.take k++[q]).length=k+1:=by rw[Uq,UN];simp;omega
 rcases Nat.lt_trichotomy j k with b|b|b
 ·rw[Ve (by omega),yq _ _ _ j (by omega),UW (by omega),UI,UW (by rw[UN];omega),Vv,Uj b]
 ·subst b;rw[List.getElem?_set_self (by omega),UW (by omega),Vf (by rw[UN];omega)];simp[UN,Nat.min_eq_left f]
 ·rw[Ve (by omega)];by_cases d:j<=a.length
  ·rw[CA _ _ (by simp) _ j (by omega) (by omega) d,UW (by omega),Vf (by omega),c,VE];congr 1;omega
  ·rw[U9 (by omega),U9 (by rw[Uq,c,Uu];omega)]
def kh(a:List (yB×yB))(h t:yB):List (yB×yB):=if ew a h then a.set (aZ a h) (h,t) else a.take (aZ a h)++[(h,t)]++a.drop (aZ a h)
def bZ.same{base}{w w':World}{b e d}(S:bZ base w b e d)(a:w'.heap=w.heap):bZ base w' b e d:=
 ⟨by rw[a];exact S.ai,fun c f=>cM (S.own c f) fun g _=>by rw[a],S.sep,S.fL⟩
def He{a h}(b:ew a h=true):aZ a h<a.length:=by
 unfold ew at b;rcases Nat.lt_or_ge (aZ a h) a.length with c|c
 ·exact c
 ·rw[U9 c] at b;cases b
def aU.trans{T w w1 w2}(h:aU T w w1)(k:aU T w1 w2):aU T w w2:=
 ⟨k.os.trans h.os,k.tape.trans h.tape,k.output.trans h.output,Ut h.size k.size,fun q b a=>(k.block q (Us b h.size) a).trans (h.block q b a)⟩
def bZ.last{base W b V d}(S:bZ base W b V d)(c:Nat)(f:c<256)(k:Nat)(j:k<(d c).length)(p:yB×yB):
 ∃g cap u0 u1,V c=lV (qA g) (d c).length cap/\yc W b c (lV (qA g) (d c).length cap)/\yc W g (k*2) u0/\yc W g (k*2+1) u1/\W.frozen? ⟨g,k*2,none⟩=false/\W.frozen? ⟨g,k*2+1,none⟩=false/\
  bZ base ((W.drew.setCell ⟨g,k*2,none⟩ (sV p.1)).setCell ⟨g,k*2+1,none⟩ (sV p.2)) b V (aP d c ((d c).set k p)):=by
 let⟨a,cap,e,i⟩:=S.lK c f;have l:(d c)[k]? =some ((d c)[k]'j):=Uh j;obtain⟨g,rfl,c1,c2⟩:=i.at_ k _ l;have h:(V c).ownBlock=some g:=by rw[e];rfl
 exact⟨g,cap,_,_,e,i.cell,c1,c2,kZ (S.own c f) h _,kZ (S.own c f) h _,(S.same (w':=W.drew) rfl).put c f g h k p⟩
def jY(w:World)(v a:Value):Prop:=∀g,a.ownBlock=some g->v.ownBlock=some g\/w.heap.size<=g
def Ea(base:Nat)(w)(b:Nat)(i)(f:Nat->List (yB×yB))(S:bZ base w b i f)(h t:yB)(hs:0<h.size)(r:qV (f (h[0]'hs).toNat) h)(Y:(f (h[0]'hs).toNat).length<4000000000000)(A1:base<=w.heap.size):
 yC 120 #[pV (qA b),sV h,sV t] w fun e w'=>e=rV (tV #[])/\
  (∃l,bZ base w' b (bd i (h[0]'hs).toNat l) (aP f (h[0]'hs).toNat (kh (f (h[0]'hs).toNat) h t))/\jY w (i (h[0]'hs).toNat) l)/\aU (fun k=>k=b\/(i (h[0]'hs).toNat).ownBlock=some k) w w':=by
 have y:(h[0]'hs).toNat<256:=(h[0]'hs).toNat_lt;obtain⟨a,cap,N,H⟩:=S.lK _ y;have O:=aa (yV w b h hs a cap _ H r (by omega));have L:=tO (f (h[0]'hs).toNat) h;have P:yH (ew (f (h[0]'hs).toNat) h=true->aZ (f (h[0]'hs).toNat) h<(f (h[0]'hs).toNat).length):=He;have T:=aa S;have A3:(0:Int)<(h.size:Int):=by omega
 have E:yH (kh (f (h[0]'hs).toNat) h t=if ew (f (h[0]'hs).toNat) h then(f (h[0]'hs).toNat).set (aZ (f (h[0]'hs).toNat) h) (h,t) else(f (h[0]'hs).toNat).take (aZ (f (h[0]'hs).toNat) h)++[(h,t)]++(f (h[0]'hs).toNat).drop (aZ (f (h[0]'hs).toNat) h)):=rfl;clear S H r;generalize kh (f (h[0]'hs).toNat) h t=sp at*;generalize ew (f (h[0]'hs).toNat) h=hit at*;generalize aZ (f (h[0]'hs).toNat) h=k at*;generalize hcc:(h[0]'hs).toNat=c at*;have A2:(c:Int)<256:=by omega
 go_enter func120,ntmps120
 go_wp2_with fail
 refine O.m ?_;rintro e w1 ⟨rfl,n1,u⟩;have s:w1.heap=w.heap:=by rw[u];rfl
 have v:=T.o.same s;have A0:=aa v;have F:yH (aU (fun q=>q=b\/(i c).ownBlock=some q) w w1):=⟨by rw[u];rfl,by rw[u];rfl,by rw[u];rfl,by rw[s];exact Ug _,fun q _ _=>by rw[s]⟩
 have z:w1.heap.size=w.heap.size:=by rw[s]
 cases hit
 ·have R:yH (yC 149 #[pV (qA b),iV .u8 c,i6 k] w1 fun e w'=>e=rV (tV #[])/\(∃l,bZ base w' b (bd i c l) (aP f c (fw (f c++[(⟨#[]⟩,⟨#[]⟩)]) (f c).length ((f c).length - k)))/\∀g,l.ownBlock=some g->(i c).ownBlock=some g\/w1.heap.size<=g)/\aU (fun q=>q=b\/(i c).ownBlock=some q) w1 w'):=Nc base w1 b i f v c k y L Y (by omega);clear v u;go_wp2_with fail
  refine R.m ?_;rintro e w2 ⟨rfl,⟨l,G,D⟩,I⟩;have K:(fw (f c++[((⟨#[]⟩:yB),(⟨#[]⟩:yB))]) (f c).length ((f c).length - k)).length=(f c).length+1:=by rw[qX];simp
  obtain⟨g,U,u0,u1,m,d0,d1,d2,f1,f2,o⟩:=G.last c y k (by simp only[aP,U5];omega) (h,t);simp only[aP,U5] at m d0;simp only[bd,U5] at m;rw[K] at m d0;have x:aP (aP f c (fw (f c++[(⟨#[]⟩,⟨#[]⟩)]) (f c).length ((f c).length - k))) c ((aP f c (fw (f c++[(⟨#[]⟩,⟨#[]⟩)]) (f c).length ((f c).length - k)) c).set k (h,t))=aP f c sp:=by
   funext d
   by_cases r:d=c
   ·simp only[aP,r,U5];rw[Li _ _ _ _ L,E.o];rfl
   ·simp only[aP,r,UT]
  rw[x] at o;have A:=aa o;have p:(i c).ownBlock=some g\/w.heap.size<=g:=by
   have:=D g (by rw[m];rfl);rw[z] at this;exact this
  have B:yH (aU (fun q=>q=b\/(i c).ownBlock=some q) w ((w2.drew.setCell ⟨g,k*2,none⟩ (sV h)).setCell ⟨g,k*2+1,none⟩ (sV t))):=by
   have j:=F.o.trans I;exact aU.set (w':=w2.drew.setCell ⟨g,k*2,none⟩ (sV h)) (aU.set (w':=w2.drew) ⟨j.os,j.tape,j.output,j.size,j.block⟩ ⟨g,k*2,none⟩ _ (p.elim (fun h=>.inl (.inr h)) .inr)) ⟨g,k*2+1,none⟩ _ (p.elim (fun h=>.inl (.inr h)) .inr)
  have Q:yH (jY w (i c) l):=fun V C=>by
   have:=D V C;rw[z] at this;exact this
  have W:(k:Int)<((f c).length:Int)+1:=by omega
  have Z:IntKind.i64.wrap (k:Int)=(k:Int):=by rw[UY];omega
  clear G I o x D p m K s z N;generalize (f c).length=M at*;go_wp2
  go_region
  all_goals
   go_wp2
   go_end0
   exact⟨rfl,⟨l,A.o,Q.o⟩,B.o⟩
 ·have X:=P.o rfl;obtain⟨g,U,u0,u1,m,d0,d1,d2,f1,f2,o⟩:=v.last c y k X (h,t);have x:aP f c ((f c).set k (h,t))=aP f c sp:=by rw[E.o];rfl
  rw[x] at o;have J:bd i c (i c)=i:=by funext d;by_cases r:d=c<;>simp[bd,r]
  have A:yH (bZ base ((w1.drew.setCell ⟨g,k*2,none⟩ (sV h)).setCell ⟨g,k*2+1,none⟩ (sV t)) b (bd i c (i c)) (aP f c sp)):=by
   show bZ _ _ _ _ _;rw[J];exact o
  have p:(i c).ownBlock=some g:=by rw[m];rfl
  have B:yH (aU (fun q=>q=b\/(i c).ownBlock=some q) w ((w1.drew.setCell ⟨g,k*2,none⟩ (sV h)).setCell ⟨g,k*2+1,none⟩ (sV t))):=by
   have j:=F.o;exact aU.set (w':=w1.drew.setCell ⟨g,k*2,none⟩ (sV h)) (aU.set (w':=w1.drew) ⟨j.os,j.tape,j.output,j.size,j.block⟩ ⟨g,k*2,none⟩ _ (.inl (.inr p))) ⟨g,k*2+1,none⟩ _ (.inl (.inr p))
  have W:(k:Int)<((f c).length:Int):=by omega
  have Z:IntKind.i64.wrap (k:Int)=(k:Int):=by rw[UY];omega
  clear v u o x J p m s z N;generalize (f c).length=M at*;go_wp2
  go_region
  all_goals
   go_wp2
   go_end0
   exact⟨rfl,⟨i c,A.o,fun _ C=>.inl C⟩,B.o⟩
def eC(L:List (yB×yB))(i:Nat):Nat->List (yB×yB)
 | 0=>L
 |k+1=>(eC L i k).set (i+k) (L.getD (i+k+1) (⟨#[]⟩,⟨#[]⟩))
def qC(L)(i:Nat):∀k,(eC L i k).length=L.length
 | 0=>rfl
 |k+1=>by show((eC L i k).set _ _).length=_;rw[Vh,qC L i k]
def Bj(L)(i:Nat):∀k j,(j<i\/i+k<=j)->(eC L i k)[j]? =L[j]?
 | 0,j,_=>rfl
 |k+1,j,h=>by
  show((eC L i k).set (i+k) _)[j]? =_
  rw[Ve (by omega)]
  exact Bj L i k j (by omega)
def IT(L:List (yB×yB))(i:Nat):∀k j,i+k<L.length->i<=j->j<i+k->(eC L i k)[j]? =L[j+1]?
 | 0,j,_,_,h=>by omega
 |k+1,j,hL,h1,h2=>by
  show((eC L i k).set (i+k) _)[j]? =_
  by_cases e:i+k=j
  ·subst e
   rw[List.getElem?_set_self (by rw[qC];omega),Up,Uh (by omega)];rfl
  ·rw[Ve e]
   exact IT L i k j (by omega) h1 (by omega)
def Se(L:List (yB×yB))(i n:Nat)(e:yB×yB)(c:L.length=n+1)(hi:i<=n):((eC L i (n - i)).set n e).take n=L.eraseIdx i:=by
 apply VQ;intro j;rw[Vv];by_cases b:j<n
 ·rw[Uj b,Ve (by omega),List.getElem?_eraseIdx];by_cases a:j<i
  ·rw[Uj a,Bj _ _ _ _ (.inl a)]
  ·rw[Ui a,IT _ _ _ _ (by omega) (by omega) (by omega)]
 ·rw[Ui b,U9 (by rw[List.length_eraseIdx];split<;>omega)]
def bZ.cut{base w b i h}(S:bZ base w b i h)(c:Nat)(m:c<256)(g cap n:Nat)(k:i c=lV (qA g) (h c).length cap)(r:n<=(h c).length):
 bZ base (w.setCell ⟨b,c,none⟩ (lV (qA g) n cap)) b (bd i c (lV (qA g) n cap)) (aP h c ((h c).take n)):=by
 have p:=S.fL c g m (by rw[k];rfl);have l:∀d,d<256->(bd i c (lV (qA g) n cap) d).ownBlock=(i d).ownBlock:=fun d _=>by
  by_cases e:d=c
  ·subst e;simp only[bd,U5];rw[k];rfl
  ·simp only[bd,e,UT]
 refine⟨?_,?_,?_,?_⟩
 ·rw[U7 w b c _ _ (0,0) _ S.ai,Vk w b _ _ _ _ S.ai,yU _ _ _ m]
 ·intro d f;by_cases e:d=c
  ·subst e;simp only[bd,aP,U5];have o:=S.own d f;rw[k] at o;have s:=Fg o r;have q:((h d).take n).length=n:=by rw[UN];omega
   rw[q,EM];exact cM s fun a j=>UL _ _ _ a (by show a≠b;simp[Value.ownBlock] at j;subst j;exact p)
  ·simp only[bd,aP,e,UT];exact cM (S.own d f) fun a j=>UL _ _ _ a (by show a≠b;exact S.fL d a f j)
 ·intro d1 d2 a h1 h2 e1 e2;rw[l d1 h1] at e1;rw[l d2 h2] at e2;exact S.sep d1 d2 a h1 h2 e1 e2
 ·intro d a f e;rw[l d f] at e;exact S.fL d a f e
def LJ(base:Nat)(w)(b:Nat)(l)(f:Nat->List (yB×yB))(S:bZ base w b l f)(c i:Nat)(n:c<256)(hi:i<(f c).length)(hn:(f c).length<4000000000000):
 yC 119 #[pV (qA b),iV .u8 c,i6 i] w fun e w'=>e=rV (tV #[])/\
  (∃v',bZ base w' b (bd l c v') (aP f c ((f c).eraseIdx i))/\v'.ownBlock=(l c).ownBlock)/\aU (fun k=>k=b\/(l c).ownBlock=some k) w w':=by
 obtain⟨a,cap,s,O⟩:=S.lK c n;have V:(f c)[i]? =some ((f c)[i]'hi):=Uh hi;obtain⟨g,rfl,B0,B1⟩:=O.at_ i _ V;obtain⟨L,z⟩:=yX (f c)
 obtain⟨N,A⟩:∃N,L.length=N+1:=⟨L.length - 1,by rw[z];omega⟩
 have m:(l c).ownBlock=some g:=by rw[s];rfl
 have D:(f c).length=N+1:=by rw[<-z];exact A
 rw[D] at s;have t:=aa A;have v:=aa m;have B3:=aa s;have K:yH (bZ base w b l (aP f c (eC L i 0))):=by
  show bZ _ _ _ _ _;have e:aP f c (eC L i 0)=f:=by funext d;by_cases o:d=c<;>simp[aP,o,eC,z]
  rw[e];exact S
 have Y:yH (((eC L i (N - i)).set N (⟨#[]⟩,⟨#[]⟩)).take N=(f c).eraseIdx i):=by
  have:=Se L i N (⟨#[]⟩,⟨#[]⟩) A (by omega);rw[z] at this⊢;exact this
 have J:yH (∀W k,bZ base W b l (aP f c (eC L i k))->W.cell? ⟨b,c,none⟩=some (lV (qA g) (N+1) cap)/\W.frozen? ⟨b,c,none⟩=false/\∀j p,(eC L i k)[j]? =some p->W.cell? ⟨g,j*2,none⟩=some (sV p.1)/\W.cell? ⟨g,j*2+1,none⟩=some (sV p.2)/\W.frozen? ⟨g,j*2,none⟩=false/\W.frozen? ⟨g,j*2+1,none⟩=false):=fun W k h=>by
  have B:=h.own c n;simp only[aP,U5] at B;refine⟨by rw[Ur W b c _ _ _ h.ai,mY _ _ n,s],US W b c _ _ h.ai,fun j p G=>?_⟩;obtain⟨p1,p2⟩:=tQ _ j p G;exact⟨fc B m _ _ p1,fc B m _ _ p2,kZ B m _,kZ B m _⟩
 have A3:yH (∀W k p,L[i+k+1]? =some p->bZ base W b l (aP f c (eC L i k))->bZ base ((W.setCell ⟨g,(i+k)*2,none⟩ (sV p.1)).setCell ⟨g,(i+k)*2+1,none⟩ (sV p.2)) b l (aP f c (eC L i (k+1)))):=fun W k p G h=>by
  have:=h.put c n g m (i+k) p;have e:aP (aP f c (eC L i k)) c ((aP f c (eC L i k) c).set (i+k) p)=aP f c (eC L i (k+1)):=by
   funext d
   by_cases o:d=c
   ·simp only[aP,o,U5];show(eC L i k).set (i+k) p=(eC L i k).set (i+k) (L.getD (i+k+1) _);rw[Up,G];rfl
   ·simp only[aP,o,UT]
  rw[e] at this;exact this
 have A0:yH (∀W,bZ base W b l (aP f c (eC L i (N - i)))->bZ base (((W.setCell ⟨g,N*2,none⟩ (sV ⟨#[]⟩)).setCell ⟨g,N*2+1,none⟩ (sV ⟨#[]⟩)).setCell ⟨b,c,none⟩ (lV (qA g) N cap)) b (bd l c (lV (qA g) N cap)) (aP f c ((f c).eraseIdx i))):=fun W h=>by
  have h1:=h.put c n g m N (⟨#[]⟩,⟨#[]⟩);have U:(aP (aP f c (eC L i (N - i))) c ((aP f c (eC L i (N - i)) c).set N (⟨#[]⟩,⟨#[]⟩)) c).length=N+1:=by
   simp only[aP,U5];rw[Vh,qC];exact A
  have h2:=h1.cut c n g cap N (by rw[U];exact s) (by rw[U];omega);have e:aP (aP (aP f c (eC L i (N - i))) c ((aP f c (eC L i (N - i)) c).set N (⟨#[]⟩,⟨#[]⟩))) c ((aP (aP f c (eC L i (N - i))) c ((aP f c (eC L i (N - i)) c).set N (⟨#[]⟩,⟨#[]⟩)) c).take N)=aP f c ((f c).eraseIdx i):=by
   funext d
   by_cases o:d=c
   ·simp only[aP,o,U5];exact Y.o
   ·simp only[aP,o,UT]
  rw[e] at h2;exact h2
 have A9:=S.fL c g n m;have B2:=aa A9;have C4:N+1<=cap:=by
  obtain⟨a',B4,e1,e2,_⟩:=dM (S.own c n);rw[s,D] at e1;cases e1
  rw[D] at e2;exact e2
 have C5:i<=N:=by omega
 have C1:N<4000000000000:=by omega
 have C3:(c:Int)<256:=by omega
 obtain⟨d0,_,_⟩:=J.o w 0 K.o;have A5:yH (aU (fun q=>q=b\/(l c).ownBlock=some q) w w):=⟨rfl,rfl,rfl,Ug _,fun _ _ _=>rfl⟩
 clear B0 B1;clear S O V z A m s D hi hn;go_enter func119,ntmps119
 go_wp2
 clear d0;go_loopg [7] (N - i) (fun q r wr=>∃k:Nat,q=N - i - k/\k<=N - i/\r=i6 ((i:Int)+(k:Int))/\yH (bZ base wr b l (aP f c (eC L i k)))/\yH (aU (fun q=>q=b\/(l c).ownBlock=some q) w wr))
 case atStart=>exact⟨0,rfl,by omega,by go_num,K,A5⟩
 case round=>
  obtain⟨k,T,hk,rfl,E,u⟩:=hrel;have HG:=aa T;clear T;obtain⟨e0,B5,y⟩:=J.o wr k E.o;by_cases C6:k<N - i
  ·obtain⟨M,F⟩:=yX (i+k)
   obtain⟨Q,P⟩:=yX (i+k+1)
   have A8:(i:Int)+(k:Int)=(M:Int):=by omega
   have B9:(M:Int)+1=(Q:Int):=by omega
   have H:L[i+k+1]? =some (L[i+k+1]'(by rw[t.o];omega)):=Uh _;have X:(eC L i k)[i+k+1]? =L[i+k+1]? :=Bj L i k _ (.inr (by omega));have C:(eC L i k)[i+k]? =some ((eC L i k)[i+k]'(by rw[qC,t.o];omega)):=Uh _;obtain⟨s1,s2,_,_⟩:=y _ _ (X.trans H);obtain⟨t1,t2,t3,t4⟩:=y _ _ C;have I:=A3.o wr.drew k _ H (E.o.same rfl);generalize L[i+k+1]'(by rw[t.o];omega)=p at*;generalize (eC L i k)[i+k]'(by rw[qC,t.o];omega)=pu at*;rw[<-F] at t1 t2 t3 t4 I;rw[<-P] at s1 s2;rw[A8];have A2:=aa I;have B7:(M:Int)<(N:Int):=by omega
   have B8:(M:Int)<(N:Int)+1:=by omega
   have C2:(Q:Int)<(N:Int)+1:=by omega
   have C7:IntKind.i64.wrap (Q:Int)=(Q:Int):=by rw[UY];omega
   have C8:IntKind.i64.wrap (M:Int)=(M:Int):=by rw[UY];omega
   have A1:=aa F;have A6:yH (aU (fun q=>q=b\/(l c).ownBlock=some q) w ((wr.drew.setCell ⟨g,M*2,none⟩ (sV p.1)).setCell ⟨g,M*2+1,none⟩ (sV p.2))):=
    aU.set (w':=wr.drew.setCell ⟨g,M*2,none⟩ (sV p.1)) (aU.set (w':=wr.drew) ⟨u.o.os,u.o.tape,u.o.output,u.o.size,u.o.block⟩ ⟨g,M*2,none⟩ _ (.inl (.inr v.o))) ⟨g,M*2+1,none⟩ _ (.inl (.inr v.o))
   have A4:yH (Q=i+(k+1)):=by show _=_;omega
   clear H X C I y P F;go_wp2
   go_region
   all_goals
    go_wp2
    go_roundg (N - i - (k+1))
    case measure=>have:=HG.o;omega
    case rel=>exact⟨k+1,rfl,by omega,by have:=A1.o;have:=A4.o;go_num,A2,A6⟩
  ·obtain rfl:k=N - i:=by omega
   have A7:(i:Int)+((N - i:Nat):Int)=(N:Int):=by omega
   rw[A7];have B6:¬(N:Int)<(N:Int):=by omega
   have C:(eC L i (N - i))[N]? =some ((eC L i (N - i))[N]'(by rw[qC,t.o];omega)):=Uh _;obtain⟨t1,t2,t3,t4⟩:=y _ _ C;have R:=A0.o wr E.o;have Z:=aa R;have C0:(N:Int)<(N:Int)+1:=by omega
   clear R C y;generalize (eC L i (N - i))[N]'(by rw[qC,t.o];omega)=pu at*;go_wp2
   have x:yH (aU (fun q=>q=b\/(l c).ownBlock=some q) w (((wr.setCell ⟨g,N*2,none⟩ (sV ⟨#[]⟩)).setCell ⟨g,N*2+1,none⟩ (sV ⟨#[]⟩)).setCell ⟨b,c,none⟩ (lV (qA g) N cap))):=by
    have h2:=aU.set (w':=wr.setCell ⟨g,N*2,none⟩ (sV ⟨#[]⟩)) (aU.set (w':=wr) u.o ⟨g,N*2,none⟩ (sV ⟨#[]⟩) (.inl (.inr v.o))) ⟨g,N*2+1,none⟩ (sV ⟨#[]⟩) (.inl (.inr v.o));exact aU.set h2 ⟨b,c,none⟩ _ (.inl (.inl rfl))
   go_region
   all_goals
    go_end0
    exact⟨rfl,⟨_,Z.o.same rfl,v.o.symm⟩,x.o.os,x.o.tape,x.o.output,x.o.size,x.o.block⟩
abbrev bH:=yB×Option Addr
def lI(sb a:Nat)(b:Nat->Value):Array Value:=#[pV (qA sb),pV (qA a)]++jj b
def tB(sb b:Nat)(a)(c:Nat)(h:c<256):(lI sb b a)[2+c]? =some (a c):=by
 unfold lI;rw[Array.getElem?_append_right (by simp)];rw[show 2+c - (#[Value.pointer (qA sb),Value.pointer (qA b)]:Array Value).size=c by simp];exact mY a c h
def Dx(sb a:Nat)(b):(lI sb a b)[0]? =some (pV (qA sb)):=by
 unfold lI;rw[Array.getElem?_append_left (by simp)];rfl
def Dw(sb a:Nat)(b):(lI sb a b)[1]? =some (pV (qA a)):=by
 unfold lI;rw[Array.getElem?_append_left (by simp)];rfl
def Dv(sb d:Nat)(a)(c:Nat)(v)(h:c<256):(lI sb d a).setIfInBounds (2+c) v=lI sb d (bd a c v):=by
 unfold lI;rw[<-yU a c v h];apply Vw;intro j;by_cases b:j<2
 ·rw[Array.getElem?_setIfInBounds_ne (by omega),Array.getElem?_append_left (by simpa using b),Array.getElem?_append_left (by simpa using b)]
 ·rw[Array.getElem?_append_right (by simp;omega),Vi,Vi];simp only[List.size_toArray,UJ,List.length_nil,Array.size_append,vQ];by_cases e:2+c=j
  ·subst e;rw[Uj rfl,Uj (by omega),Uj (by omega),Uj (by omega)]
  ·rw[Ui e,Ui (by omega),Array.getElem?_append_right (by simp;omega)];rfl
def iA(a:List bH):List Value:=a.flatMap fun p=>[Value.string p.1,Value.pointer p.2]
def Mh(a b:List bH):iA (a++b)=iA a++iA b:=by simp[iA]
def vL:∀(a:List bH) (k:Nat) (p:bH),a[k]? =some p->(iA a)[k*2]? =some (sV p.1)/\(iA a)[k*2+1]? =some (pV p.2)
 | [],k,p,h=>by simp at h
 |q::t,0,p,h=>by simp at h;subst h;exact⟨rfl,rfl⟩
 |q::t,k+1,p,h=>by
  have:=vL t k p (by simpa using h)
  exact⟨by rw[show(k+1)*2=k*2+2 by omega];exact this.1,by rw[show(k+1)*2+1=k*2+1+2 by omega];exact this.2⟩
def DJ:∀(a:List bH) (m:Nat),iA (a.take m)=(iA a).take (m*2)
 | [],m=>by simp[iA]
 |q::t,0=>by simp[iA]
 |q::t,m+1=>by
  have:=DJ t m
  rw[show(m+1)*2=m*2+2 by omega]
  show [Value.string q.1,Value.pointer q.2]++iA (t.take m)=_
  rw[this];rfl
structure xT(w:World)(b c:Nat)(a:Option Addr)(cap:Nat)(ps:List bH):Prop where
 cell:w.cell? ⟨b,2+c,none⟩=some (lV a ps.length cap)
 at_:∀(k:Nat) (p:bH),ps[k]? =some p->∃g,a=some ⟨g,0,none⟩/\w.cell? ⟨g,k*2,none⟩=some (sV p.1)/\w.cell? ⟨g,k*2+1,none⟩=some (pV p.2)
structure cX(base:Nat)(w:World)(b sb tw:Nat)(vs:Nat->Value)(sh:Nat->List bH):Prop where
 ai:w.heap[b]? =some (.cells (lI sb tw vs) 63 (0,0))
 own:∀c,c<256->w.ownsRow base 126 2 (vs c) (sh c).length (iA (sh c))
 sep:∀c d g,c<256->d<256->(vs c).ownBlock=some g->(vs d).ownBlock=some g->c=d
 fL:∀c g,c<256->(vs c).ownBlock=some g->g≠b
def cX.lK{base w b sb m l i}(h:cX base w b sb m l i)(c:Nat)(d:c<256):∃a cap,l c=lV a (i c).length cap/\xT w b c a cap (i c):=by
 let⟨a,cap,e,_,_,f⟩:=dM (h.own c d);refine⟨a,cap,e,⟨by rw[Ur w b (2+c) _ _ _ h.ai,tB _ _ _ _ d,e],fun k p j=>?_⟩⟩;have n:=(Ux.1 j).1;rcases f with⟨_,h0,_⟩|⟨g,rfl⟩
 ·omega
 ·let⟨p1,p2⟩:=vL _ k p j;exact⟨g,rfl,fc (h.own c d) (by rw[e];rfl) _ _ p1,fc (h.own c d) (by rw[e];rfl) _ _ p2⟩
def DK:∀(a:List bH) (k:Nat) (p:bH),iA (a.set k p)=((iA a).set (k*2) (sV p.1)).set (k*2+1) (pV p.2)
 | [],k,p=>by simp[iA]
 |q::t,0,p=>by simp[iA]
 |q::t,k+1,p=>by
  have:=DK t k p
  rw[show(k+1)*2=k*2+2 by omega,show k*2+2+1=k*2+1+2 by omega]
  show [Value.string q.1,Value.pointer q.2]++iA (t.set k p)=_
  rw[this];rfl
def fb(L:List bH)(n:Nat):Nat->List bH
 | 0=>L
 |k+1=>(fb L n k).set (n - k) (L.getD (n - k - 1) (⟨#[]⟩,none))
def pT(L:List bH)(n:Nat):∀k,(fb L n k).length=L.length
 | 0=>rfl
 |k+1=>by show((fb L n k).set _ _).length=_;rw[Vh,pT L n k]
def yr(L:List bH)(n:Nat):∀k j,j+k<=n->(fb L n k)[j]? =L[j]?
 | 0,j,_=>rfl
 |k+1,j,h=>by
  show((fb L n k).set (n - k) _)[j]? =_
  rw[Ve (by omega)]
  exact yr L n k j (by omega)
def CD(L:List bH)(n:Nat)(a:L.length=n+1):∀k j,k<=n->n<j+k->j<=n->(fb L n k)[j]? =L[j - 1]?
 | 0,j,_,h,hj=>by omega
 |k+1,j,hk,h,hj=>by
  show((fb L n k).set (n - k) _)[j]? =_
  by_cases e:n - k=j
  ·subst e
   rw[List.getElem?_set_self (by rw[pT,a];omega),Up,Uh (by omega)];rfl
  ·rw[Ve e]
   exact CD L n a k j (by omega) (by omega) hj
def aS(a:Nat->List bH)(c:Nat)(l:List bH):Nat->List bH:=fun d=>if d=c then l else a d
def cX.grown{base w b sb p j y}(S:cX base w b sb p j y)(c:Nat)(n:c<256)(o:Obj)(l:List bH)
 (g cap:Nat) (w1:World) (x:w1.ownsRow base 126 2 (lV (qA g) l.length cap) l.length (iA l)) (m:(w.drew.alloc o).grownBy w1 (j c).ownBlock) (u:(j c).ownBlock=some g\/g=w.heap.size+1):
 w1.heap[b]? =some (.cells (lI sb p j) 63 (0,0))/\cX base (w1.setCell ⟨b,2+c,none⟩ (lV (qA g) l.length cap)) b sb p (bd j c (lV (qA g) l.length cap)) (aS y c l)/\
  aU (fun k=>k=b\/(j c).ownBlock=some k) w (w1.setCell ⟨b,2+c,none⟩ (lV (qA g) l.length cap))/\g<w1.heap.size:=by
 have z:b<w.heap.size:=(Um.1 S.ai).1;have F:=m.size;have E:(w.drew.alloc o).heap.size=w.heap.size+1:=by simp
 have t:∀k,k<w.heap.size->(w.drew.alloc o).heap[k]? =w.heap[k]? :=fun k s=>U6 w.drew o k s
 have r:w1.heap[b]? =some (.cells (lI sb p j) 63 (0,0)):=by
  rw[m.block b (by omega) (fun e=>S.fL c b n e.symm rfl),t b z];exact S.ai
 have v:g≠b:=by
  rcases u with h|h
  ·exact S.fL c g n h
  ·omega
 have A:g<w1.heap.size:=(x.lt g rfl).2;refine⟨r,⟨?_,?_,?_,?_⟩,?_,A⟩
 ·rw[U7 w1 b (2+c) _ _ (0,0) _ r,Vk w1 b _ _ _ _ r,Dv _ _ _ _ _ n]
 ·intro d f;by_cases e:d=c
  ·subst e;simp only[bd,aS,U5];exact cM x fun a i=>UL _ _ _ a (by show a≠b;simp[Value.ownBlock] at i;subst i;exact v)
  ·simp only[bd,aS,e,UT];refine cM (S.own d f) fun a i=>?_
   have B:=((S.own d f).lt a i).2;rw[UL _ _ _ a (by show a≠b;exact S.fL d a f i),m.block a (by omega) (fun h=>e (S.sep d c a f n i h.symm)),t a B]
 ·intro d1 d2 a h1 h2 e1 e2;have key:∀d,d<256->d≠c->(j d).ownBlock=some g->False:=fun d f D i=>by
   rcases u with h|h
   ·exact D (S.sep d c g f n i h)
   ·have:=((S.own d f).lt g i).2;omega
  by_cases q1:d1=c<;>by_cases q2:d2=c
  ·rw[q1,q2]
  ·simp only[bd,q1,U5] at e1;simp only[bd,q2,UT] at e2;simp[Value.ownBlock] at e1;subst e1;exact(key d2 h2 q2 e2).elim
  ·simp only[bd,q2,U5] at e2;simp only[bd,q1,UT] at e1;simp[Value.ownBlock] at e2;subst e2;exact(key d1 h1 q1 e1).elim
  ·simp only[bd,q1,UT] at e1;simp only[bd,q2,UT] at e2;exact S.sep d1 d2 a h1 h2 e1 e2
 ·intro d a f e;by_cases q:d=c
  ·simp only[bd,q,U5] at e;simp[Value.ownBlock] at e;subst e;exact v
  ·simp only[bd,q,UT] at e;exact S.fL d a f e
 ·exact aU.set (T:=fun k=>k=b\/(j c).ownBlock=some k) (w:=w) (w':=w1) ⟨m.os,m.tape,m.output,by omega,fun k s C=>by
   rw[m.block k (by omega) (fun h=>C (.inr h.symm)),t k s]⟩ ⟨b,2+c,none⟩ _ (.inl (.inl rfl))
def cX.put{base w b sb q l j}(S:cX base w b sb q l j)(c:Nat)(m:c<256)(g:Nat)(f:(l c).ownBlock=some g)(k:Nat)(p:bH):
 cX base ((w.setCell ⟨g,k*2,none⟩ (sV p.1)).setCell ⟨g,k*2+1,none⟩ (pV p.2)) b sb q l (aS j c ((j c).set k p)):=by
 have n:=S.fL c g m f;refine⟨?_,?_,S.sep,S.fL⟩
 ·rw[UL _ _ _ b (by show b≠g;exact n.symm),UL _ _ _ b (by show b≠g;exact n.symm)];exact S.ai
 ·intro d i;by_cases e:d=c
  ·subst e;simp only[aS,U5];rw[DK,Vh];exact tS (tS (S.own d i) f _ _) f _ _
  ·simp only[aS,e,UT];refine cM (S.own d i) fun a r=>?_
   have o:a≠g:=fun h=>e (S.sep d c g i m (by rw[<-h];exact r) f)
   rw[UL _ _ _ a (by show a≠g;exact o),UL _ _ _ a (by show a≠g;exact o)]
def Lj(a:List bH)(e q:bH)(k:Nat)(f:k<=a.length):(fb (a++[e]) a.length (a.length - k)).set k q=a.take k++[q]++a.drop k:=by
 apply VQ;intro j;have g:(fb (a++[e]) a.length (a.length - k)).length=a.length+1:=by rw[pT];simp
 have c:(a.take k++[q]).length=k+1:=by rw[Uq,UN];simp;omega
 rcases Nat.lt_trichotomy j k with b|b|b
 ·rw[Ve (by omega),yr _ _ _ j (by omega),UW (by omega),UI,UW (by rw[UN];omega),Vv,Uj b]
 ·subst b;rw[List.getElem?_set_self (by omega),UW (by omega),Vf (by rw[UN];omega)];simp[UN,Nat.min_eq_left f]
 ·rw[Ve (by omega)];by_cases d:j<=a.length
  ·rw[CD _ _ (by simp) _ j (by omega) (by omega) d,UW (by omega),Vf (by omega),c,VE];congr 1;omega
  ·rw[U9 (by omega),U9 (by rw[Uq,c,Uu];omega)]
def cX.same{base}{w w':World}{b sb e f d}(S:cX base w b sb e f d)(a:w'.heap=w.heap):cX base w' b sb e f d:=
 ⟨by rw[a];exact S.ai,fun c h=>cM (S.own c h) fun g _=>by rw[a],S.sep,S.fL⟩
def eD(L:List bH)(i:Nat):Nat->List bH
 | 0=>L
 |k+1=>(eD L i k).set (i+k) (L.getD (i+k+1) (⟨#[]⟩,none))
def qD(L:List bH)(i:Nat):∀k,(eD L i k).length=L.length
 | 0=>rfl
 |k+1=>by show((eD L i k).set _ _).length=_;rw[Vh,qD L i k]
def Bl(L:List bH)(i:Nat):∀k j,(j<i\/i+k<=j)->(eD L i k)[j]? =L[j]?
 | 0,j,_=>rfl
 |k+1,j,h=>by
  show((eD L i k).set (i+k) _)[j]? =_
  rw[Ve (by omega)]
  exact Bl L i k j (by omega)
def IU(L:List bH)(i:Nat):∀k j,i+k<L.length->i<=j->j<i+k->(eD L i k)[j]? =L[j+1]?
 | 0,j,_,_,h=>by omega
 |k+1,j,hL,h1,h2=>by
  show((eD L i k).set (i+k) _)[j]? =_
  by_cases e:i+k=j
  ·subst e
   rw[List.getElem?_set_self (by rw[qD];omega),Up,Uh (by omega)];rfl
  ·rw[Ve e]
   exact IU L i k j (by omega) h1 (by omega)
def Sf(L:List bH)(i n:Nat)(e:bH)(c:L.length=n+1)(hi:i<=n):((eD L i (n - i)).set n e).take n=L.eraseIdx i:=by
 apply VQ;intro j;rw[Vv];by_cases b:j<n
 ·rw[Uj b,Ve (by omega),List.getElem?_eraseIdx];by_cases a:j<i
  ·rw[Uj a,Bl _ _ _ _ (.inl a)]
  ·rw[Ui a,IU _ _ _ _ (by omega) (by omega) (by omega)]
 ·rw[Ui b,U9 (by rw[List.length_eraseIdx];split<;>omega)]
def cX.cut{base w b sb p i h}(S:cX base w b sb p i h)(c:Nat)(m:c<256)(g cap n:Nat)(k:i c=lV (qA g) (h c).length cap)(s:n<=(h c).length):
 cX base (w.setCell ⟨b,2+c,none⟩ (lV (qA g) n cap)) b sb p (bd i c (lV (qA g) n cap)) (aS h c ((h c).take n)):=by
 have q:=S.fL c g m (by rw[k];rfl);have l:∀d,d<256->(bd i c (lV (qA g) n cap) d).ownBlock=(i d).ownBlock:=fun d _=>by
  by_cases e:d=c
  ·subst e;simp only[bd,U5];rw[k];rfl
  ·simp only[bd,e,UT]
 refine⟨?_,?_,?_,?_⟩
 ·rw[U7 w b (2+c) _ _ (0,0) _ S.ai,Vk w b _ _ _ _ S.ai,Dv _ _ _ _ _ m]
 ·intro d f;by_cases e:d=c
  ·subst e;simp only[bd,aS,U5];have o:=S.own d f;rw[k] at o;have t:=Fg o s;have r:((h d).take n).length=n:=by rw[UN];omega
   rw[r,DJ];exact cM t fun a j=>UL _ _ _ a (by show a≠b;simp[Value.ownBlock] at j;subst j;exact q)
  ·simp only[bd,aS,e,UT];exact cM (S.own d f) fun a j=>UL _ _ _ a (by show a≠b;exact S.fL d a f j)
 ·intro d1 d2 a h1 h2 e1 e2;rw[l d1 h1] at e1;rw[l d2 h2] at e2;exact S.sep d1 d2 a h1 h2 e1 e2
 ·intro d a f e;rw[l d f] at e;exact S.fL d a f e
def oP:∀a b,aF a b=aF b a
 | [],[]=>rfl
 | [],_::_=>rfl
 | _::_,[]=>rfl
 |x::a,y::b=>by
  simp only[aF]
  by_cases e:x=y
  ·rw[Uj e,Uj e.symm,oP a b]
  ·rw[Ui e,Ui (Ne.symm e)]
def aM:Nd->yL->yL
 | .nil,_=>[]
 | .unread _,_=>[]
 | .leaf h q v,p=>(Nd.leaf h q v).at p
 | .ext _ q k,p=>if aF q p=q.length then aM k (p.drop q.length) else []
 | .branch _ v ks,p=>match p with
  | []=>v
  |c::r=>aM (ks c.toNat) r
def Nu(w)(g b:Nat)(t c f)(d:Nat)(bl:Bool)(B:bU w b t c f)(a:t.read):
 yC 71 #[pV (qA g),pV (qA b),i6 (d:Int),bV bl] w fun e w'=>e=rV (i6 0)/\w'=w:=by
 have c0:=B.c0;have h:((t.kind:Int) != 0)=true:=by cases t<;>first|exact a.elim|rfl
 clear B a;generalize t.kind=K at*;go_enter func71,ntmps71
 go_wp2
 go_ret
 exact⟨rfl,rfl⟩
def db(w:World)(g:Nat)(u:Option Addr)(r:yB)(d:Nat)(bl:Bool):Prop:=w.heap[g]? =some (.cells #[pV u,sV r,iV .i64 (d:Int),bV bl] 83 (0,0))
namespace db
variable {w : World} {g : Nat} {u : Option Addr} {r : ByteArray} {d : Nat} {bl : Bool}
def lt(h:db w g u r d bl):g<w.heap.size:=(Um.1 h).1
def cells(h:db w g u r d bl):w.cell? ⟨g,0,none⟩=some (pV u)/\w.cell? ⟨g,1,none⟩=some (sV r)/\w.cell? ⟨g,2,none⟩=some (i6 (d:Int))/\w.cell? ⟨g,3,none⟩=some (bV bl):=
 ⟨by rw[Ur w g 0 _ _ _ h];rfl,by rw[Ur w g 1 _ _ _ h];rfl,by rw[Ur w g 2 _ _ _ h];rfl,by rw[Ur w g 3 _ _ _ h];rfl⟩
def free(h:db w g u r d bl):w.frozen? ⟨g,0,none⟩=false/\w.frozen? ⟨g,1,none⟩=false/\w.frozen? ⟨g,2,none⟩=false/\w.frozen? ⟨g,3,none⟩=false:=by
 have hh:w.heap[g]? =_:=h;refine⟨?_,?_,?_,?_⟩<;>simp[World.frozen?,hh]
def set(h:db w g u r d bl)(e c)(b:Nat)(a:Bool):db ((((w.setCell ⟨g,0,none⟩ (pV e)).setCell ⟨g,1,none⟩ (sV c)).setCell ⟨g,2,none⟩ (i6 (b:Int))).setCell ⟨g,3,none⟩ (bV a)) g e c b a:=by
 have h1:=Vo w g 0 _ _ (pV e) h;have h2:=Vo _ g 1 _ _ (sV c) h1;have h3:=Vo _ g 2 _ _ (i6 (b:Int)) h2;exact Vo _ g 3 _ _ (bV a) h3
def other(h:db w g u r d bl)(f:Nat)(i:g≠f)(a b c e):db ((((w.setCell ⟨f,0,none⟩ a).setCell ⟨f,1,none⟩ b).setCell ⟨f,2,none⟩ c).setCell ⟨f,3,none⟩ e) g u r d bl:=by
 unfold db;rw[Uy _ _ _ _ i,Uy _ _ _ _ i,Uy _ _ _ _ i,Uy _ _ _ _ i];exact h
def kept{w':World}(h:db w g u r d bl)(k:w'.heap[g]? =w.heap[g]?):db w' g u r d bl:=k.trans h
end db
def sM(w:World)(n:Nat)(u:Option Addr)(r V:yL):Prop:=(u=none/\V=[])\/∃b t kid kids,u=some ⟨b,0,none⟩/\b<n/\bU w b t kid kids/\t.at r=V
def fF(w:World)(b:Nat)(a u:Option Addr):Prop:=w.heap[b]? =some (.cells #[pV a,pV u] 73 (0,0))
namespace fF
variable {w : World} {tb : Nat} {st u : Option Addr}
def lt(h:fF w tb st u):tb<w.heap.size:=(Um.1 h).1
def c0(h:fF w tb st u):w.cell? ⟨tb,0,none⟩=some (pV st):=by rw[Ur w tb 0 _ _ _ h];rfl
def c1(h:fF w tb st u):w.cell? ⟨tb,1,none⟩=some (pV u):=by rw[Ur w tb 1 _ _ _ h];rfl
def free(h:fF w tb st u)(o:Nat):w.frozen? ⟨tb,o,none⟩=false:=by simp[World.frozen?,show w.heap[tb]? =_ from h]
def kept{w':World}(h:fF w tb st u)(k:w'.heap[tb]? =w.heap[tb]?):fF w' tb st u:=k.trans h
def set(h:fF w tb st u)(a):fF (w.setCell ⟨tb,1,none⟩ (pV a)) tb st a:=Vo w tb 1 _ _ (pV a) h
end fF
def aD(k:yB):yL:=ch k.data.toList
def g6(k):(aD k).length=2*k.size:=by unfold aD;rw[py];simp
def b8(k):aw (aD k):=xx _
def sL(w)(g:Option Addr)(r:yL)(f:r.length=32)(T:aB w):
 yC 17 #[pV g,sV (ae r)] w fun e w'=>∃tb u,e=rV (tV #[pV (qA tb),i6 0])/\w.heap.size<=tb/\fF w' tb g u/\At w' (bP r) (fun x=>w.heap.size<=x/\x≠tb) (pV u)/\Below w.heap.size w w':=by
 have j:yH (∀W,Below w.heap.size w W->yC 28 #[sV (ae r)] W (Made w (fun _=>False) (bP r))):=fun W c=>(CQ W r (T.below c)).mono fun e w' h=>h.after c
 have h32:(((ae r).size:Int) != 32)=false:=by rw[aN,f];rfl
 clear T f;generalize bP r=R at*;generalize ae r=RS at*;go_enter func17,ntmps17
 go_wp2_with fail
 refine(j.o w (Un _ _)).mono ?_;rintro e w1 ⟨u1,rfl,b,d⟩;have i:yH (At w1 R (fun x=>w.heap.size<=x/\x<w1.heap.size) (pV u1)/\Below w.heap.size w w1):=⟨b.cut.mono fun x a=>⟨a.1.elim (fun h=>h.elim) id,a.2⟩,d⟩
 clear b d;go_wp2
 go_ret2
 obtain⟨g1,g2⟩:=i.o;exact⟨w1.heap.size,u1,rfl,g2.size,UG _ _,(g1.mono fun x a=>⟨a.1,by omega⟩).below ((Un _ _).alloc (Ug _) _),g2.alloc g2.size _⟩
def qQ(w)(f:Nat)(i u t S)(c:fF w f i u)(a:At w t S (pV u))(b:aO t)(T:aB w):
 yC 21 #[pV (qA f)] w fun e w'=>e=rV (sV (ae (bQ t)))/\yW w w':=by
 have h:=aa (Em w t S u a b T);have t1:=c.c1;clear c a b T;generalize ae (bQ t)=R at*;go_enter func21,ntmps21
 go_wp2_with fail
 refine h.m ?_;rintro e w1 ⟨rfl,d⟩;have g:=aa d;clear d;go_wp2
 go_ret
 exact⟨rfl,g.o⟩
def lE(w:World)(base:Nat)(e:TypeId)(g cap n:Nat)(a:List Value):Prop:=
 ∃cur fz,base<=g/\w.heap[g]? =some (.cells cur e fz)/\(fz=(0,0)\/cur.size<=fz.1)/\n<=cap/\cap<=maxLen/\cur.size=cap/\cur.toList.take n=a
def lE.cell{w base e g cap n b}(h:lE w base e g cap n b):∀j u,b[j]? =some u->w.cell? ((⟨g,0,none⟩:Addr).add j)=some u:=by
 let⟨c,d,_,i,_,m,_,l,k⟩:=h;intro j u a;have f:(⟨g,0,none⟩:Addr).add j=⟨g,j,none⟩:=by unfold Addr.add;split<;>simp_all
 rw[f,Ur w g j c e d i];rw[<-k,Vv] at a;split at a
 ·simpa using a
 ·cases a
def lE.free{w base e g cap n d}(h:lE w base e g cap n d)(j:Nat)(k:j<cap):w.frozen? ⟨g,j,none⟩=false:=by
 let⟨f,b,_,c,a,l,_,i,m⟩:=h;let⟨lo,hi⟩:=b;simp only[World.frozen?,c,Bool.and_eq_false_iff,decide_eq_false_iff_not];rcases a with a|a
 ·cases a;right;omega
 ·left;simp only at a;omega
def lE.len{w base e g cap n a}(h:lE w base e g cap n a):a.length=n:=by
 let⟨c,d,_,j,i,k,_,f,b⟩:=h;rw[<-b,UN,Array.length_toList];omega
section
variable {P : Program} (w : World)
end
def St(w)(s:yB)(hs:s.size<=maxLen):∃cap w1,(convert 9 34 (sV s)).run yP w=.ok (lV (qA w.heap.size) s.size cap) w1/\
 lE w1 w.heap.size 5 w.heap.size cap s.size (b9 s.data.toList)/\yW w w1/\w1.heap.size=w.heap.size+1:=by
 refine⟨_,_,Lib.run_convert_string_bytes w 9 34 5 s underlying9 underlying34 underlying5,?_,?_,Lib.bytesWorld_size w 5 s⟩
 ·have a:=grownCap_ge w s.size 0 5;have d:(Lib.bytesCells w 5 s).size=grownCap w s.size 0 5:=by simp[Lib.bytesCells];omega
  refine⟨_,_,Ug _,Lib.bytesWorld_at_new w 5 s,.inr (Ug _),a,grownCap_le_maxLen w s.size 0 5 hs,d,?_⟩;have e:s.size=(s.data.toList.map fun b=>Value.int .u8 b.toNat).length:=by simp
  unfold Lib.bytesCells;rw[Array.toList_append,Array.toList_map,List.take_append_of_le_length (by simp),U4 (by simp)];rfl
 ·exact⟨rfl,rfl,rfl,by rw[Lib.bytesWorld_size];omega,fun k c=>Lib.bytesWorld_at_old w 5 s k c⟩
def JJ(g j:Nat):(⟨g,0,none⟩:Addr).add j=⟨g,j,none⟩:=by unfold Addr.add;split<;>simp_all
def lE.set{w base e g cap n d}(h:lE w base e g cap n d)(j:Nat)(u):lE (w.setCell ⟨g,j,none⟩ u) base e g cap n (d.set j u):=by
 let⟨a,b,f,c,k,m,l,i,o⟩:=h;refine⟨a.setIfInBounds j u,b,f,?_,by simpa using k,m,l,by simpa using i,?_⟩
 ·rw[U7 w g j a e b u c];exact Vk w g a _ e _ c
 ·rw[Array.toList_setIfInBounds,List.take_set,o]
def lE.conv{w base g cap l n}(h:lE w base 5 g cap n (b9 l)):(convert 34 9 (lV (qA g) n cap)).run yP w=.ok (sV (ae l)) w:=by
 have a:l.length=n:=by have:=h.len;simpa [b9] using this
 have:=VA (P:=yP) w 34 5 underlying34 underlying5 g 0 n cap (l.map (fun c=>(c.toNat:Int))) (by simpa using a) (fun i hi=>by
  have:=h.cell i (iV .u8 (l[i].toNat:Int)) (by unfold b9;rw[UK,Uh (by omega)];rfl);rw[JJ] at this;rw[Vj,this,Up,UK,Uh (by omega)];rfl) 9 underlying9
 rw[this,oN]
def SZ(w:World)(x t):(w.alloc (.cells #[x] t)).cell? ⟨w.heap.size,0,none⟩=some x:=by
 rw[Ur _ _ 0 _ _ _ (UG w _)];rfl
def ah:List (yB×yB)->yB->Option yB
 | [],_=>none
 |p::t,h=>if(p.1.toList == h.toList) then some p.2 else ah t h
def Qi(b:List (yB×yB))(h:yB)(i:Nat)(p:yB×yB)(a:b[i]? =some p)(c:(p.1.toList == h.toList)=true):ah (b.drop i) h=some p.2:=by
 have d:=(Ux.1 a).1;rw[UZ d,(Ux.1 a).2];unfold ah;rw[Uj c]
def Qg(a:List (yB×yB))(h:yB)(i:Nat)(p:yB×yB)(b:a[i]? =some p)(c:(p.1.toList == h.toList)=false):ah (a.drop i) h=ah (a.drop (i+1)) h:=by
 have d:=(Ux.1 b).1;rw[UZ d,(Ux.1 b).2];conv=>lhs;unfold ah
 rw[c];rfl
def pz(a:List (yB×yB))(h:yB):yB:=if h.size=32 then(ah a h).getD ⟨#[]⟩ else⟨#[]⟩
def kG(a:List (yB×yB))(h:yB):Int:=if h.size=32 then(match ah a h with|some _=>0 |none=>9) else 2
def Ia(a)(h:yB)(hs:h.size≠32):pz a h=⟨#[]⟩/\kG a h=2:=by
 unfold pz kG;rw[Ui hs,Ui hs];exact⟨rfl,rfl⟩
def Hy(a)(h t:yB)(hs:h.size=32)(b:ah a h=some t):pz a h=t/\kG a h=0:=by
 unfold pz kG;rw[Uj hs,Uj hs,b];exact⟨rfl,rfl⟩
def Hz(a)(h:yB)(hs:h.size=32)(b:ah a h=none):pz a h=⟨#[]⟩/\kG a h=9:=by
 unfold pz kG;rw[Uj hs,Uj hs,b];exact⟨rfl,rfl⟩
def jz(a:List (yB×yB)):List Value:=a.map fun p=>sV p.1
def dt:List bH->yB->Nat
 | [],_=>0
 |p::t,h=>if cD p.1 h then dt t h+1 else 0
def zx:∀(a:List bH) (h),dt a h<=a.length
 | [],_=>Ug _
 |p::t,h=>by
  unfold dt
  have:=zx t h
  simp only[UJ]
  split<;>omega
def NY(a:List bH)(h)(i:Nat)(p:bH)(b:a[i]? =some p)(c:cD p.1 h=true):dt (a.drop i) h=dt (a.drop (i+1)) h+1:=by
 have d:=(Ux.1 b).1;rw[UZ d,(Ux.1 b).2];conv=>lhs;unfold dt
 rw[Uj c]
def NX(b:List bH)(h)(i:Nat)(p:bH)(a:b[i]? =some p)(c:cD p.1 h=false):dt (b.drop i) h=0:=by
 have d:=(Ux.1 a).1;rw[UZ d,(Ux.1 a).2];unfold dt;rw[c];rfl
def fV(a:List bH)(h:yB):Bool:=match a[dt a h]? with
 |some p=>p.1.toList == h.toList
 |none=>false
def Hf{a h}(b:fV a h=true):dt a h<a.length:=by
 unfold fV at b;rcases Nat.lt_or_ge (dt a h) a.length with c|c
 ·exact c
 ·rw[U9 c] at b;cases b
def DC(w)(b:Nat)(h:yB)(hs:0<h.size)(a)(cap:Nat)(d:List bH)(S:xT w b (h[0]'hs).toNat a cap d)(E:d.length<4200000000000):
 yC 66 #[pV (qA b),sV h] w fun e w'=>e=rV (tV #[i6 (dt d h),bV (fV d h)])/\∃n,w'=w.drewN n:=by
 have c0:=S.cell;have B:(h[0]'hs).toNat<256:=(h[0]'hs).toNat_lt;have t:yH (∀k (_:k<d.length),∃p g,a=some ⟨g,0,none⟩/\yc w g (k*2) (sV p)/\(∃q,d[k]? =some (p,q))):=fun k z=>by
  have s:d[k]? =some d[k]:=Uh z;obtain⟨g,e,c,_⟩:=S.at_ k _ s;exact⟨_,g,e,c,_,s⟩
 have F:(0:Int)<(h.size:Int):=by omega
 clear S;generalize hN:d.length=N at*;generalize hcc:(h[0]'hs).toNat=C at*;have D:(C:Int)<256:=by omega
 go_enter func66,ntmps66
 go_wp2
 go_region
 go_wp2
 go_loopg [7] N (fun g u wr=>∃k:Nat,g=N - k/\k<=N/\u=i6 k/\yH (dt d h=k+dt (d.drop k) h)/\wr=w.drew)
 case atStart=>exact⟨0,by omega,by omega,rfl,by show _=_;simp,rfl⟩
 case round=>
  obtain⟨k,r,h1,rfl,m,rfl⟩:=hrel;have v:=aa r;clear r;by_cases A:k<N
  ·obtain⟨p,g,rfl,c1,q,j⟩:=t.o k A;have y:(k:Int)<(N:Int):=by omega
   cases hls:Op.bytesLess p.toList h.toList
   ·have f:dt d h=k:=by rw[m.o,NX d h k _ j hls];rfl
    have o:=aa f;have i:fV d h=(p.toList == h.toList):=by unfold fV;rw[f,j]
    have l:=aa i;clear f i j;go_wp2
    go_region
    go_wp2
    go_ret2
    exact⟨by rw[o.o,l.o];rfl,2,rfl⟩
   ·have x:yH (dt d h=(k+1)+dt (d.drop (k+1)) h):=by
     show _=_;rw[m.o,NY d h k _ j hls];omega
    clear j;go_wp2
    go_roundg (N - (k+1))
    case measure=>have:=v.o;omega
    case rel=>exact⟨k+1,rfl,by omega,by go_num,x,rfl⟩
  ·obtain rfl:k=N:=by omega
   have y:¬(k:Int)<(k:Int):=by omega
   have f:dt d h=k:=by rw[m.o,<-hN,List.drop_length];rfl
   have o:=aa f;have i:fV d h=false:=by
    unfold fV;rw[f,U9 (by omega)]
   have l:=aa i;clear f i;go_wp2
   go_region
   go_wp2
   go_ret2
   exact⟨by rw[o.o,l.o];rfl,2,rfl⟩
end Go.Proofs.YthpclfdpbmehgaaGreatDoor
