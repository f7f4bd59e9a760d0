import Derived.Test.YteaodagofkcgbaaGreatDoorO
open Go.Proofs.Tryz
open Go.Proofs.Tryz renaming prog→yP
open Go.Value renaming string→sV,pointer→pV,int→iV,slice→lV,bool→bV,tuple→tV,agg→gV
open Go.Ending renaming returned→rV
namespace Go.Proofs.YteaodagofkcgbaaGreatDoor
open Go.RowKit
set_option maxRecDepth 100000
set_option maxHeartbeats 0
set_option linter.all false
def Q8:(yP.info? 135).map (λi=>(i.zero,i.size,i.bytes))=some (some (gV #[sV ⟨#[]⟩,sV ⟨#[]⟩]),2,32):=by kernel_rfl
structure aU(T:Nat->Prop)(w w':World):Prop where
 os:w'.os=w.os
 tape:w'.tape=w.tape
 output:w'.output=w.output
 size:w.heap.size<=w'.heap.size
 block:∀k,k<w.heap.size->¬T k->w'.heap[k]? =w.heap[k]?
def aU.set{T w w'}(h:aU T w w')(a:Addr)(v)(b:T a.block\/w.heap.size<=a.block):aU T w (w'.setCell a v):=
 ⟨h.os,h.tape,h.output,by simpa using h.size,λk d c=>by
  rw[UL _ _ _ k (λe=>by rcases b with b|b;exact c (by rw[e];exact b);omega)]
  exact h.block k d c⟩
def aP(a:Nat->List (yB×yB))(c:Nat)(l:List (yB×yB)):Nat->List (yB×yB):=λd=>if d=c then l else a d
def bZ.grown{base w b j x}(S:bZ base w b j x)(c:Nat)(n:c<256)(o:Obj)(l:List (yB×yB))(g cap:Nat) (w1:World) (v:w1.ownsRow base 135 2 (lV (qA g) l.length cap) l.length (fK l)) (m:(w.drew.alloc o).grownBy w1 (j c).ownBlock) (t:(j c).ownBlock=some g\/g=w.heap.size+1):w1.heap[b]? =some (.cells (jj j) 71 (0,0))/\bZ base (w1.setCell ⟨b,c,none⟩ (lV (qA g) l.length cap)) b (bd j c (lV (qA g) l.length cap)) (aP x c l)/\
  aU (λk=>k=b\/(j c).ownBlock=some k) w (w1.setCell ⟨b,c,none⟩ (lV (qA g) l.length cap))/\g<w1.heap.size:=by
 have y:b<w.heap.size:=(Um.1 S.ai).1;have E:=m.size;have D:(w.drew.alloc o).heap.size=w.heap.size+1:=by simp
 have s:∀k,k<w.heap.size->(w.drew.alloc o).heap[k]? =w.heap[k]? :=λk r=>U6 w.drew o k r
 have p:w1.heap[b]? =some (.cells (jj j) 71 (0,0)):=by
  rw[m.block b (by omega) (λe=>S.fL c b n e.symm rfl),s b y];exact S.ai
 have u:g≠b:=by
  rcases t with h|h
  .exact S.fL c g n h
  omega
 have z:g<w1.heap.size:=(v.lt g rfl).2;refine⟨p,⟨?_,?_,?_,?_⟩,?_,z⟩
 .rw[U7 w1 b c _ _ (0,0) _ p,Vk w1 b _ _ _ _ p,yU _ _ _ n]
 .intro d f;by_cases e:d=c
  .subst e;simp only[bd,aP,U5];exact cM v λa i=>UL _ _ _ a (by show a≠b;simp[Value.ownBlock] at i;subst i;exact u)
  simp only[bd,aP,e,UT];refine cM (S.own d f) λa i=>?_
  have A:=((S.own d f).lt a i).2;rw[UL _ _ _ a (by show a≠b;exact S.fL d a f i),m.block a (by omega) (λh=>e (S.sep d c a f n i h.symm)),s a A]
 .intro d1 d2 a h1 h2 e1 e2;have key:∀d,d<256->d≠c->(j d).ownBlock=some g->False:=λd f C i=>by
   rcases t with h|h
   .exact C (S.sep d c g f n i h)
   have:=((S.own d f).lt g i).2;omega
  by_cases q1:d1=c<;>by_cases q2:d2=c
  .rw[q1,q2]
  .simp only[bd,q1,U5] at e1;simp only[bd,q2,UT] at e2;simp[Value.ownBlock] at e1;subst e1;exact(key d2 h2 q2 e2).elim
  .simp only[bd,q2,U5] at e2;simp only[bd,q1,UT] at e1;simp[Value.ownBlock] at e2;subst e2;exact(key d1 h1 q1 e1).elim
  simp only[bd,q1,UT] at e1;simp only[bd,q2,UT] at e2;exact S.sep d1 d2 a h1 h2 e1 e2
 .intro d a f e;by_cases q:d=c
  .simp only[bd,q,U5] at e;simp[Value.ownBlock] at e;subst e;exact u
  simp only[bd,q,UT] at e;exact S.fL d a f e
 exact aU.set (T:=λk=>k=b\/(j c).ownBlock=some k) (w:=w) (w':=w1) ⟨m.os,m.tape,m.output,by omega,λk r B=>by
  rw[m.block k (by omega) (λh=>B (.inr h.symm)),s k r]⟩ ⟨b,c,none⟩ _ (.inl (.inl rfl))
def bZ.put{base w b l j}(S:bZ base w b l j)(c:Nat)(m:c<256)(g:Nat)(f:(l c).ownBlock=some g)(k:Nat)(p:yB×yB):bZ base ((w.setCell ⟨g,k*2,none⟩ (sV p.1)).setCell ⟨g,k*2+1,none⟩ (sV p.2)) b l (aP j c ((j c).set k p)):=by
 have n:=S.fL c g m f;refine⟨?_,?_,S.sep,S.fL⟩
 .rw[UL _ _ _ b (by show b≠g;exact n.symm),UL _ _ _ b (by show b≠g;exact n.symm)];exact S.ai
 intro d i;by_cases e:d=c
 .subst e;simp only[aP,U5];rw[EN,Vh];exact tS (tS (S.own d i) f _ _) f _ _
 simp only[aP,e,UT];refine cM (S.own d i) λa q=>?_
 have o:a≠g:=λh=>e (S.sep d c g i m (by rwa[<-h]) f)
 rw[UL _ _ _ a (by show a≠g;exact o),UL _ _ _ a (by show a≠g;exact o)]
def Nc(base:Nat)(w)(b:Nat)(f)(a:Nat->List (yB×yB))(S:bZ base w b f a)(c at_:Nat)(m:c<256)(B6:at_<=(a c).length)(hn:(a c).length<4000000000000)(C5:base<=w.heap.size):yC 117 #[.pointer (qA b),.int .u8 c,.int .i64 at_] w λe w'=>e=.returned (.tuple #[])/\
  (∃l,bZ base w' b (bd f c l) (aP a c (fw (a c++[(⟨#[]⟩,⟨#[]⟩)]) (a c).length ((a c).length - at_)))/\∀g,l.ownBlock=some g->(f c).ownBlock=some g\/w.heap.size<=g)/\aU (λk=>k=b\/(f c).ownBlock=some k) w w':=by
 have B7:b<w.heap.size:=(Um.1 S.ai).1;have c0:w.cell? ⟨b,c,none⟩=some (f c):=by rw[Ur w b c _ _ _ S.ai];exact mY _ _ m
 have B3:(w.alloc (.cells #[.string ⟨#[]⟩,.string ⟨#[]⟩] 135)).cell? ⟨b,c,none⟩=some (f c):=by
  rw[Uz (w:=w) (U6 _ _ _ B7)];exact c0
 obtain⟨i0,U,A1,A2,A3⟩:=Vp Q8;have C6:(c:Int)<256:=by omega
 have A8:=aa (S.own c m);have A4:yH (∀g5 i w5,w5.ownsRow base 135 2 (.slice (qA g5) ((a c).length+1) i) ((a c).length+1) (fK (a c)++[.string ⟨#[]⟩,.string ⟨#[]⟩])->(w.drew.alloc (.cells #[.string ⟨#[]⟩,.string ⟨#[]⟩] 135)).grownBy w5 (f c).ownBlock->
  ((f c).ownBlock=some g5\/g5=w.heap.size+1)->
  yH (bZ base (w5.setCell ⟨b,c,none⟩ (.slice (qA g5) ((a c).length+1) i)) b (bd f c (.slice (qA g5) ((a c).length+1) i)) (aP a c (a c++[(⟨#[]⟩,⟨#[]⟩)]))/\aU (λk=>k=b\/(f c).ownBlock=some k) w (w5.setCell ⟨b,c,none⟩ (.slice (qA g5) ((a c).length+1) i))/\((f c).ownBlock=some g5\/w.heap.size<=g5))/\
   w5.cell? ⟨b,c,none⟩=some (f c)/\w5.frozen? ⟨b,c,none⟩=false):=by
  intro g5 i w5 o n v;have X:(a c++[((⟨#[]⟩:yB),(⟨#[]⟩:yB))]).length=(a c).length+1:=by simp
  have:=S.grown c m _ (a c++[(⟨#[]⟩,⟨#[]⟩)]) g5 i w5 (by rw[X,zy];exact o) n v;rw[X] at this;obtain⟨h1,h2,h3,_⟩:=this;refine⟨⟨h2,h3,?_⟩,by rw[Ur w5 b c _ _ _ h1];exact mY _ _ m,US w5 b c _ _ h1⟩;rcases v with v|v
  .exact .inl v
  exact .inr (by omega)
 clear S;go_enter func117,ntmps117
 go_upto_region 0 with fail
 go_cut [] (λwx=>∃g5 i,yH (bZ base wx b (bd f c (.slice (qA g5) ((a c).length+1) i)) (aP a c (a c++[(⟨#[]⟩,⟨#[]⟩)])))/\yH (aU (λk=>k=b\/(f c).ownBlock=some k) w wx)/\yH ((f c).ownBlock=some g5\/w.heap.size<=g5))
 .go_region_law (refine step_append_lies _ rfl (.tmp 14) (.tmp 16) 68 rfl base 135 i0 (.agg #[.string ⟨#[]⟩,.string ⟨#[]⟩]) 2 32 underlying68 U A1 A2 A3 rfl (by decide) (f c) (a c).length (fK (a c)) (by simp[Act.eval]) (A8.o.drew.alloc _) ⟨w.heap.size,0,none⟩ 1 1 [.string ⟨#[]⟩,.string ⟨#[]⟩] (by simp[Act.eval]) rfl (vC _ _ _ _ rfl) (by intro u hu;simp at hu;subst hu;rfl) (by omega) (by unfold maxLen;omega) (by omega) (by simp;omega) _ rfl ?_;intro g5 i w5 hown5 hgr5 hat5 hlt5;obtain⟨HF5,e3,g3⟩:=A4.o g5 i w5 hown5 hgr5 (by simpa using hat5);clear hown5 hgr5 hat5 hlt5)
  all_goals
   go_wp2;go_meet;exact⟨g5,i,HF5.o.1,HF5.o.2.1,HF5.o.2.2⟩
 obtain⟨g5,i,y,HW,E⟩:=hcut;clear c0 B3;obtain⟨N,B⟩:=yX ((a c).length);obtain⟨L,A⟩:=yX (a c++[((⟨#[]⟩:yB),(⟨#[]⟩:yB))]);have P:L.length=N+1:=by rw[A,B];simp
 obtain⟨V,C⟩:=yX (bd f c (.slice (qA g5) (N+1) i));have H:V c=.slice (qA g5) (N+1) i:=by rw[C];simp[bd]
 rw[<-B,<-A,<-C] at y;have d0:wc.cell? ⟨b,c,none⟩=some (.slice (qA g5) (N+1) i):=by
  rw[Ur wc b c _ _ _ y.o.ai,mY _ _ m,H]
 have x:=aa P;have F:=aa H;have A5:yH (∀W,bZ base W b V (aP a c (fw L N (N - at_)))->∃l,bZ base W b (bd f c l) (aP a c (fw (a c++[(⟨#[]⟩,⟨#[]⟩)]) (a c).length ((a c).length - at_)))/\∀g,l.ownBlock=some g->(f c).ownBlock=some g\/w.heap.size<=g):=λW h=>by
  rw[C,A,B] at h;exact⟨_,h,λg n=>by simp[Value.ownBlock] at n;subst n;exact E.o⟩
 have A7:yH (∀W k,bZ base W b V (aP a c (fw L N k))->W.cell? ⟨b,c,none⟩=some (.slice (qA g5) (N+1) i)/\∀j p,(fw L N k)[j]? =some p->W.cell? ⟨g5,j*2,none⟩=some (.string p.1)/\W.cell? ⟨g5,j*2+1,none⟩=some (.string p.2)/\W.frozen? ⟨g5,j*2,none⟩=false/\W.frozen? ⟨g5,j*2+1,none⟩=false):=λW k h=>by
  have o:=h.own c m;simp only[aP,U5] at o;have D:(V c).ownBlock=some g5:=by rw[F.o];rfl
  refine⟨by rw[Ur W b c _ _ _ h.ai,mY _ _ m,F.o],λj p I=>?_⟩;obtain⟨p1,p2⟩:=tQ _ j p I;exact⟨fc o D _ _ p1,fc o D _ _ p2,kZ o D _,kZ o D _⟩
 have B1:yH (∀W k p,k<N->L[N - k - 1]? =some p->bZ base W b V (aP a c (fw L N k))->bZ base ((W.setCell ⟨g5,(N - k)*2,none⟩ (.string p.1)).setCell ⟨g5,(N - k)*2+1,none⟩ (.string p.2)) b V (aP a c (fw L N (k+1)))):=λW k p hk I h=>by
  have:=h.put c m g5 (by rw[F.o];rfl) (N - k) p;have e:aP (aP a c (fw L N k)) c ((aP a c (fw L N k) c).set (N - k) p)=aP a c (fw L N (k+1)):=by
   funext d
   by_cases T:d=c
   .simp only[aP,T,U5];show(fw L N k).set (N - k) p=(fw L N k).set (N - k) (L.getD (N - k - 1) _);rw[Up,I];rfl
   simp only[aP,T,UT]
  rw[e] at this;exact this
 have A9:=aa y;have C4:at_<=N:=by omega
 have C2:N<4000000000000:=by omega
 clear C A B H P B6 hn y U A1 A2 A3;go_wp2;clear d0;go_loopg [6] (N - at_) (λg r wr=>∃k:Nat,g=N - at_ - k/\k<=N - at_/\r=.int .i64 ((N:Int) - (k:Int))/\yH (bZ base wr b V (aP a c (fw L N k)))/\yH (aU (λq=>q=b\/(f c).ownBlock=some q) w wr))
 .exact⟨0,rfl,by omega,by go_num,A9,HW⟩
 obtain⟨k,n,hk,rfl,s,t⟩:=hrel;have HG:=aa n;clear n;obtain⟨e0,z⟩:=A7.o wr k s.o;by_cases C7:k<N - at_
 .obtain⟨M,G⟩:=yX (N - k);have B5:(N:Int) - (k:Int)=(M:Int):=by omega
  obtain⟨Q,R⟩:=yX (N - k - 1);have B9:(M:Int) - 1=(Q:Int):=by omega
  have J:L[N - k - 1]? =some (L[N - k - 1]'(by rw[x.o];omega)):=Uh _;have Y:(fw L N k)[N - k - 1]? =L[N - k - 1]? :=yq L N k _ (by omega);have Z:(fw L N k)[N - k]? =some ((fw L N k)[N - k]'(by rw[qX,x.o];omega)):=Uh _;obtain⟨s1,s2,_,_⟩:=z _ _ (Y.trans J);obtain⟨t1,t2,t3,t4⟩:=z _ _ Z;have K:=B1.o wr.drew k _ (by omega) J ⟨s.o.ai,s.o.own,s.o.sep,s.o.fL⟩;generalize L[N - k - 1]'(by rw[x.o];omega)=p at*;generalize (fw L N k)[N - k]'(by rw[qX,x.o];omega)=pu at*;rw[<-G] at t1 t2 t3 t4 K;rw[<-R] at s1 s2;rw[B5];have B0:=aa K;have C3:(at_:Int)<(M:Int):=by omega
  have C0:(M:Int)<(N:Int)+1:=by omega
  have C1:(Q:Int)<(N:Int)+1:=by omega
  have C8:IntKind.i64.wrap (Q:Int)=(Q:Int):=by rw[UY];omega
  have C9:IntKind.i64.wrap (M:Int)=(M:Int):=by rw[UY];omega
  have A6:=aa G;have B2:yH (aU (λq=>q=b\/(f c).ownBlock=some q) w ((wr.drew.setCell ⟨g5,M*2,none⟩ (.string p.1)).setCell ⟨g5,M*2+1,none⟩ (.string p.2))):=
   aU.set (w':=wr.drew.setCell ⟨g5,M*2,none⟩ (.string p.1)) (aU.set (w':=wr.drew) ⟨t.o.os,t.o.tape,t.o.output,t.o.size,t.o.block⟩ ⟨g5,M*2,none⟩ _ (E.o.elim (λh=>.inl (.inr h)) .inr)) ⟨g5,M*2+1,none⟩ _ (E.o.elim (λh=>.inl (.inr h)) .inr)
  clear J Y Z K z R G;go_wp2;go_region
  all_goals
   go_wp2;go_roundg (N - at_ - (k+1))
   .exact⟨k+1,rfl,by omega,by have:=A6.o;go_num,B0,B2⟩
   have:=HG.o;omega
 obtain rfl:k=N - at_:=by omega
 have B4:(N:Int) - ((N - at_:Nat):Int)=(at_:Int):=by omega
 rw[B4];have B8:¬(at_:Int)<(at_:Int):=by omega
 obtain⟨l,A0⟩:=A5.o wr s.o;have O:yH ((bZ base wr b (bd f c l) (aP a c (fw (a c++[(⟨#[]⟩,⟨#[]⟩)]) (a c).length ((a c).length - at_)))/\∀g,l.ownBlock=some g->(f c).ownBlock=some g\/w.heap.size<=g)/\aU (λq=>q=b\/(f c).ownBlock=some q) w wr):=⟨A0,t.o⟩
 clear A0 z;go_wp2;go_end0;exact⟨rfl,⟨l,O.o.1⟩,O.o.2⟩
def Li(a:List (yB×yB))(e q:yB×yB)(k:Nat)(f:k<=a.length):(fw (a++[e]) a.length (a.length - k)).set k q=a.take k++[q]++a.drop k:=by
 apply VQ;intro j;have g:(fw (a++[e]) a.length (a.length - k)).length=a.length+1:=by rw[qX];simp
 have c:(a.take k++[q]).length=k+1:=by rw[Uq,UN];simp;omega
 rcases Nat.lt_trichotomy j k with b|b|b
 .rw[Ve (by omega),yq _ _ _ j (by omega),UW (by omega),UI,UW (by rw[UN];omega),Vv,Uj b]
 .subst b;rw[List.getElem?_set_self (by omega),UW (by omega),Vf (by rw[UN];omega)];simp[UN,Nat.min_eq_left f]
 rw[Ve (by omega)];by_cases d:j<=a.length
 .rw[CA _ _ (by simp) _ j (by omega) (by omega) d,UW (by omega),Vf (by omega),c,VE];congr 1;omega
 rw[U9 (by omega),U9 (by rw[Uq,c,Uu];omega)]
def kh(a:List (yB×yB))(h t:yB):List (yB×yB):=if ew a h then a.set (aZ a h) (h,t) else a.take (aZ a h)++[(h,t)]++a.drop (aZ a h)
def bZ.same{base}{w w':World}{b e d}(S:bZ base w b e d)(a:w'.heap=w.heap):bZ base w' b e d:=
 ⟨by rw[a];exact S.ai,λc f=>cM (S.own c f) λg _=>by rw[a],S.sep,S.fL⟩
def He{a h}(b:ew a h=true):aZ a h<a.length:=by
 unfold ew at b;rcases Nat.lt_or_ge (aZ a h) a.length with c|c
 .exact c
 rw[U9 c] at b;cases b
def aU.trans{T w w1 w2}(h:aU T w w1)(k:aU T w1 w2):aU T w w2:=
 ⟨k.os.trans h.os,k.tape.trans h.tape,k.output.trans h.output,Ut h.size k.size,λq b a=>(k.block q (Us b h.size) a).trans (h.block q b a)⟩
def bZ.last{base W b V d}(S:bZ base W b V d)(c:Nat)(f:c<256)(k:Nat)(j:k<(d c).length)(p:yB×yB):∃g cap u0 u1,V c=lV (qA g) (d c).length cap/\yc W b c (lV (qA g) (d c).length cap)/\yc W g (k*2) u0/\yc W g (k*2+1) u1/\W.frozen? ⟨g,k*2,none⟩=false/\W.frozen? ⟨g,k*2+1,none⟩=false/\
  bZ base ((W.drew.setCell ⟨g,k*2,none⟩ (sV p.1)).setCell ⟨g,k*2+1,none⟩ (sV p.2)) b V (aP d c ((d c).set k p)):=by
 let⟨a,cap,e,i⟩:=S.lK c f;have l:(d c)[k]? =some ((d c)[k]'j):=Uh j;obtain⟨g,rfl,c1,c2⟩:=i.at_ k _ l;have h:(V c).ownBlock=some g:=by rw[e];rfl
 exact⟨g,cap,_,_,e,i.cell,c1,c2,kZ (S.own c f) h _,kZ (S.own c f) h _,(S.same (w':=W.drew) rfl).put c f g h k p⟩
def jY(w:World)(v a:Value):Prop:=∀g,a.ownBlock=some g->v.ownBlock=some g\/w.heap.size<=g
def Ea(base:Nat)(w)(b:Nat)(i)(f:Nat->List (yB×yB))(S:bZ base w b i f)(h t:yB)(hs:0<h.size)(r:qV (f (h[0]'hs).toNat) h)(Y:(f (h[0]'hs).toNat).length<4000000000000)(A1:base<=w.heap.size):yC 84 #[pV (qA b),sV h,sV t] w λe w'=>e=rV (tV #[])/\
  (∃l,bZ base w' b (bd i (h[0]'hs).toNat l) (aP f (h[0]'hs).toNat (kh (f (h[0]'hs).toNat) h t))/\jY w (i (h[0]'hs).toNat) l)/\aU (λk=>k=b\/(i (h[0]'hs).toNat).ownBlock=some k) w w':=by
 have y:(h[0]'hs).toNat<256:=(h[0]'hs).toNat_lt;obtain⟨a,cap,N,H⟩:=S.lK _ y;have O:=aa (yV w b h hs a cap _ H r (by omega));have L:=tO (f (h[0]'hs).toNat) h;have P:yH (ew (f (h[0]'hs).toNat) h=true->aZ (f (h[0]'hs).toNat) h<(f (h[0]'hs).toNat).length):=He;have T:=aa S;have A3:(0:Int)<(h.size:Int):=by omega
 have E:yH (kh (f (h[0]'hs).toNat) h t=if ew (f (h[0]'hs).toNat) h then(f (h[0]'hs).toNat).set (aZ (f (h[0]'hs).toNat) h) (h,t) else(f (h[0]'hs).toNat).take (aZ (f (h[0]'hs).toNat) h)++[(h,t)]++(f (h[0]'hs).toNat).drop (aZ (f (h[0]'hs).toNat) h)):=rfl;clear S H r;generalize kh (f (h[0]'hs).toNat) h t=sp at*;generalize ew (f (h[0]'hs).toNat) h=hit at*;generalize aZ (f (h[0]'hs).toNat) h=k at*;generalize hcc:(h[0]'hs).toNat=c at*;have A2:(c:Int)<256:=by omega
 go_enter func84,ntmps84
 go_wp2_with fail
 apply O.m;rintro e w1⟨rfl,n1,u⟩;have s:w1.heap=w.heap:=by rw[u];rfl
 have v:=T.o.same s;have A0:=aa v;have F:yH (aU (λq=>q=b\/(i c).ownBlock=some q) w w1):=⟨by rw[u];rfl,by rw[u];rfl,by rw[u];rfl,by rw[s];exact Ug _,λq _ _=>by rw[s]⟩
 have z:w1.heap.size=w.heap.size:=by rw[s]
 cases hit
 .have R:yH (yC 117 #[pV (qA b),iV .u8 c,i6 k] w1 λe w'=>e=rV (tV #[])/\(∃l,bZ base w' b (bd i c l) (aP f c (fw (f c++[(⟨#[]⟩,⟨#[]⟩)]) (f c).length ((f c).length - k)))/\∀g,l.ownBlock=some g->(i c).ownBlock=some g\/w1.heap.size<=g)/\aU (λq=>q=b\/(i c).ownBlock=some q) w1 w'):=Nc base w1 b i f v c k y L Y (by omega);clear v u;go_wp2_with fail
  apply R.m;rintro e w2⟨rfl,⟨l,G,D⟩,I⟩;have K:(fw (f c++[((⟨#[]⟩:yB),(⟨#[]⟩:yB))]) (f c).length ((f c).length - k)).length=(f c).length+1:=by rw[qX];simp
  obtain⟨g,U,u0,u1,m,d0,d1,d2,f1,f2,o⟩:=G.last c y k (by simp only[aP,U5];omega) (h,t);simp only[aP,U5] at m d0;simp only[bd,U5] at m;rw[K] at m d0;have x:aP (aP f c (fw (f c++[(⟨#[]⟩,⟨#[]⟩)]) (f c).length ((f c).length - k))) c ((aP f c (fw (f c++[(⟨#[]⟩,⟨#[]⟩)]) (f c).length ((f c).length - k)) c).set k (h,t))=aP f c sp:=by
   funext d
   by_cases r:d=c
   .simp only[aP,r,U5];rw[Li _ _ _ _ L,E.o];rfl
   simp only[aP,r,UT]
  rw[x] at o;have A:=aa o;have p:(i c).ownBlock=some g\/w.heap.size<=g:=by
   have:=D g (by rw[m];rfl);rw[z] at this;exact this
  have B:yH (aU (λq=>q=b\/(i c).ownBlock=some q) w ((w2.drew.setCell ⟨g,k*2,none⟩ (sV h)).setCell ⟨g,k*2+1,none⟩ (sV t))):=by
   have j:=F.o.trans I;exact aU.set (w':=w2.drew.setCell ⟨g,k*2,none⟩ (sV h)) (aU.set (w':=w2.drew) ⟨j.os,j.tape,j.output,j.size,j.block⟩ ⟨g,k*2,none⟩ _ (p.elim (λh=>.inl (.inr h)) .inr)) ⟨g,k*2+1,none⟩ _ (p.elim (λh=>.inl (.inr h)) .inr)
  have Q:yH (jY w (i c) l):=λV C=>by
   have:=D V C;rw[z] at this;exact this
  have W:(k:Int)<((f c).length:Int)+1:=by omega
  have Z:IntKind.i64.wrap (k:Int)=(k:Int):=by rw[UY];omega
  clear G I o x D p m K s z N;generalize (f c).length=M at*;go_wp2;go_region
  all_goals
   go_wp2;go_end0;exact⟨rfl,⟨l,A.o,Q.o⟩,B.o⟩
 have X:=P.o rfl;obtain⟨g,U,u0,u1,m,d0,d1,d2,f1,f2,o⟩:=v.last c y k X (h,t);have x:aP f c ((f c).set k (h,t))=aP f c sp:=by rw[E.o];rfl
 rw[x] at o;have J:bd i c (i c)=i:=by funext d;by_cases r:d=c<;>simp[bd,r]
 have A:yH (bZ base ((w1.drew.setCell ⟨g,k*2,none⟩ (sV h)).setCell ⟨g,k*2+1,none⟩ (sV t)) b (bd i c (i c)) (aP f c sp)):=by
  show bZ _ _ _ _ _;rw[J];exact o
 have p:(i c).ownBlock=some g:=by rw[m];rfl
 have B:yH (aU (λq=>q=b\/(i c).ownBlock=some q) w ((w1.drew.setCell ⟨g,k*2,none⟩ (sV h)).setCell ⟨g,k*2+1,none⟩ (sV t))):=by
  have j:=F.o;exact aU.set (w':=w1.drew.setCell ⟨g,k*2,none⟩ (sV h)) (aU.set (w':=w1.drew) ⟨j.os,j.tape,j.output,j.size,j.block⟩ ⟨g,k*2,none⟩ _ (.inl (.inr p))) ⟨g,k*2+1,none⟩ _ (.inl (.inr p))
 have W:(k:Int)<((f c).length:Int):=by omega
 have Z:IntKind.i64.wrap (k:Int)=(k:Int):=by rw[UY];omega
 clear v u o x J p m s z N;generalize (f c).length=M at*;go_wp2;go_region
 all_goals
  go_wp2;go_end0;exact⟨rfl,⟨i c,A.o,λ_ C=>.inl C⟩,B.o⟩
def eC(L:List (yB×yB))(i:Nat):Nat->List (yB×yB)
 | 0=>L
 |k+1=>(eC L i k).set (i+k) (L.getD (i+k+1) (⟨#[]⟩,⟨#[]⟩))
def qC(L)(i:Nat):∀k,(eC L i k).length=L.length
 | 0=>rfl
 |k+1=>by show((eC L i k).set _ _).length=_;rw[Vh,qC L i k]
def Bj(L)(i:Nat):∀k j,(j<i\/i+k<=j)->(eC L i k)[j]? =L[j]?
 | 0,j,_=>rfl
 |k+1,j,h=>by
  show((eC L i k).set (i+k) _)[j]? =_
  rw[Ve (by omega)]
  exact Bj L i k j (by omega)
def IT(L:List (yB×yB))(i:Nat):∀k j,i+k<L.length->i<=j->j<i+k->(eC L i k)[j]? =L[j+1]?
 | 0,j,_,_,h=>by omega
 |k+1,j,hL,h1,h2=>by
  show((eC L i k).set (i+k) _)[j]? =_
  by_cases e:i+k=j
  .subst e
   rw[List.getElem?_set_self (by rw[qC];omega),Up,Uh (by omega)];rfl
  rw[Ve e]
  exact IT L i k j (by omega) h1 (by omega)
def Se(L:List (yB×yB))(i n:Nat)(e:yB×yB)(c:L.length=n+1)(hi:i<=n):((eC L i (n - i)).set n e).take n=L.eraseIdx i:=by
 apply VQ;intro j;rw[Vv];by_cases b:j<n
 .rw[Uj b,Ve (by omega),List.getElem?_eraseIdx];by_cases a:j<i
  .rw[Uj a,Bj _ _ _ _ (.inl a)]
  rw[Ui a,IT _ _ _ _ (by omega) (by omega) (by omega)]
 rw[Ui b,U9 (by rw[List.length_eraseIdx];split<;>omega)]
def bZ.cut{base w b i h}(S:bZ base w b i h)(c:Nat)(m:c<256)(g cap n:Nat)(k:i c=lV (qA g) (h c).length cap)(r:n<=(h c).length):bZ base (w.setCell ⟨b,c,none⟩ (lV (qA g) n cap)) b (bd i c (lV (qA g) n cap)) (aP h c ((h c).take n)):=by
 have p:=S.fL c g m (by rw[k];rfl);have l:∀d,d<256->(bd i c (lV (qA g) n cap) d).ownBlock=(i d).ownBlock:=λd _=>by
  by_cases e:d=c
  .subst e;simp only[bd,U5];rw[k];rfl
  simp only[bd,e,UT]
 refine⟨?_,?_,?_,?_⟩
 .rw[U7 w b c _ _ (0,0) _ S.ai,Vk w b _ _ _ _ S.ai,yU _ _ _ m]
 .intro d f;by_cases e:d=c
  .subst e;simp only[bd,aP,U5];have o:=S.own d f;rw[k] at o;have s:=Fg o r;have q:((h d).take n).length=n:=by rw[UN];omega
   rw[q,EM];exact cM s λa j=>UL _ _ _ a (by show a≠b;simp[Value.ownBlock] at j;subst j;exact p)
  simp only[bd,aP,e,UT];exact cM (S.own d f) λa j=>UL _ _ _ a (by show a≠b;exact S.fL d a f j)
 .intro d1 d2 a h1 h2 e1 e2;rw[l d1 h1] at e1;rw[l d2 h2] at e2;exact S.sep d1 d2 a h1 h2 e1 e2
 intro d a f e;rw[l d f] at e;exact S.fL d a f e
def LJ(base:Nat)(w)(b:Nat)(l)(f:Nat->List (yB×yB))(S:bZ base w b l f)(c i:Nat)(n:c<256)(hi:i<(f c).length)(hn:(f c).length<4000000000000):yC 83 #[pV (qA b),iV .u8 c,i6 i] w λe w'=>e=rV (tV #[])/\
  (∃v',bZ base w' b (bd l c v') (aP f c ((f c).eraseIdx i))/\v'.ownBlock=(l c).ownBlock)/\aU (λk=>k=b\/(l c).ownBlock=some k) w w':=by
 obtain⟨a,cap,s,O⟩:=S.lK c n;have V:(f c)[i]? =some ((f c)[i]'hi):=Uh hi;obtain⟨g,rfl,B0,B1⟩:=O.at_ i _ V;obtain⟨L,z⟩:=yX (f c);obtain⟨N,A⟩:∃N,L.length=N+1:=⟨L.length - 1,by rw[z];omega⟩
 have m:(l c).ownBlock=some g:=by rw[s];rfl
 have D:(f c).length=N+1:=by rw[<-z];exact A
 rw[D] at s;have t:=aa A;have v:=aa m;have B3:=aa s;have K:yH (bZ base w b l (aP f c (eC L i 0))):=by
  show bZ _ _ _ _ _;have e:aP f c (eC L i 0)=f:=by funext d;by_cases o:d=c<;>simp[aP,o,eC,z]
  rw[e];exact S
 have Y:yH (((eC L i (N - i)).set N (⟨#[]⟩,⟨#[]⟩)).take N=(f c).eraseIdx i):=by
  have:=Se L i N (⟨#[]⟩,⟨#[]⟩) A (by omega);rw[z] at this⊢;exact this
 have J:yH (∀W k,bZ base W b l (aP f c (eC L i k))->W.cell? ⟨b,c,none⟩=some (lV (qA g) (N+1) cap)/\W.frozen? ⟨b,c,none⟩=false/\∀j p,(eC L i k)[j]? =some p->W.cell? ⟨g,j*2,none⟩=some (sV p.1)/\W.cell? ⟨g,j*2+1,none⟩=some (sV p.2)/\W.frozen? ⟨g,j*2,none⟩=false/\W.frozen? ⟨g,j*2+1,none⟩=false):=λW k h=>by
  have B:=h.own c n;simp only[aP,U5] at B;refine⟨by rw[Ur W b c _ _ _ h.ai,mY _ _ n,s],US W b c _ _ h.ai,λj p G=>?_⟩;obtain⟨p1,p2⟩:=tQ _ j p G;exact⟨fc B m _ _ p1,fc B m _ _ p2,kZ B m _,kZ B m _⟩
 have A3:yH (∀W k p,L[i+k+1]? =some p->bZ base W b l (aP f c (eC L i k))->bZ base ((W.setCell ⟨g,(i+k)*2,none⟩ (sV p.1)).setCell ⟨g,(i+k)*2+1,none⟩ (sV p.2)) b l (aP f c (eC L i (k+1)))):=λW k p G h=>by
  have:=h.put c n g m (i+k) p;have e:aP (aP f c (eC L i k)) c ((aP f c (eC L i k) c).set (i+k) p)=aP f c (eC L i (k+1)):=by
   funext d
   by_cases o:d=c
   .simp only[aP,o,U5];show(eC L i k).set (i+k) p=(eC L i k).set (i+k) (L.getD (i+k+1) _);rw[Up,G];rfl
   simp only[aP,o,UT]
  rw[e] at this;exact this
 have A0:yH (∀W,bZ base W b l (aP f c (eC L i (N - i)))->bZ base (((W.setCell ⟨g,N*2,none⟩ (sV ⟨#[]⟩)).setCell ⟨g,N*2+1,none⟩ (sV ⟨#[]⟩)).setCell ⟨b,c,none⟩ (lV (qA g) N cap)) b (bd l c (lV (qA g) N cap)) (aP f c ((f c).eraseIdx i))):=λW h=>by
  have h1:=h.put c n g m N (⟨#[]⟩,⟨#[]⟩);have U:(aP (aP f c (eC L i (N - i))) c ((aP f c (eC L i (N - i)) c).set N (⟨#[]⟩,⟨#[]⟩)) c).length=N+1:=by
   simp only[aP,U5];rw[Vh,qC];exact A
  have h2:=h1.cut c n g cap N (by rw[U];exact s) (by rw[U];omega);have e:aP (aP (aP f c (eC L i (N - i))) c ((aP f c (eC L i (N - i)) c).set N (⟨#[]⟩,⟨#[]⟩))) c ((aP (aP f c (eC L i (N - i))) c ((aP f c (eC L i (N - i)) c).set N (⟨#[]⟩,⟨#[]⟩)) c).take N)=aP f c ((f c).eraseIdx i):=by
   funext d
   by_cases o:d=c
   .simp only[aP,o,U5];exact Y.o
   simp only[aP,o,UT]
  rw[e] at h2;exact h2
 have A9:=S.fL c g n m;have B2:=aa A9;have C4:N+1<=cap:=by
  obtain⟨a',B4,e1,e2,_⟩:=dM (S.own c n);rw[s,D] at e1;cases e1;rw[D] at e2;exact e2
 have C5:i<=N:=by omega
 have C1:N<4000000000000:=by omega
 have C3:(c:Int)<256:=by omega
 obtain⟨d0,_,_⟩:=J.o w 0 K.o;have A5:yH (aU (λq=>q=b\/(l c).ownBlock=some q) w w):=⟨rfl,rfl,rfl,Ug _,λ_ _ _=>rfl⟩
 clear B0 B1;clear S O V z A m s D hi hn;go_enter func83,ntmps83
 go_wp2;clear d0;go_loopg [7] (N - i) (λq r wr=>∃k:Nat,q=N - i - k/\k<=N - i/\r=i6 ((i:Int)+(k:Int))/\yH (bZ base wr b l (aP f c (eC L i k)))/\yH (aU (λq=>q=b\/(l c).ownBlock=some q) w wr))
 .exact⟨0,rfl,by omega,by go_num,K,A5⟩
 obtain⟨k,T,hk,rfl,E,u⟩:=hrel;have HG:=aa T;clear T;obtain⟨e0,B5,y⟩:=J.o wr k E.o;by_cases C6:k<N - i
 .obtain⟨M,F⟩:=yX (i+k);obtain⟨Q,P⟩:=yX (i+k+1);have A8:(i:Int)+(k:Int)=(M:Int):=by omega
  have B9:(M:Int)+1=(Q:Int):=by omega
  have H:L[i+k+1]? =some (L[i+k+1]'(by rw[t.o];omega)):=Uh _;have X:(eC L i k)[i+k+1]? =L[i+k+1]? :=Bj L i k _ (.inr (by omega));have C:(eC L i k)[i+k]? =some ((eC L i k)[i+k]'(by rw[qC,t.o];omega)):=Uh _;obtain⟨s1,s2,_,_⟩:=y _ _ (X.trans H);obtain⟨t1,t2,t3,t4⟩:=y _ _ C;have I:=A3.o wr.drew k _ H (E.o.same rfl);generalize L[i+k+1]'(by rw[t.o];omega)=p at*;generalize (eC L i k)[i+k]'(by rw[qC,t.o];omega)=pu at*;rw[<-F] at t1 t2 t3 t4 I;rw[<-P] at s1 s2;rw[A8];have A2:=aa I;have B7:(M:Int)<(N:Int):=by omega
  have B8:(M:Int)<(N:Int)+1:=by omega
  have C2:(Q:Int)<(N:Int)+1:=by omega
  have C7:IntKind.i64.wrap (Q:Int)=(Q:Int):=by rw[UY];omega
  have C8:IntKind.i64.wrap (M:Int)=(M:Int):=by rw[UY];omega
  have A1:=aa F;have A6:yH (aU (λq=>q=b\/(l c).ownBlock=some q) w ((wr.drew.setCell ⟨g,M*2,none⟩ (sV p.1)).setCell ⟨g,M*2+1,none⟩ (sV p.2))):=
   aU.set (w':=wr.drew.setCell ⟨g,M*2,none⟩ (sV p.1)) (aU.set (w':=wr.drew) ⟨u.o.os,u.o.tape,u.o.output,u.o.size,u.o.block⟩ ⟨g,M*2,none⟩ _ (.inl (.inr v.o))) ⟨g,M*2+1,none⟩ _ (.inl (.inr v.o))
  have A4:yH (Q=i+(k+1)):=by show _=_;omega
  clear H X C I y P F;go_wp2;go_region
  all_goals
   go_wp2;go_roundg (N - i - (k+1))
   .exact⟨k+1,rfl,by omega,by have:=A1.o;have:=A4.o;go_num,A2,A6⟩
   have:=HG.o;omega
 obtain rfl:k=N - i:=by omega
 have A7:(i:Int)+((N - i:Nat):Int)=(N:Int):=by omega
 rw[A7];have B6:¬(N:Int)<(N:Int):=by omega
 have C:(eC L i (N - i))[N]? =some ((eC L i (N - i))[N]'(by rw[qC,t.o];omega)):=Uh _;obtain⟨t1,t2,t3,t4⟩:=y _ _ C;have R:=A0.o wr E.o;have Z:=aa R;have C0:(N:Int)<(N:Int)+1:=by omega
 clear R C y;generalize (eC L i (N - i))[N]'(by rw[qC,t.o];omega)=pu at*;go_wp2;have x:yH (aU (λq=>q=b\/(l c).ownBlock=some q) w (((wr.setCell ⟨g,N*2,none⟩ (sV ⟨#[]⟩)).setCell ⟨g,N*2+1,none⟩ (sV ⟨#[]⟩)).setCell ⟨b,c,none⟩ (lV (qA g) N cap))):=by
  have h2:=aU.set (w':=wr.setCell ⟨g,N*2,none⟩ (sV ⟨#[]⟩)) (aU.set (w':=wr) u.o ⟨g,N*2,none⟩ (sV ⟨#[]⟩) (.inl (.inr v.o))) ⟨g,N*2+1,none⟩ (sV ⟨#[]⟩) (.inl (.inr v.o));exact aU.set h2 ⟨b,c,none⟩ _ (.inl (.inl rfl))
 go_region
 all_goals
  go_end0;exact⟨rfl,⟨_,Z.o.same rfl,v.o.symm⟩,x.o.os,x.o.tape,x.o.output,x.o.size,x.o.block⟩
def oP:∀a b,aF a b=aF b a
 | [],[]=>rfl
 | [],_::_=>rfl
 | _::_,[]=>rfl
 |x::a,y::b=>by
  simp only[aF]
  by_cases e:x=y
  .rw[Uj e,Uj e.symm,oP a b]
  rw[Ui e,Ui (Ne.symm e)]
def aM:Nd->yL->yL
 | .nil,_=>[]
 | .unread _,_=>[]
 | .leaf h q v,p=>(Nd.leaf h q v).at p
 | .ext _ q k,p=>if aF q p=q.length then aM k (p.drop q.length) else []
 | .branch _ v ks,p=>match p with
  | []=>v
  |c::r=>aM (ks c.toNat) r
def Nu(w)(g b:Nat)(t c f)(d:Nat)(bl:Bool)(B:bU w b t c f)(a:t.read):yC 111 #[pV (qA g),pV (qA b),i6 (d:Int),bV bl] w λe w'=>e=rV (i6 0)/\w'=w:=by
 have c0:=B.c0;have h:((t.kind:Int) != 0)=true:=by cases t<;>first|exact a.elim|rfl
 clear B a;generalize t.kind=K at*;go_enter func111,ntmps111
 go_wp2;go_ret;exact⟨rfl,rfl⟩
def db(w:World)(g:Nat)(u:Option Addr)(r:yB)(d:Nat)(bl:Bool):Prop:=w.heap[g]? =some (.cells #[pV u,sV r,iV .i64 (d:Int),bV bl] 127 (0,0))
namespace db
variable {w : World} {g : Nat} {u : Option Addr} {r : ByteArray} {d : Nat} {bl : Bool}
def lt(h:db w g u r d bl):g<w.heap.size:=(Um.1 h).1
def cells(h:db w g u r d bl):w.cell? ⟨g,0,none⟩=some (pV u)/\w.cell? ⟨g,1,none⟩=some (sV r)/\w.cell? ⟨g,2,none⟩=some (i6 (d:Int))/\w.cell? ⟨g,3,none⟩=some (bV bl):=
 ⟨by rw[Ur w g 0 _ _ _ h];rfl,by rw[Ur w g 1 _ _ _ h];rfl,by rw[Ur w g 2 _ _ _ h];rfl,by rw[Ur w g 3 _ _ _ h];rfl⟩
def free(h:db w g u r d bl):w.frozen? ⟨g,0,none⟩=false/\w.frozen? ⟨g,1,none⟩=false/\w.frozen? ⟨g,2,none⟩=false/\w.frozen? ⟨g,3,none⟩=false:=by
 have hh:w.heap[g]? =_:=h;refine⟨?_,?_,?_,?_⟩<;>simp[World.frozen?,hh]
def set(h:db w g u r d bl)(e c)(b:Nat)(a:Bool):db ((((w.setCell ⟨g,0,none⟩ (pV e)).setCell ⟨g,1,none⟩ (sV c)).setCell ⟨g,2,none⟩ (i6 (b:Int))).setCell ⟨g,3,none⟩ (bV a)) g e c b a:=by
 have h1:=Vo w g 0 _ _ (pV e) h;have h2:=Vo _ g 1 _ _ (sV c) h1;have h3:=Vo _ g 2 _ _ (i6 (b:Int)) h2;exact Vo _ g 3 _ _ (bV a) h3
def other(h:db w g u r d bl)(f:Nat)(i:g≠f)(a b c e):db ((((w.setCell ⟨f,0,none⟩ a).setCell ⟨f,1,none⟩ b).setCell ⟨f,2,none⟩ c).setCell ⟨f,3,none⟩ e) g u r d bl:=by
 unfold db;rwa[Uy _ _ _ _ i,Uy _ _ _ _ i,Uy _ _ _ _ i,Uy _ _ _ _ i]
def kept{w':World}(h:db w g u r d bl)(k:w'.heap[g]? =w.heap[g]?):db w' g u r d bl:=k.trans h
end db
def sM(w:World)(n:Nat)(u:Option Addr)(r V:yL):Prop:=(u=none/\V=[])\/∃b t kid kids,u=some ⟨b,0,none⟩/\b<n/\bU w b t kid kids/\t.at r=V
def fF(w:World)(b:Nat)(a u:Option Addr):Prop:=w.heap[b]? =some (.cells #[pV a,pV u] 75 (0,0))
namespace fF
variable {w : World} {tb : Nat} {st u : Option Addr}
def lt(h:fF w tb st u):tb<w.heap.size:=(Um.1 h).1
def c0(h:fF w tb st u):w.cell? ⟨tb,0,none⟩=some (pV st):=by rw[Ur w tb 0 _ _ _ h];rfl
def c1(h:fF w tb st u):w.cell? ⟨tb,1,none⟩=some (pV u):=by rw[Ur w tb 1 _ _ _ h];rfl
def free(h:fF w tb st u)(o:Nat):w.frozen? ⟨tb,o,none⟩=false:=by simp[World.frozen?,show w.heap[tb]? =_ from h]
def kept{w':World}(h:fF w tb st u)(k:w'.heap[tb]? =w.heap[tb]?):fF w' tb st u:=k.trans h
def set(h:fF w tb st u)(a):fF (w.setCell ⟨tb,1,none⟩ (pV a)) tb st a:=Vo w tb 1 _ _ (pV a) h
end fF
def aD(k:yB):yL:=ch k.data.toList
def g6(k):(aD k).length=2*k.size:=by unfold aD;rw[py];simp
def b8(k):aw (aD k):=xx _
def sL(w)(g:Option Addr)(r:yL)(f:r.length=32)(T:aB w):yC 11 #[pV g,sV (ae r)] w λe w'=>∃tb u,e=rV (tV #[pV (qA tb),i6 0])/\w.heap.size<=tb/\fF w' tb g u/\At w' (bP r) (λx=>w.heap.size<=x/\x≠tb) (pV u)/\Below w.heap.size w w':=by
 have j:yH (∀W,Below w.heap.size w W->yC 29 #[sV (ae r)] W (Made w (λ_=>False) (bP r))):=λW c=>(CQ W r (T.below c)).mono λe w' h=>h.after c
 have h32:(((ae r).size:Int) != 32)=false:=by rw[aN,f];rfl
 clear T f;generalize bP r=R at*;generalize ae r=RS at*;go_enter func11,ntmps11
 go_wp2_with fail
 refine(j.o w (Un _ _)).mono ?_;rintro e w1⟨u1,rfl,b,d⟩;have i:yH (At w1 R (λx=>w.heap.size<=x/\x<w1.heap.size) (pV u1)/\Below w.heap.size w w1):=⟨b.cut.mono λx a=>⟨a.1.elim (λh=>h.elim) id,a.2⟩,d⟩
 clear b d;go_wp2;go_ret2;obtain⟨g1,g2⟩:=i.o;exact⟨w1.heap.size,u1,rfl,g2.size,UG _ _,(g1.mono λx a=>⟨a.1,by omega⟩).below ((Un _ _).alloc (Ug _) _),g2.alloc g2.size _⟩
def qQ(w)(f:Nat)(i u t S)(c:fF w f i u)(a:At w t S (pV u))(b:aO t)(T:aB w):yC 37 #[pV (qA f)] w λe w'=>e=rV (sV (ae (bQ t)))/\yW w w':=by
 have h:=aa (Em w t S u a b T);have t1:=c.c1;clear c a b T;generalize ae (bQ t)=R at*;go_enter func37,ntmps37
 go_wp2_with fail
 apply h.m;rintro e w1⟨rfl,d⟩;have g:=aa d;clear d;go_wp2;go_ret;exact⟨rfl,g.o⟩
def uw{b h}(a:ew b h=true):∃p,b[aZ b h]? =some p/\(p.1.toList == h.toList)=true:=by
 unfold ew at a;cases hp:b[aZ b h]? with
 |none=>rw[hp] at a;cases a
 |some p=>rw[hp] at a;exact⟨p,rfl,a⟩
def OG(w:World)(b:Nat)(h:yB)(hs:h.size≠32):yC 118 #[pV (qA b),sV h] w λe w'=>e=rV (tV #[sV ⟨#[]⟩,i6 2])/\w'=w:=by
 have a:¬(h.size:Int)=32:=by omega
 clear hs;go_enter func118,ntmps118
 go_wp2;go_ret2;exact⟨rfl,rfl⟩
def OH(base:Nat)(w)(b:Nat)(vs)(sh:Nat->List (yB×yB))(S:bZ base w b vs sh)(h:yB)(h32:h.size=32)(hs:0<h.size)(hd:qV (sh (h[0]'hs).toNat) h)(hn:(sh (h[0]'hs).toNat).length<4000000000000):yC 118 #[pV (qA b),sV h] w λe w'=>
  ((ew (sh (h[0]'hs).toNat) h=false/\e=rV (tV #[sV ⟨#[]⟩,i6 9]))\/(ew (sh (h[0]'hs).toNat) h=true/\∃p,(sh (h[0]'hs).toNat)[aZ (sh (h[0]'hs).toNat) h]? =some p/\e=rV (tV #[sV p.2,i6 0])))/\∃n,w'=w.drewN n:=by
 have hc:(h[0]'hs).toNat<256:=(h[0]'hs).toNat_lt;obtain⟨a,cap,A4,SH⟩:=S.lK _ hc;have A0:=aa (yV w b h hs a cap _ SH hd (by omega));have A3:yH (ew (sh (h[0]'hs).toNat) h=true->∃p,(sh (h[0]'hs).toNat)[aZ (sh (h[0]'hs).toNat) h]? =some p/\(p.1.toList == h.toList)=true):=uw;have A1:=aa SH;have A8:(h.size:Int)=32:=by omega
 have A9:(0:Int)<(h.size:Int):=by omega
 clear S SH hd A4 h32;generalize ew (sh (h[0]'hs).toNat) h=hit at*;generalize aZ (sh (h[0]'hs).toNat) h=k at*;generalize hcc:(h[0]'hs).toNat=c at*;have A5:(c:Int)<256:=by omega
 go_enter func118,ntmps118
 go_wp2_with fail
 apply A0.m;rintro e w1⟨rfl,n1,rfl⟩;cases hit
 .clear A0;go_wp2;go_ret2;exact⟨rfl,n1,rfl⟩
 obtain⟨p,hp,_⟩:=A3.o rfl;have A7:=(Ux.1 hp).1;obtain⟨g,rfl,c1,c2⟩:=A1.o.at_ k p hp;have d0:(w.drewN n1).cell? ⟨b,c,none⟩=_:=A1.o.cell;have d2:yc (w.drewN n1) g (k*2+1) (sV p.2):=c2;have HP:=aa hp;have A6:(k:Int)<((sh c).length:Int):=by omega
 have A2:yH (∃n,(w.drewN n1).drew=w.drewN n):=⟨n1+1,rfl⟩
 clear hp c1 c2;generalize (sh c).length=M at*;generalize w.drewN n1=w1 at*;go_wp2;go_region
 all_goals
  go_wp2;go_ret2;exact⟨⟨p.1,p.2,HP.o,rfl⟩,A2.o⟩
def OA(w:World)(b:Nat)(h:yB)(hs:h.size≠32):yC 40 #[pV (qA b),sV h] w λe w'=>e=rV (i6 2)/\w'=w:=by
 have a:¬(h.size:Int)=32:=by omega
 clear hs;go_enter func40,ntmps40
 go_wp2;go_ret;exact⟨rfl,rfl⟩
def aU.Pg{T}(w)(n:Nat):aU T w (w.drewN n):=⟨rfl,rfl,rfl,Ug _,λ_ _ _=>rfl⟩
def OB(base:Nat)(w)(b:Nat)(f)(d:Nat->List (yB×yB))(S:bZ base w b f d)(h:yB)(h32:h.size=32)(hs:0<h.size)(l:qV (d (h[0]'hs).toNat) h)(x:(d (h[0]'hs).toNat).length<4000000000000):yC 40 #[pV (qA b),sV h] w λe w'=>
  (ew (d (h[0]'hs).toNat) h=false/\e=rV (i6 9)/\∃n,w'=w.drewN n)\/(ew (d (h[0]'hs).toNat) h=true/\e=rV (i6 0)/\
   (∃v',bZ base w' b (bd f (h[0]'hs).toNat v') (aP d (h[0]'hs).toNat ((d (h[0]'hs).toNat).eraseIdx (aZ (d (h[0]'hs).toNat) h)))/\v'.ownBlock=(f (h[0]'hs).toNat).ownBlock)/\aU (λk=>k=b\/(f (h[0]'hs).toNat).ownBlock=some k) w w'):=by
 have j:(h[0]'hs).toNat<256:=(h[0]'hs).toNat_lt;obtain⟨a,cap,y,i⟩:=S.lK _ j;have g:=aa (yV w b h hs a cap _ i l (by omega));have r:yH (ew (d (h[0]'hs).toNat) h=true->aZ (d (h[0]'hs).toNat) h<(d (h[0]'hs).toNat).length):=He;have s:=aa S;have A:(h.size:Int)=32:=by omega
 have B:(0:Int)<(h.size:Int):=by omega
 clear S i l y h32;generalize ew (d (h[0]'hs).toNat) h=hit at*;generalize aZ (d (h[0]'hs).toNat) h=k at*;generalize hcc:(h[0]'hs).toNat=c at*;have z:(c:Int)<256:=by omega
 go_enter func40,ntmps40
 go_wp2_with fail
 apply g.m;rintro e w1⟨rfl,n1,rfl⟩;cases hit
 .clear g;go_wp2;go_ret;exact⟨rfl,n1,rfl⟩
 have v:=r.o rfl;have t:yH (yC 83 #[pV (qA b),iV .u8 c,i6 k] (w.drewN n1) λe w'=>e=rV (tV #[])/\(∃v',bZ base w' b (bd f c v') (aP d c ((d c).eraseIdx k))/\v'.ownBlock=(f c).ownBlock)/\aU (λq=>q=b\/(f c).ownBlock=some q) (w.drewN n1) w'):=LJ base (w.drewN n1) b f d (s.o.same (w':=w.drewN n1) rfl) c k j v x;have u:yH (aU (λq=>q=b\/(f c).ownBlock=some q) w (w.drewN n1)):=aU.Pg w n1;generalize w.drewN n1=w1 at*;go_wp2_with fail
 apply t.m;rintro e w2⟨rfl,m,o⟩;have p:yH ((∃v',bZ base w2 b (bd f c v') (aP d c ((d c).eraseIdx k))/\v'.ownBlock=(f c).ownBlock)/\aU (λq=>q=b\/(f c).ownBlock=some q) w w2):=⟨m,u.o.trans o⟩
 clear m o;go_wp2;go_ret;exact⟨rfl,p.o⟩
def OE(base:Nat)(w)(b:Nat)(a)(d:Nat->List (yB×yB))(S:bZ base w b a d)(h t:yB)(h32:h.size=32)(hs:0<h.size)(p:t.size<=4096)(f:qV (d (h[0]'hs).toNat) h)(g:(d (h[0]'hs).toNat).length<4000000000000)(n:base<=w.heap.size):yC 41 #[pV (qA b),sV h,sV t] w λe w'=>e=rV (i6 0)/\
  (∃v',bZ base w' b (bd a (h[0]'hs).toNat v') (aP d (h[0]'hs).toNat (kh (d (h[0]'hs).toNat) h t))/\jY w (a (h[0]'hs).toNat) v')/\aU (λk=>k=b\/(a (h[0]'hs).toNat).ownBlock=some k) w w':=by
 have m:yH (yC 84 #[pV (qA b),sV h,sV t] w λe w'=>e=rV (tV #[])/\
  (∃v',bZ base w' b (bd a (h[0]'hs).toNat v') (aP d (h[0]'hs).toNat (kh (d (h[0]'hs).toNat) h t))/\jY w (a (h[0]'hs).toNat) v')/\aU (λk=>k=b\/(a (h[0]'hs).toNat).ownBlock=some k) w w'):=Ea base w b a d S h t hs f g n
 have o:(h.size:Int)=32:=by omega
 have q:¬(4096:Int)<(t.size:Int):=by omega
 clear S f g h32;generalize (h[0]'hs).toNat=c at*;go_enter func41,ntmps41
 go_wp2_with fail
 apply m.m;rintro e w1⟨rfl,i,j⟩;have l:yH ((∃v',bZ base w1 b (bd a c v') (aP d c (kh (d c) h t))/\jY w (a c) v')/\aU (λk=>k=b\/(a c).ownBlock=some k) w w1):=⟨i,j⟩
 clear i j;go_wp2;go_ret;exact⟨rfl,l.o⟩
def OD(w:World)(b:Nat)(h t:yB)(hs:h.size≠32):yC 41 #[pV (qA b),sV h,sV t] w λe w'=>e=rV (i6 2)/\w'=w:=by
 have a:¬(h.size:Int)=32:=by omega
 clear hs;go_enter func41,ntmps41
 go_wp2;go_ret;exact⟨rfl,rfl⟩
def OC(w:World)(b:Nat)(h t:yB)(hs:h.size=32)(c:4096<t.size):yC 41 #[pV (qA b),sV h,sV t] w λe w'=>e=rV (i6 1)/\w'=w:=by
 have a:(h.size:Int)=32:=by omega
 have d:(4096:Int)<(t.size:Int):=by omega
 clear hs;go_enter func41,ntmps41
 go_wp2;go_ret;exact⟨rfl,rfl⟩
def bZ.below{base w w' b e d}(S:bZ base w b e d)(h:yW w w'):bZ base w' b e d:=
 ⟨(h.block b (Um.1 S.ai).1).trans S.ai,λc a=>cM (S.own c a) λg f=>h.block g ((S.own c a).lt g f).2,S.sep,S.fL⟩
def aU.iP{T}{w w':World}(h:yW w w'):aU T w w':=⟨h.os,h.tape,h.output,h.size,λq a _=>h.block q a⟩
def Ro(t):(ag t).size=32:=dz _
def jS(t):0<(ag t).size:=by rw[Ro];decide
def Ox(w:World)(b:Nat)(t:yB)(a:4096<t.size):yC 116 #[pV (qA b),sV t] w λe w'=>e=rV (tV #[sV ⟨#[]⟩,i6 1])/\w'=w:=by
 have c:(4096:Int)<(t.size:Int):=by omega
 go_enter func116,ntmps116
 go_wp2;go_ret2;exact⟨rfl,rfl⟩
def Oy(base:Nat)(w)(b:Nat)(a)(d:Nat->List (yB×yB))(S:bZ base w b a d)(T:aB w)(t:yB)(v:t.size<=4096)(j:qV (d ((ag t)[0]'(jS t)).toNat) (ag t))(l:(d ((ag t)[0]'(jS t)).toNat).length<4000000000000)(s:base<=w.heap.size):yC 116 #[pV (qA b),sV t] w λe w'=>e=rV (tV #[sV (ag t),i6 0])/\
  (∃v',bZ base w' b (bd a ((ag t)[0]'(jS t)).toNat v') (aP d ((ag t)[0]'(jS t)).toNat (kh (d ((ag t)[0]'(jS t)).toNat) (ag t) t))/\jY w (a ((ag t)[0]'(jS t)).toNat) v')/\aU (λk=>k=b\/(a ((ag t)[0]'(jS t)).toNat).ownBlock=some k) w w':=by
 have p:=aa (ja t (by unfold maxLen;omega) w T);have q:yH (∀W,yW w W->yC 84 #[pV (qA b),sV (ag t),sV t] W λe w'=>e=rV (tV #[])/\
  (∃v',bZ base w' b (bd a ((ag t)[0]'(jS t)).toNat v') (aP d ((ag t)[0]'(jS t)).toNat (kh (d ((ag t)[0]'(jS t)).toNat) (ag t) t))/\jY w (a ((ag t)[0]'(jS t)).toNat) v')/\aU (λk=>k=b\/(a ((ag t)[0]'(jS t)).toNat).ownBlock=some k) w w'):=λW f=>
  (Ea base W b a d (S.below f) (ag t) t (jS t) j l (Ut s f.size)).mono λe w'⟨h1,⟨v',h2,h4⟩,h3⟩=>⟨h1,⟨v',h2,λg u=>(h4 g u).imp id (Ut f.size)⟩,(aU.iP f).trans h3⟩
 have x:¬(4096:Int)<(t.size:Int):=by omega
 clear S j l T;generalize ((ag t)[0]'(jS t)).toNat=c at*;generalize ag t=hh at*;go_enter func116,ntmps116
 go_wp2_with fail
 apply p.m;rintro e w1⟨rfl,h⟩;have i:=q.o w1 h;have r:=aa i;clear h i;go_wp2_with fail
 apply r.m;rintro e w2⟨rfl,m,n⟩;have o:yH ((∃v',bZ base w2 b (bd a c v') (aP d c (kh (d c) hh t))/\jY w (a c) v')/\aU (λk=>k=b\/(a c).ownBlock=some k) w w2):=⟨m,n⟩
 clear m n;go_wp2;go_ret2;exact⟨rfl,o.o⟩
def ll(a:Nat->List (yB×yB)):Nat->Nat
 | 0=>0
 |c+1=>ll a c+(a c).length
def Ai (sh : Nat → List (ByteArray × ByteArray)) : ∀ c d, c ≤ d → ll sh c ≤ ll sh d
  | c, 0, h => by obtain rfl : c = 0 := by omega
                  exact Nat.le_refl _
  | c, d + 1, h => by
    by_cases e : c = d + 1
    · rw [e]; exact Nat.le_refl _
    · have := Ai sh c d (by omega)
      show _ ≤ ll sh d + (sh d).length
      omega
def Oz(w):yC 9 #[] w λe w'=>e=rV (pV (qA w.heap.size))/\w'=w.alloc (.cells (jj λ_=>lV none 0 0) 71):=by
 go_enter func9,ntmps9
 go_wp2;go_ret;exact⟨rfl,rfl⟩
def dg(a:Nat->List (yB×yB)):Nat->List (yB×yB)
 | 0=>[]
 |c+1=>dg a c++a c
def BH(a:Nat->List (yB×yB)):∀c,(dg a c).length=ll a c
 | 0=>rfl
 |c+1=>by show(dg a c++a c).length=ll a c+_;rw[Uq,BH a c]
def sF.below{w W b c a cap d}(S:sF w b c a cap d)(h:yW w W):sF W b c a cap d:=
 ⟨eg h S.cell,λk p f=>by let⟨g,e,c1,c2⟩:=S.at_ k p f;exact⟨g,e,eg h c1,eg h c2⟩⟩
def OF(base:Nat)(w)(b:Nat)(vs)(d:Nat->List (yB×yB))(S:bZ base w b vs d)(D:ll d 256<4000000000000):yC 39 #[pV (qA b)] w λe w'=>(∃v,e=rV v/\w'.ownsRow w.heap.size 9 1 v (ll d 256) (jz (dg d 256)))/\yW w w':=by
 have J:yH (∀c,c<256->∃a cap,(∀W,yW w W->sF W b c a cap (d c))/\ll d c+(d c).length<4000000000000):=λc hc=>by
  obtain⟨a,cap,_,Y⟩:=S.lK c hc;have:=Ai d (c+1) 256 (by omega);exact⟨a,cap,λW h=>Y.below h,Nat.lt_of_le_of_lt this D⟩
 have U:yH (∀c j p,(d c)[j]? =some p->jz (dg d c++(d c).take (j+1))=jz (dg d c++(d c).take j)++[sV p.1]):=λc j p o=>by
  rw[VF,o];show List.map _ (dg d c++((d c).take j++[p]))=_;rw[<-UI,Vl];rfl
 have X:yH (∀c,jz (dg d c++(d c).take 0)=jz (dg d c)):=λc=>by rw[List.take_zero,UU]
 have L:yH (∀c,jz (dg d c++(d c).take (d c).length)=jz (dg d (c+1))):=λc=>by rw[VM];rfl
 obtain⟨i0,A1,A5,A6,A7⟩:=Vp Q3;clear S D;go_enter func39,ntmps39
 go_wp2;go_loopg [3,4] 256 (λg v r wr=>∃i n:Nat,g=256 - i/\i<=256/\r=i6 i/\yH (n=ll d i)/\yH (wr.ownsRow w.heap.size 9 1 v n (jz (dg d i)))/\yH (yW w wr))
 .exact⟨0,0,rfl,by omega,rfl,rfl,U8 _ _ _ _,Un _ _⟩
 obtain⟨i,n,l,hi,rfl,q,s,y⟩:=hrel;have O:=aa l;clear l;by_cases A3:i<256
 .obtain⟨a,cap,x,C⟩:=J.o i A3;have A9:n+(d i).length<4000000000000:=by rw[q.o];exact C
  have R:yH (n+(d i).length=ll d (i+1)):=by show _=_;rw[q.o];rfl
  have z:=X.o i;rw[<-z] at s;have N:=aa (L.o i);have K:yH (∀W,yW w W->yc W b i (lV a (d i).length cap)):=λW h=>(x W h).cell
  have Q:yH (∀j,j<(d i).length->∃p g,(a=some ⟨g,0,none⟩/\∀W,yW w W->yc W g (j*2) (sV p))/\jz (dg d i++(d i).take (j+1))=jz (dg d i++(d i).take j)++[sV p]):=λj t=>by
   have o:(d i)[j]? =some ((d i)[j]'t):=Uh t;obtain⟨g,e,c1,_⟩:=(x w (Un _ _)).at_ j _ o;exact⟨_,g,⟨e,λW h=>eg h c1⟩,U.o i j _ o⟩
  have A8:(i:Int)<256:=by omega
  clear x C z;generalize (d i).length=M at*;go_wp2;go_loopg [3,5] M (λg v r H=>∃j:Nat,g=M - j/\j<=M/\r=i6 j/\yH (H.ownsRow w.heap.size 9 1 v (n+j) (jz (dg d i++(d i).take j)))/\yH (yW w H))
  .exact⟨0,rfl,by omega,rfl,s,y⟩
  obtain⟨j,l,t,rfl,m,f⟩:=hrel;have P:=aa l;have d0:=K.o wr f.o;clear l;by_cases u:j<M
  .obtain⟨p,g,⟨rfl,A⟩,F⟩:=Q.o j u;have r1:=A wr f.o;have A2:(j:Int)<(M:Int):=by omega
   have A4:=f.o.size;have V:=aa F;clear F A;go_wp2_with (at_builtin;refine U0 _ rfl (.tmp 21) (.tmp 32) 63 rfl w.heap.size 9 i0 (sV ⟨#[]⟩) 1 16 underlying63 A1 A5 A6 A7 rfl (by decide) _ (n+j) (jz (dg d i++(d i).take j)) rfl (m.o.alloc _) ⟨wr.heap.size,0,none⟩ 1 1 [sV p] rfl rfl (Vx _ _ _) ?c2 (by omega) ?c3 ?c4 ?c5 _ rfl ?c6)
   case c2=>intro v G;simp at G;subst G;rfl
   case c3=>unfold maxLen;omega
   case c4=>omega
   case c5=>simp;omega
   intro g2 Z w2 E B A0 u;have T:yH (w2.ownsRow w.heap.size 9 1 (lV (qA g2) (n+j+1) Z) (n+(j+1)) (jz (dg d i++(d i).take (j+1)))):=by
    show World.ownsRow _ _ _ _ _ _ _;rw[V.o];exact E
   have I:yH (yW w w2):=(f.o.alloc A4 _).grown B (by simp;omega) (λk hk=>(m.o.lt k hk).1);clear E B A0 u;go_wp2;go_roundg (M - (j+1))
   .exact⟨j+1,rfl,by omega,by go_num,T,I⟩
   have:=P.o;omega
  obtain rfl:j=M:=by omega
  have A2:¬(j:Int)<(j:Int):=by omega
  rw[N.o] at m;go_wp2;go_roundg (256 - (i+1))
  .exact⟨i+1,n+j,rfl,by omega,by go_num,R,m,f⟩
  have:=O.o;omega
 obtain rfl:i=256:=by omega
 go_wp2;go_ret;exact⟨⟨_,rfl,by rw[<-q.o];exact s.o⟩,y.o⟩
end Go.Proofs.YteaodagofkcgbaaGreatDoor
