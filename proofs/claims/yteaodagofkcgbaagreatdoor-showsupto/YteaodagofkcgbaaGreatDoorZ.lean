import Derived.Test.YteaodagofkcgbaaGreatDoorX
import Derived.Test.YteaodagofkcgbaaGreatDoorY
open Go.Proofs.Tryz
open Go.Proofs.Tryz renaming prog→yP
open Go.Value renaming string→sV,pointer→pV,int→iV,slice→lV,bool→bV,tuple→tV,agg→gV
open Go.Ending renaming returned→rV
namespace Go.Proofs.YteaodagofkcgbaaGreatDoor
open Go.RowKit
set_option maxRecDepth 100000
set_option maxHeartbeats 0
set_option linter.all false
def Dp:∀(A:List Nat),dy (λ_=>1) A=A.length
 | []=>rfl
 |a::r=>by show 1+dy _ r=_;rw[Dp r,UJ];omega
def tv{f g}(h:∀x,f x<=g x):∀(A:List Nat),dy f A<=dy g A
 | []=>Ug _
 |a::r=>by have:=tv h r;have:=h a;show f a+_<=g a+_;omega
def jX.sd{l w y sb z D A d p q}(h:jX l w y sb z D A d p q)(v)(c:Nat)(f:c<256):(d c).length<=dy (gg v p) D:=by
 have h1:((d c).map mg).Nodup:=by
  rw[List.Nodup,List.pairwise_iff_getElem];intro i j hi k B e;rw[UM] at hi k;rw[List.getElem_map,List.getElem_map] at e;have m:(d c)[i]? =some ((d c)[i]'hi):=Uh hi;have n:(d c)[j]? =some ((d c)[j]'k):=Uh k;let⟨a,g,_⟩:=h.ie c i _ f m;let⟨b,o,_⟩:=h.ie c j _ f n;have:a=b:=by unfold mg at e;rwa[g,o] at e
  have:=(h.gI c i c j _ _ f f m n (by rw[g,o,this])).2;omega
 have h2:∀x∈(d c).map mg,x∈D:=λx u=>by
  obtain⟨e,s,rfl⟩:=UO.1 u;let⟨i,hi,t⟩:=List.mem_iff_getElem.1 s;let⟨a,g,r⟩:=h.ie c i e f (by rw[Uh hi,t]);unfold mg;rwa[g]
 have h3:=yI (λ_=>1) h1 h2;rw[Dp,UM] at h3;exact Ut h3 (tv (λx=>by unfold gg;omega) D)
def BA{w W:World}(h1:W.heap=w.heap)(h2:W.os=w.os)(h3:W.tape=w.tape)(h4:W.output=w.output):yW w W:=⟨h2,h3,h4,by rw[h1];exact Ug _,λk _=>by rw[h1]⟩
def jF(X:Gh)(b:yB)(x:List (yB×yB))(a:Nat)(c:Gh):Prop:=(X.o b=some a/\c=X)\/(X.o b=none/\c=⟨aE X.g a x,λy=>if y=b then some a else X.o y⟩/\∀h,X.o h≠some a)
def T3(l:Nat->Nat)(w:World)(a sb d:Nat)(D:List Nat)(N:Nat)(e:Nat->Value)(b:List (yB×yB))(k:Kn)(P:GP)(K c:Nat)(w':World):Prop:=∃l' D',Mv (Of a) l l' w w'/\(∀x∈D,x∈D')/\c∈D'/\SX l' w' a sb d D' (N+K) e b k P
def qv{L:List bH}{k i x e}(a:k<=L.length)(h:(L.take k++[x]++L.drop k)[i]? =some e):(i=k/\e=x)\/(i<k/\L[i]? =some e)\/(k<i/\L[i - 1]? =some e):=by
 have h1:(L.take k).length=k:=by rw[UN];omega
 rcases Nat.lt_trichotomy i k with hi|hi|hi
 .refine .inr (.inl ⟨hi,?_⟩);rwa[UI,UW (by omega),Vv,Uj hi] at h
 .refine .inl ⟨hi,?_⟩;rw[UI,Vf (by omega),h1,hi,Nat.sub_self] at h;exact(Option.some.inj h).symm
 refine .inr (.inr ⟨hi,?_⟩);rw[Vf (by rw[Uq,h1];simp;omega),Uq,h1,VE] at h;rw[show i - 1=k+(i - (k+ [x].length)) by simp;omega];exact h
def SX.slotsOf{l w C sb tw D N us H k X}(h:SX l w C sb tw D N us H k (aj X))(n E:yB)(hs:0<n.size)(hr:E.size=32)(hN:N<4000000000)(x)(t:k.ok->X.o n=none->dI H k.B (bP E.data.toList) x):yC 95 #[pV (qA C),sV n,sV E] w λe w'=>∃b X',e=rV (pV (qA b))/\jF X n x b X'/\b≠tw/\T3 l w C sb tw D N us H k (aj X') 1 b w':=by
 obtain⟨vs,K,tr,Ss,X,i,B2,M,rfl⟩:=h.st;have h3:=h.bz.size;have O:(n[0]'hs).toNat<256:=(n[0]'hs).toNat_lt;have B1:=i.sd H _ O;have A8:ae E.data.toList=E:=by unfold ae;simp
 have A4:E.data.toList.length=32:=by rw[<-hr];simp
 refine(Mf (λb w1=>∃u,w.heap.size<=b/\fF w1 b (qA sb) u/\At w1 (bP E.data.toList) (λx=>w.heap.size<=x/\x≠b) (pV u)) w C sb tw vs K i.ai n E hs (by omega) (by omega) (λW e1 e2 e3 e4=>?_)).mono ?_
 .have hW:=BA e1 e2 e3 e4;have:=sL W (qA sb) E.data.toList A4 (h.bz.below hW);rw[A8,e1] at this;apply this.mono;rintro e w'⟨b,u,v,h1,h2,h3,h4⟩;exact⟨b,v,⟨u,h1,h2,h3⟩,hW.trans h4⟩
 rintro e w' (⟨Y,p,q,hp,rfl,e1,e2,e3,e4⟩|⟨Y,b,v',w1,rfl,⟨u,k1,k2,k3⟩,I,S,hS,A6⟩)
 .let⟨b,ht,G⟩:=i.ie _ _ _ O hp;cases ht;have I:=BA e1 e2 e3 e4;exact⟨b,X,rfl,.inl ⟨by rw[M.o,oX _ hs,Pc (M.fB _ O) Y hp];rfl,rfl⟩,M.tw _ _ _ O hp,_,D,(Mv.below (λ_=>False) l I).mono λ_ t=>t.elim,λ_ t=>t,G,(h.below I).more 1⟩
 have hX:X.o n=none:=by rw[M.o,oX _ hs,Pa (M.fB _ O) Y]
 have A3:∀d,d∈D->d≠b:=λd G e=>by subst e;have:=(i.gy d G).tr.lt;omega
 refine⟨b,_,rfl,.inr ⟨hX,rfl,λh' T=>?_⟩,(A3 _ i.dJ).symm,?_⟩
 .rw[M.o] at T;unfold nU at T;split at T
  .next h0=>
   let⟨j,e0,a1,_,a3⟩:=zG T;let⟨t0,b1,b2⟩:=i.ie _ j e0 (h'[0]'h0).toNat_lt a1;unfold mg at a3;rw[b1] at a3;exact A3 _ b2 a3
  cases T
 have B3:=I.size;have B4:=S.size;have A5:b<w1.heap.size:=k2.lt;have Z:∀g,(vs (n[0]'hs).toNat).ownBlock=some g->g<w.heap.size/\l g=pr C 0:=λg J=>⟨((i.ai.own _ O).lt g J).2,i.jB _ g O J⟩
 have A9:=i.ai.lt;obtain⟨l',A0⟩:∃l':Nat->Nat,l'=λk=>if k<w.heap.size then l k else if k<w1.heap.size then pr C (b+1) else pr C 0:=⟨_,rfl⟩
 have lo:∀k,k<w.heap.size->l' k=l k:=λk U=>by rw[A0];simp[U]
 have l1:∀k,w.heap.size<=k->k<w1.heap.size->l' k=pr C (b+1):=λk h1 h2=>by rw[A0];simp[VK.2 h1,h2]
 have l2:∀k,w1.heap.size<=k->l' k=pr C 0:=λk h1=>by rw[A0];simp[VK.2 h1,show ¬k<w.heap.size by omega]
 have B0:∀k,k<w.heap.size->¬(k=C\/(vs (n[0]'hs).toNat).ownBlock=some k)->w'.heap[k]? =w.heap[k]? :=λk U hn=>(S.block k (by omega) hn).trans (I.block k U)
 have m:Mv (λx=>x=pr C 0) l l' w w':=⟨S.os.trans I.os,S.tape.trans I.tape,S.output.trans I.output,by omega,lo,λk U hn=>B0 k U λP=>hn (by rcases P with rfl|P;exact i.jA;exact(Z k P).2)⟩
 have mo:Mv (Of C) l l' w w':=m.mono λx t=>⟨0,t⟩
 have A2:∀x,w.heap.size<=x->x<w1.heap.size->w'.heap[x]? =w1.heap[x]? :=λx h1 h2=>S.block x h2 λP=>by
  rcases P with rfl|P
  .omega
  have:=(Z x P).1;omega
 have A7:eX w' b (qA sb) (λx=>(w.heap.size<=x/\x≠b)/\x<w1.heap.size) (bP E.data.toList):=
  ⟨⟨u,k2.kept (A2 b k1 A5),k3.cut.kept λx t _=>A2 x t.1.1 t.2⟩,qZ A4,λx t=>⟨by omega,t.1.2,by omega⟩⟩
 have A1:b∉D:=λG=>by have:=(i.gy b G).tr.lt;omega
 have V:∀d,d∈D->d≠b:=λd G e=>A1 (e▸G)
 refine⟨l',b::D,mo,λx t=>Ul _ t,Uk ..,?_⟩;let⟨r1,r2,r3,r4⟩:=h.rest mo (mr C) (lN h.ne);have Q:=zx (K (n[0]'hs).toNat) n;refine⟨⟨bd vs (n[0]'hs).toNat v',aS K (n[0]'hs).toNat ((K (n[0]'hs).toNat).take (dt (K (n[0]'hs).toNat) n)++[(n,some ⟨b,0,none⟩)]++(K (n[0]'hs).toNat).drop (dt (K (n[0]'hs).toNat) n)),aE tr b (bP E.data.toList),aE Ss b (λx=>(w.heap.size<=x/\x≠b)/\x<w1.heap.size),_,?_,?_,M.opens hs Y V (V _ i.dJ).symm _ x (λok=>t ok hX),rfl⟩,r1,r2,r3,r4,h.ne⟩
 .refine
   {ai:=hS
    jA:=(lo C A9).trans i.jA
    jB:=λc g s J=>?_
    ie:=λc k e s v=>?_
    gI:=λc k d j e f s R v z y=>?_
    dJ:=Ul _ i.dJ
    lO:=List.nodup_cons.2 ⟨A1,i.lO⟩
    gy:=λx t=>?_}
  .by_cases F:c=(n[0]'hs).toNat
   .subst F;simp only[bd,U5] at J;rcases A6 g J with h1|h1
    .rw[lo g (Z g h1).1];exact(Z g h1).2
    exact l2 g h1
   simp only[bd,F,UT] at J;rw[lo g ((i.ai.own c s).lt g J).2];exact i.jB c g s J
  .by_cases F:c=(n[0]'hs).toNat
   .subst F;simp only[aS,U5] at v;rcases qv Q v with⟨_,rfl⟩|⟨_,h1⟩|⟨_,h1⟩
    .exact⟨b,rfl,Uk ..⟩
    .let⟨t0,e0,d0⟩:=i.ie _ _ _ s h1;exact⟨t0,e0,Ul _ d0⟩
    let⟨t0,e0,d0⟩:=i.ie _ _ _ s h1;exact⟨t0,e0,Ul _ d0⟩
   simp only[aS,F,UT] at v;let⟨t0,e0,d0⟩:=i.ie _ _ _ s v;exact⟨t0,e0,Ul _ d0⟩
  .have key:∀(d j:Nat) (f:bH),d<256->(K d)[j]? =some f->f.2≠some ⟨b,0,none⟩:=λd j f G z e0=>by
    let⟨t0,e1,d0⟩:=i.ie d j f G z;rw[e0] at e1;cases e1;exact A1 d0
   by_cases F:c=(n[0]'hs).toNat
   .by_cases L:d=(n[0]'hs).toNat
    .subst F;subst L;simp only[aS,U5] at v z;refine⟨rfl,?_⟩;rcases qv Q v with⟨a1,rfl⟩|⟨a1,a2⟩|⟨a1,a2⟩
     .rcases qv Q z with⟨b1,rfl⟩|⟨b1,b2⟩|⟨b1,b2⟩
      .omega
      .exact absurd y.symm (key _ _ _ s b2)
      exact absurd y.symm (key _ _ _ s b2)
     .rcases qv Q z with⟨b1,rfl⟩|⟨b1,b2⟩|⟨b1,b2⟩
      .exact absurd y (key _ _ _ s a2)
      .exact(i.gI _ _ _ _ _ _ s s a2 b2 y).2
      have:=(i.gI _ _ _ _ _ _ s s a2 b2 y).2;omega
     rcases qv Q z with⟨b1,rfl⟩|⟨b1,b2⟩|⟨b1,b2⟩
     .exact absurd y (key _ _ _ s a2)
     .have:=(i.gI _ _ _ _ _ _ s s a2 b2 y).2;omega
     have:=(i.gI _ _ _ _ _ _ s s a2 b2 y).2;omega
    subst F;simp only[aS,U5] at v;simp only[aS,L,UT] at z;rcases qv Q v with⟨a1,rfl⟩|⟨a1,a2⟩|⟨a1,a2⟩
    .exact absurd y.symm (key _ _ _ R z)
    .exact absurd (i.gI _ _ _ _ _ _ s R a2 z y).1.symm L
    exact absurd (i.gI _ _ _ _ _ _ s R a2 z y).1.symm L
   by_cases L:d=(n[0]'hs).toNat
   .subst L;simp only[aS,U5] at z;simp only[aS,F,UT] at v;rcases qv Q z with⟨a1,rfl⟩|⟨a1,a2⟩|⟨a1,a2⟩
    .exact absurd y (key _ _ _ s v)
    .exact absurd (i.gI _ _ _ _ _ _ s R v a2 y).1 F
    exact absurd (i.gI _ _ _ _ _ _ s R v a2 y).1 F
   simp only[aS,F,L,UT] at v z;exact i.gI _ _ _ _ _ _ s R v z y
  rcases UC.1 t with rfl|t
  .rw[cF,cF];exact⟨A7,by unfold bP;split<;>trivial,l1 _ k1 A5,λx t=>l1 x t.1.1 t.2⟩
  rw[cl _ _ (V x t),cl _ _ (V x t)];exact(i.gy x t).move m λe=>by have:=(fS e).2;omega
 show gg H _ b+dy _ D<=_;have e1:gg H (aE tr b (bP E.data.toList)) b=1:=by unfold gg;rw[cF,zM]
 have e2:∀(A:List Nat),(∀d∈A,d≠b)->dy (gg H (aE tr b (bP E.data.toList))) A=dy (gg H tr) A:=by
  intro A hA;induction A with
  |nil=>rfl
  |cons a r ih=>show gg H _ a+_=gg H _ a+_;rw[ih λd G=>hA d (Ul _ G)];unfold gg;rw[cl _ _ (hA a (Uk ..))]
 rw[e1,e2 D V];omega
def RQ{L:List bH}{k i e}(h:(L.eraseIdx k)[i]? =some e):∃j,L[j]? =some e/\j=if i<k then i else i+1:=by
 rw[List.getElem?_eraseIdx] at h;by_cases hi:i<k
 .rw[Uj hi] at h;exact⟨i,h,by rw[Uj hi]⟩
 rw[Ui hi] at h;exact⟨i+1,h,by rw[Ui hi]⟩
def uO{L h i e}(a:(mL L h)[i]? =some e):∃j,L[j]? =some e/\j=if fV L h=true/\dt L h<=i then i+1 else i:=by
 unfold mL at a;by_cases b:fV L h=true
 .rw[Uj b] at a;let⟨j,h1,h2⟩:=RQ a;refine⟨j,h1,h2.trans ?_⟩;by_cases hi:i<dt L h
  .rw[Uj hi,Ui (by omega)]
  rw[Ui hi,Uj ⟨b,by omega⟩]
 rw[Ui b] at a;exact⟨i,a,by rw[Ui (λc=>b c.1)]⟩
def SX.Bu{l w t sb G D N K F k X}(h:SX l w t sb G D N K F k (aj X))(a:yB)(hs:0<a.size)(V:N<4000000000):yC 130 #[pV (qA t),sV a] w λe w'=>e=rV (tV #[])/\oF l w t sb G D N K F k (aj ⟨X.g,λy=>if y=a then none else X.o y⟩) 0 w':=by
 obtain⟨H,B,T,L,X,b,R,M,rfl⟩:=h.st;have C:(a[0]'hs).toNat<256:=(a[0]'hs).toNat_lt;have W:=b.sd F _ C;refine(SN w t sb G H B b.ai a hs (by omega)).mono ?_;rintro e w'⟨i,⟨U,O,S⟩,z⟩;refine⟨i,?_⟩;have I:∀g,(H (a[0]'hs).toNat).ownBlock=some g->g<w.heap.size/\l g=pr t 0:=λg s=>⟨((b.ai.own _ C).lt g s).2,b.jB _ g C s⟩
 have m:Mv (λx=>x=pr t 0) l l w w':=⟨z.os,z.tape,z.output,z.size,λ_ _=>rfl,λk P Q=>z.block k P λu=>Q (by rcases u with rfl|u;exact b.jA;exact(I k u).2)⟩
 have J:Mv (Of t) l l w w':=m.mono λx q=>⟨0,q⟩
 let⟨r1,r2,r3,r4⟩:=h.rest J (mr t) (lN h.ne);refine⟨l,D,J,λ_ q=>q,⟨⟨bd H (a[0]'hs).toNat U,aS B (a[0]'hs).toNat (mL (B (a[0]'hs).toNat) a),T,L,_,?_,R,M.SJ hs,rfl⟩,r1,r2,r3,r4,h.ne⟩⟩;exact
  {ai:=O
   jA:=b.jA
   jB:=λc g p s=>by
    by_cases n:c=(a[0]'hs).toNat
    .subst n;simp only[bd,U5] at s;rw[S] at s;exact(I g s).2
    simp only[bd,n,UT] at s;exact b.jB c g p s
   ie:=λc k e p i=>by
    by_cases n:c=(a[0]'hs).toNat
    .subst n;simp only[aS,U5] at i;let⟨j,h1,_⟩:=uO i;exact b.ie _ _ _ p h1
    simp only[aS,n,UT] at i;exact b.ie _ _ _ p i
   gI:=λc k d j e f p E i r A=>by
    by_cases n:c=(a[0]'hs).toNat
    .by_cases v:d=(a[0]'hs).toNat
     .subst n;subst v;simp only[aS,U5] at i r;let⟨i1,a1,b1⟩:=uO i;let⟨i2,a2,b2⟩:=uO r;have:=(b.gI _ _ _ _ _ _ p p a1 a2 A).2;refine⟨rfl,?_⟩;rw[b1,b2] at this;by_cases u:fV (B (a[0]'hs).toNat) a=true
      .simp only[u,true_and] at this;split at this<;>split at this<;>omega
      rwa[Ui (λq=>u q.1),Ui (λq=>u q.1)] at this
     subst n;simp only[aS,U5] at i;simp only[aS,v,UT] at r;let⟨i1,a1,b1⟩:=uO i;exact absurd (b.gI _ _ _ _ _ _ p E a1 r A).1.symm v
    by_cases v:d=(a[0]'hs).toNat
    .subst v;simp only[aS,U5] at r;simp only[aS,n,UT] at i;let⟨i1,a1,b1⟩:=uO r;exact absurd (b.gI _ _ _ _ _ _ p E i a1 A).1 n
    simp only[aS,n,v,UT] at i r;exact b.gI _ _ _ _ _ _ p E i r A
   dJ:=b.dJ
   lO:=b.lO
   gy:=λx q=>(b.gy x q).move m λe=>by have:=(fS e).2;omega}
structure fm where
 l:Nat->Nat
 w:World
 sp:Nat
 sb:Nat
 tw:Nat
 D:List Nat
 N:Nat
 us:Nat->Value
 ps:List (yB×yB)
 k:Kn
def nD(A:fm):Nat:=pr (A.sp+A.sb+1) 7
def Js(A:fm):¬Of A.sp (nD A):=lN (by omega)
def SC(A:fm)(P:GP)(K:Nat)(c:List Nat)(a:List (Nat×Obj))(w:World):Prop:=∃l' D',Mv (Of A.sp) A.l l' A.w w/\(∀x∈A.D,x∈D')/\(∀t∈c,t∈D')/\SX l' w A.sp A.sb A.tw D' (A.N+K) A.us A.ps A.k P/\∀b∈a,w.heap[b.1]? =some b.2/\l' b.1=nD A/\A.w.heap.size<=b.1
def SC.start{l w b sb c D N d a k P}(h:SX l w b sb c D N d a k P):SC ⟨l,w,b,sb,c,D,N,d,a,k⟩ P 0 [] [] w:=
 ⟨l,D,Mv.refl _ _ _,λ_ hx=>hx,λ_ hx=>absurd hx (Vs),h,λ_ hx=>absurd hx (Vs)⟩
def SC.go{A P K d b w}(h:SC A P K d b w):oF A.l A.w A.sp A.sb A.tw A.D A.N A.us A.ps A.k P K w:=by
 let⟨l',a,m,h1,_,c,_⟩:=h;exact⟨l',a,m,h1,c⟩
def SC.bz{A P K c a w}(h:SC A P K c a w):aB w:=by
 let⟨l',d,m,h1,_,b,_⟩:=h;exact b.bz
def SC.size{A P K b a w}(h:SC A P K b a w):A.w.heap.size<=w.heap.size:=by
 let⟨l',c,m,h1,_,d,_⟩:=h;exact m.size
def SC.mono{A P K K' b a w}(h:SC A P K b a w)(e:K<=K'):SC A P K' b a w:=by
 let⟨l',c,m,h1,h2,d,h3⟩:=h;have:=d.more (K' - K);rw[show A.N+K+(K' - K)=A.N+K' by omega] at this;exact⟨l',c,m,h1,h2,this,h3⟩
def SC.drop{A P K d e a c w}(h:SC A P K d a w)(i:∀t∈e,t∈d)(g:∀b∈c,b∈a):SC A P K e c w:=by
 let⟨l',f,m,h1,h2,j,h3⟩:=h;exact⟨l',f,m,h1,λt h=>h2 t (i t h),j,λb h=>h3 b (g b h)⟩
def SC.step{A:fm}{P K c f d w w2 l' a}(m:Mv (Of A.sp) A.l l' A.w w)(h1:∀x∈A.D,x∈a)(h2:∀t∈f,t∈a)(h3:∀b∈d,w.heap[b.1]? =some b.2/\l' b.1=nD A/\A.w.heap.size<=b.1)(i:oF l' w A.sp A.sb A.tw a (A.N+K) A.us A.ps A.k P c w2):SC A P (K+c) f d w2:=by
 let⟨l2,g,m2,d2,o⟩:=i;refine⟨l2,g,m.trans m2,λx n=>d2 x (h1 x n),λt j=>d2 t (h2 t j),by rwa[<-Nat.add_assoc],λb h=>?_⟩;let⟨b1,b2,b3⟩:=h3 b h;have e:b.1<w.heap.size:=(Um.1 b1).1;exact⟨(m2.kept e b2 (Js A)).trans b1,(m2.bt _ e).trans b2,b3⟩
def SC.below{A P K b a w w2}(h:SC A P K b a w)(c:yW w w2):SC A P K b a w2:=by
 let⟨l',e,m,h1,h2,d,h3⟩:=h;exact SC.step m h1 h2 h3 (d.go c 0)
def SC.same{A P K b a}{w w2:World}(h:SC A P K b a w)(e1:w2.heap=w.heap)(e2:w2.os=w.os)(e3:w2.tape=w.tape)(e4:w2.output=w.output):SC A P K b a w2:=h.below (BA e1 e2 e3 e4)
def SC.drew{A P K b a w}(h:SC A P K b a w):SC A P K b a w.drew:=h.same rfl rfl rfl rfl
def SC.box{A P K l f w}(h:SC A P K l f w)(cs:Array Value)(t):SC A P K l ((w.heap.size,.cells cs t (0,0))::f) (w.alloc (.cells cs t)):=by
 have a:yW w (w.alloc (.cells cs t)):=(Un _ _).alloc (Ug _) _;have o:=h.size;let⟨l',n,m,h1,h2,e,h3⟩:=h;let⟨l2,g⟩:=yX (λk=>if k<w.heap.size then l' k else nD A);have lo:∀k,k<w.heap.size->l2 k=l' k:=λk c=>by rw[g];simp[c]
 have p:∀k,w.heap.size<=k->l2 k=nD A:=λk c=>by rw[g];simp[VK.2 c]
 have j:Mv (λ_=>False) l' l2 w (w.alloc (.cells cs t)):=⟨a.os,a.tape,a.output,a.size,lo,λk c _=>a.block k c⟩
 refine⟨l2,n,m.trans (j.mono λ_ e=>e.elim),h1,h2,e.move j id id λ_=>id,λb d=>?_⟩;rcases UC.1 d with rfl|d
 .exact⟨UG w _,p _ (Ug _),o⟩
 let⟨b1,b2,b3⟩:=h3 b d;have i:b.1<w.heap.size:=(Um.1 b1).1;exact⟨(a.block _ i).trans b1,(lo _ i).trans b2,b3⟩
def SC.wrote{A P K i n o g c}{w w2:World}(h:SC A P K i ((n,o)::c) w)(l:∀b∈c,b.1≠n)(e1:w2.os=w.os)(e2:w2.tape=w.tape)(e3:w2.output=w.output)(e4:w2.heap.size=w.heap.size)(e5:∀k,k≠n->w2.heap[k]? =w.heap[k]?)(e6:w2.heap[n]? =some g):SC A P K i ((n,g)::c) w2:=by
 let⟨l',j,m,h1,h2,p,h3⟩:=h;let⟨q1,q2,q3⟩:=h3 (n,o) (Uk ..);have q:Mv (λx=>x=nD A) l' l' w w2:=⟨e1,e2,e3,by omega,λ_ _=>rfl,λk f d=>e5 k λe=>d (by rwa[e])⟩
 have r:=m.size;refine⟨l',j,⟨e1.trans m.os,e2.trans m.tape,e3.trans m.output,by omega,m.bt,λk f d=>(e5 k (by omega)).trans (m.ai k f d)⟩,h1,h2,p.move q (λe=>by have:=iu (A.sp+A.sb+1) 7;unfold nD at e;omega) (λe=>by have:=(fS e).1;omega) (λb e=>by have:=(fS e).1;omega),λb a=>?_⟩;rcases UC.1 a with rfl|a
 .exact⟨e6,q2,q3⟩
 let⟨b1,b2,b3⟩:=h3 b (Ul _ a);exact⟨(e5 _ (l b a)).trans b1,b2,b3⟩
def SC.at_{A P K b n o a w}(h:SC A P K b ((n,o)::a) w):w.heap[n]? =some o:=by
 let⟨l',c,m,h1,h2,d,h3⟩:=h;exact(h3 (n,o) (Uk ..)).1
def SC.cells{A P K d b w}(h:SC A P K d b w):w.cell? ⟨A.sp,0,none⟩=some (pV (qA A.sb))/\w.cell? ⟨A.sp,1,none⟩=some (pV (qA A.tw)):=by
 let⟨l',e,m,h1,h2,c,h3⟩:=h;let⟨j,g,i,f,X,a,_⟩:=c.st;exact⟨by rw[Ur w A.sp 0 _ _ _ a.ai.ai];exact Dx _ _ _,by rw[Ur w A.sp 1 _ _ _ a.ai.ai];exact Dw _ _ _⟩
def SC.ev{A P a K c b w}(h:SC A P K c b w)(e:∀X r,P X r->a X r):SC A a K c b w:=by
 let⟨l',d,m,h1,h2,f,h3⟩:=h;exact⟨l',d,m,h1,h2,f.ev e,h3⟩
def SC.fix{A P K c b w}(h:SC A P K c b w):∃X t,P X t/\SC A (λY s=>Y=X/\ae (bQ s)=ae (bQ t)) K c b w:=by
 let⟨l',d,m,h1,h2,a,h3⟩:=h;let⟨X,r,e,a⟩:=a.fix;exact⟨X,r,e,l',d,m,h1,h2,a,h3⟩
def SC.nB{A P K b a w}(h:SC A P K b a w):∃X r,P X r/\SC A (aj X) K b a w:=by
 let⟨X,r,c,h⟩:=h.fix;exact⟨X,r,c,h.ev λ_ _ h=>h.1⟩
def qT(A:fm)(b:List Nat)(a:Nat):Prop:=a=A.tw\/a∈b
def SC.get{A X K b d w}(h:SC A (aj X) K b d w){a}(l:qT A b a)(key:yB)(q:key.size<=40):yC 36 #[pV (qA a),sV key] w λe w'=>∃(v:yB)(c:Nat),e=rV (tV #[sV v,i6 c])/\v.size<=160/\(A.k.ok->c=0/\v=bD (X.g a) key)/\SC A (aj X) (K+250) b d w':=by
 let⟨l',i,m,h1,h2,f,h3⟩:=h;have n:a∈i:=l.elim (λe=>by rw[e];let⟨_,_,_,_,_,j,_⟩:=f.st;exact j.dJ) (h2 a);refine(f.get n key q).mono ?_;rintro e w'⟨v,c,o,s,r,p⟩;exact⟨v,c,o,s,r,SC.step m h1 h2 h3 p⟩
def SC.put{A X K b d w}(h:SC A (aj X) K b d w){a}(l:qT A b a)(key value:yB)(r:key.size<=40)(h0:0<value.size)(t:value.size<=160):yC 30 #[pV (qA a),sV key,sV value] w λe w'=>∃c:Nat,e=rV (i6 c)/\(A.k.ok->c=0)/\SC A (aj ⟨aE X.g a (aL (X.g a) key value),X.o⟩) (K+250) b d w':=by
 let⟨l',i,m,h1,h2,f,h3⟩:=h;have n:a∈i:=l.elim (λe=>by rw[e];let⟨_,_,_,_,_,j,_⟩:=f.st;exact j.dJ) (h2 a);refine(f.put n key value r h0 t).mono ?_;rintro e w'⟨c,p,s,q⟩;exact⟨c,p,s,SC.step m h1 h2 h3 q⟩
def SC.zf{A X K b d w}(h:SC A (aj X) K b d w){a}(l:qT A b a)(key value:yB)(q:key.size<=40)(h0:0<value.size)(v:value.size<=160):yC 131 #[pV (qA a),sV key,sV value] w λe w'=>∃(r:yB)(c:Nat),e=rV (tV #[sV r,i6 c])/\r.size<=32/\(c=0->r.size=32)/\(A.k.ok->c=0/\r=cY (aL (X.g a) key value))/\SC A (aj X) (K+250) b d w':=by
 let⟨l',i,m,h1,h2,f,h3⟩:=h;have n:a∈i:=l.elim (λe=>by rw[e];let⟨_,_,_,_,_,j,_⟩:=f.st;exact j.dJ) (h2 a);refine(f.zf n key value q h0 v).mono ?_;rintro e w'⟨r,c,o,t,u,s,p⟩;exact⟨r,c,o,t,u,s,SC.step m h1 h2 h3 p⟩
def SC.del{A X K d f w}(h:SC A (aj X) K d f w){a}(n:qT A d a)(key:yB)(s:key.size<=40):yC 34 #[pV (qA a),sV key] w λe w'=>∃(b:Bool)(c:Nat),e=rV (tV #[bV b,i6 c])/\(A.k.ok->c=0)/\SC A (aj ⟨aE X.g a (aL (X.g a) key ⟨#[]⟩),X.o⟩) (K+250) d f w':=by
 let⟨l',j,m,h1,h2,i,h3⟩:=h;have p:a∈j:=n.elim (λe=>by rw[e];let⟨_,_,_,_,_,l,_⟩:=i.st;exact l.dJ) (h2 a);refine(i.del p key s).mono ?_;rintro e w'⟨b,c,q,t,r⟩;exact⟨b,c,q,t,SC.step m h1 h2 h3 r⟩
def SC.root{A P K b c w}(h:SC A P K b c w){a}(l:qT A b a):yC 37 #[pV (qA a)] w λe w'=>∃r:yB,e=rV (sV r)/\r.size=32/\(∃X s,P X s/\(a=A.tw->r=ae (bQ s))/\(A.k.ok->r=cY (X.g a)/\cT (X.g a)))/\SC A P K b c w':=by
 have i:=h;let⟨l',f,m,h1,h2,d,h3⟩:=h;have n:a∈f:=l.elim (λe=>by rw[e];let⟨_,_,_,_,_,j,_⟩:=d.st;exact j.dJ) (h2 a);refine(d.root n).mono ?_;rintro e w'⟨r,X,s,o,q,q1,q2,q3,p⟩;exact⟨r,o,q,⟨X,s,q1,q2,q3⟩,i.below p⟩
def SC.prove{A X K b d w}(h:SC A (aj X) K b d w){a}(l:qT A b a)(key:yB)(q:key.size<=40):yC 44 #[pV (qA a),sV key] w λe w'=>∃(v:Value)(c:Nat)(cs:List yB)(w1:World),e=rV (tV #[v,i6 c])/\SC A (aj X) (K+250) b d w1/\yW w1 w'/\w'.ownsRow w1.heap.size 9 1 v cs.length (cs.map Value.string)/\cs.length<=81/\(∀x∈cs,x.size<=4096)/\(A.k.ok->c=0/\cT (X.g a)/\cs=(aQ bj (aR (X.g a) 1) key).map ae):=by
 let⟨l',i,m,h1,h2,f,h3⟩:=h;have n:a∈i:=l.elim (λe=>by rw[e];let⟨_,_,_,_,_,j,_⟩:=f.st;exact j.dJ) (h2 a);refine(f.prove n key q).mono ?_;rintro e w'⟨v,c,cs,w1,o,p,r1,r2,r3,r4,r5⟩;exact⟨v,c,cs,w1,o,SC.step m h1 h2 h3 p,r1,r2,r3,r4,r5⟩
def SC.slotsOf{A X K n j w}(h:SC A (aj X) K n j w)(c f:yB)(hs:0<c.size)(y:f.size=32)(q:A.N+K<4000000000)(x)(i:A.k.ok->X.o c=none->dI A.ps A.k.B (bP f.data.toList) x):yC 95 #[pV (qA A.sp),sV c,sV f] w λe w'=>∃a d,e=rV (pV (qA a))/\jF X c x a d/\a≠A.tw/\SC A (aj d) (K+1) (a::n) j w':=by
 let⟨l',C,m,h1,h2,r,h3⟩:=h;refine(r.slotsOf c f hs y q x i).mono ?_;rintro e w'⟨a,d,v,s1,s2,l2,p,m2,d2,u,z⟩;refine⟨a,d,v,s1,s2,l2,p,m.trans m2,λx i=>d2 x (h1 x i),λt g=>?_,by rwa[<-Nat.add_assoc],λb s=>?_⟩
 .rcases UC.1 g with rfl|g
  .exact u
  exact d2 t (h2 t g)
 let⟨b1,b2,b3⟩:=h3 b s;have l:b.1<w.heap.size:=(Um.1 b1).1;exact⟨(m2.kept l b2 (Js A)).trans b1,(m2.bt _ l).trans b2,b3⟩
def SC.Bu{A X K c b w}(h:SC A (aj X) K c b w)(a:yB)(hs:0<a.size)(d:A.N+K<4000000000):yC 130 #[pV (qA A.sp),sV a] w λe w'=>e=rV (tV #[])/\SC A (aj ⟨X.g,λy=>if y=a then none else X.o y⟩) K c b w':=by
 let⟨l',k,m,h1,h2,j,h3⟩:=h;refine(j.Bu a hs d).mono ?_;rintro e w'⟨f,i⟩;exact⟨f,SC.step m h1 h2 h3 i⟩
def SC.fresh{A P K d a w}(h:SC A P K d a w):∀b∈a,b.1≠w.heap.size:=λb c e=>by
 let⟨l',f,m,h1,h2,g,h3⟩:=h
 have:=(Um.1 (h3 b c).1).1
 omega
def SC.cJ{A P K d n t x0 x1 x2 x3 c w}(h:SC A P K d ((n,.cells #[x0,x1,x2,x3] t (0,0))::c) w)(e:∀b∈c,b.1≠n)(y0 y1 y2 y3):SC A P K d ((n,.cells #[y0,y1,y2,y3] t (0,0))::c) ((((w.setCell ⟨n,0,none⟩ y0).setCell ⟨n,1,none⟩ y1).setCell ⟨n,2,none⟩ y2).setCell ⟨n,3,none⟩ y3):=by
 refine h.wrote e rfl rfl rfl (by simp) (λk a=>?_) ?_
 .rw[UL _ _ _ k a,UL _ _ _ k a,UL _ _ _ k a,UL _ _ _ k a]
 have e0:=h.at_;have s0:(w.setCell ⟨n,0,none⟩ y0).heap[n]? =some (.cells #[y0,x1,x2,x3] t (0,0)):=by rw[U7 w n 0 _ _ (0,0) _ e0,Vk w n _ _ _ _ e0];rfl
 have s1:((w.setCell ⟨n,0,none⟩ y0).setCell ⟨n,1,none⟩ y1).heap[n]? =some (.cells #[y0,y1,x2,x3] t (0,0)):=by rw[U7 _ n 1 _ _ (0,0) _ s0,Vk _ n _ _ _ _ s0];rfl
 have s2:(((w.setCell ⟨n,0,none⟩ y0).setCell ⟨n,1,none⟩ y1).setCell ⟨n,2,none⟩ y2).heap[n]? =some (.cells #[y0,y1,y2,x3] t (0,0)):=by rw[U7 _ n 2 _ _ (0,0) _ s1,Vk _ n _ _ _ _ s1];rfl
 rw[U7 _ n 3 _ _ (0,0) _ s2,Vk _ n _ _ _ _ s2];rfl
def SC.Eg{A P K c n t x0 x1 x2 x3 a w}(h:SC A P K c ((n,.cells #[x0,x1,x2,x3] t (0,0))::a) w)(d:∀b∈a,b.1≠n)(y)(i:Nat):SC A P K c ((n,.cells ((#[x0,x1,x2,x3]:Array Value).setIfInBounds i y) t (0,0))::a) (w.setCell ⟨n,i,none⟩ y):=by
 refine h.wrote d rfl rfl rfl (by simp) (λk e=>UL _ _ _ k e) ?_;have e0:=h.at_;rw[U7 w n i _ _ (0,0) _ e0,Vk w n _ _ _ _ e0]
def SC.iT{A P K b n t x0 x1 x2 x3 a w}(h:SC A P K b ((n,.cells #[x0,x1,x2,x3] t (0,0))::a) w):(yc w n 0 x0/\yc w n 1 x1/\yc w n 2 x2/\yc w n 3 x3)/\w.frozen? ⟨n,0,none⟩=false/\w.frozen? ⟨n,1,none⟩=false/\w.frozen? ⟨n,2,none⟩=false/\w.frozen? ⟨n,3,none⟩=false:=gf.cells h.at_
def SC.unbox{A P K b x a w}(h:SC A P K b (x::a) w):SC A P K b a w:=h.drop (λ_ ht=>ht) λ_ hb=>Ul _ hb
def j6(Z:Acc->Bool->Nat->Prop)(e:Ending):Prop:=∃(a:Acc)(b:Bool)(c:Nat),e=rV (tV #[cE a,bV b,iV .i64 c])/\iZ a/\(c=0->a.root.size=32/\a.code.size=32)/\Z a b c
def jM(A:fm)(X:Gh)(b:yB)(a:Acc)(d:Bool)(c:Nat):Prop:=A.k.ok->j7 (bD (X.g A.tw) b) a d c
def uT{A X K j f w}(h:SC A (aj X) K j f w)(d:yB)(L:d.size<=40):yC 93 #[pV (qA A.sp),sV d] w λe w'=>j6 (jM A X d) e/\SC A (aj X) (K+250) j f w':=by
 have r:=h.box #[i6 0,sV ⟨#[]⟩,sV ⟨#[]⟩,sV ⟨#[]⟩] 103;obtain⟨o,q⟩:=yX (w.alloc (.cells #[i6 0,sV ⟨#[]⟩,sV ⟨#[]⟩,sV ⟨#[]⟩] 103));rw[<-q] at r;have G:yH (yC 36 #[pV (qA A.tw),sV d] o λe w'=>∃(v:yB)(c:Nat),e=rV (tV #[sV v,i6 c])/\v.size<=160/\(A.k.ok->c=0/\v=bD (X.g A.tw) d)/\SC A (aj X) (K+250) j ((w.heap.size,.cells #[i6 0,sV ⟨#[]⟩,sV ⟨#[]⟩,sV ⟨#[]⟩] 103 (0,0))::f) w'):=r.get (.inl rfl) d L;have u:=aa h.fresh;obtain⟨c0,c1⟩:=h.cells;have M:A.sp<w.heap.size:=UE w _ c0;clear h r;go_enter func93,ntmps93
 go_wp2_with fail
 rw[<-q];clear q c0 c1 M;apply G.m;rintro e w1⟨v,c,rfl,P,C,i⟩;have x:=aa C;clear C;have y:=aa i;obtain⟨⟨k0,k1,k2,k3⟩,f0,f1,f2,f3⟩:=i.iT;by_cases m:c=0
 .subst m;have F:=aa (JK w1 v (by unfold maxLen;omega) i.bz);clear i k0 k1 k2 k3 f0 f1 f2 f3;go_wp2_with fail
  apply F.m;rintro e w2⟨⟨a,t,c,rfl,B,E,D⟩,z⟩;have p:=y.o.below z;have H:=aa p;obtain⟨⟨k0,k1,k2,k3⟩,f0,f1,f2,f3⟩:=p.iT;have l:yH (j6 (jM A X d) (rV (tV #[cE a,bV t,i6 c]))):=⟨a,t,c,rfl,B,E,λs=>by rw[<-(x.o s).2];exact D⟩
  obtain⟨n,I,N,J⟩:=a;unfold cE at l⊢;clear p z B E D;go_wp2;exact UB (v:=tV #[gV #[i6 n,sV I,sV N,sV J],bV t,i6 c]) (by simp[results,results93,go_sem,k0,k1,k2,k3]) rfl ⟨l.o,(H.o.cJ u.o _ _ _ _).unbox⟩
 have O:((c:Int) != 0)=true:=by simp;omega
 have l:yH (j6 (jM A X d) (rV (tV #[gV #[i6 0,sV ⟨#[]⟩,sV ⟨#[]⟩,sV ⟨#[]⟩],bV false,i6 c]))):=⟨mT,false,c,rfl,vl,λh=>absurd h m,λs=>absurd (x.o s).1 m⟩
 clear i m;go_wp2;exact UB (v:=tV #[gV #[i6 0,sV ⟨#[]⟩,sV ⟨#[]⟩,sV ⟨#[]⟩],bV false,i6 c]) (by simp[results,results93,go_sem,k0,k1,k2,k3]) rfl ⟨l.o,(y.o.cJ u.o _ _ _ _).unbox⟩
structure Ac where
 n:Nat
 aI:yB
 code:yB
 ss:List (yB×yB)
def eo(a:Ac):Acc:=⟨a.n,a.aI,cY a.ss,a.code⟩
abbrev Mp:=yB->Option Ac
def lP:Ac:=⟨0,⟨#[]⟩,cZ,[]⟩
def aY(m:Mp)(h:yB):Ac:=(m h).getD lP
def mI(a:Acc):Bool:=ki a.n 0 a.aI ⟨#[]⟩ a.root (ae bM) a.code cZ
def rW(a:Acc):mI a=true↔a=gC:=by
 let⟨n,b,d,c⟩:=a;unfold mI ki;simp only[Vr,dV,VJ];constructor
 .rintro ⟨h1,h2,h3,h4⟩;have h1:n=0:=by have:=eq_of_beq h1;omega
  subst h1 h2 h3 h4;rfl
 intro h;injection h with h1 h2 h3 h4;subst h1;exact⟨rfl,h2,h3,h4⟩
structure nH(a:Acc):Prop where
 n:a.n<9223372036854775808
 aI:bF a.aI=true
 root:a.root.size=32
 code:a.code.size=32
def nH.ok{a}(h:nH a):iZ a:=⟨h.n,mH h.aI,Nat.le_of_eq h.root,Nat.le_of_eq h.code⟩
def nH.fit{a}(h:nH a)(b:a≠gC):Fit a:=⟨h.n,h.aI,h.root,h.code,b⟩
def MZ:cY []=ae bM:=rfl
def zK:eo lP=gC:=rfl
def vT{m}(h:cT m):(cY m).size=32:=by
 unfold cY;rw[aN,oS (jV h 1).ok.aK]
def cQ(m:Mp)(h:yB)(a:Ac):Mp:=λy=>if y=h then(if mI (eo a)=true then none else some a) else m y
def Qe(m key v k):ah (aL m key v) k=if k=key then(if v.size=0 then none else some v) else ah m k:=by
 unfold aL;rw[uh,ue];by_cases e:k=key
 .rw[Uj e,Uj e];split
  .rfl
  show(if(key.toList == k.toList) then some v else none)=_;rw[dV,Uw e.symm,Uj rfl]
 rw[Ui e,Ui e];have:ah (if v.size=0 then [] else [(key,v)]) k=none:=by
  split
  .rfl
  show(if(key.toList == k.toList) then some v else none)=_;rw[dV,Uv (λq=>e q.symm),Ui (by simp)]
 rw[this];cases ah m k<;>rfl
def Ed{m h}(a:m h=none):cQ m h lP=m:=by
 funext y
 unfold cQ;by_cases e:y=h
 .rw[Uj e,Uj ((rW _).2 zK),e,a]
 rw[Ui e]
def dT(b:Nat)(X:Gh)(h:yB)(a:Acc):Gh:=if mI a=true then⟨aE X.g b (aL (X.g b) h ⟨#[]⟩),λy=>if y=h then none else X.o y⟩ else⟨aE X.g b (aL (X.g b) h (ir a)),X.o⟩
def sK(k:Kn)(b:List (yB×yB))(X:Gh)(h:yB)(a:List (yB×yB)):Prop:=(∀tb,X.o h=some tb->X.g tb=a)/\(X.o h=none->dI b k.B (bP (cY a).data.toList) a)
structure Wd(k:Kn)(ps:List (yB×yB))(tw:Nat)(X:Gh)(m:Mp)(ex:yB->Prop):Prop where
 dJ:∀h,ah (X.g tw) h=(m h).map fun a=>ir (eo a)
 fit:∀h a,m h=some a->nH (eo a)/\eo a≠gC/\cT a.ss
 ld:∀h a,¬ex h->m h=some a->sK k ps X h a.ss
 oZ:∀h,¬ex h->m h=none->X.o h=none
 inj:∀h h' tb,X.o h=some tb->X.o h'=some tb->h=h'
 tw:∀h,X.o h≠some tw
def gK:yB->Prop:=λ_=>False
def Wd.at_{k c d X m b}(h:Wd k c d X m b)(x):nH (eo (aY m x)):=by
 unfold aY;cases hf:m x with
 |none=>exact⟨nX.1.n,rfl,nX.2.1,nX.2.2⟩
 |some a=>exact(h.fit _ _ hf).1
def Wd.wH{k c d X m b}(h:Wd k c d X m b)(x):cT (aY m x).ss:=by
 unfold aY;cases hf:m x with
 |none=>exact o9
 |some a=>exact(h.fit _ _ hf).2.2
def Wd.acc{k j f X m i}(h:Wd k j f X m i){x a e c}(d:j7 (bD (X.g f) x) a e c):a=eo (aY m x)/\e=(m x).isSome/\c=0:=by
 unfold bD at d;rw[h.dJ] at d;unfold aY;cases hf:m x with
 |none=>rw[hf] at d;let⟨h1,h2,h3⟩:=d.1 rfl;exact⟨h1,h2,h3⟩
 |some b=>rw[hf] at d;let⟨f1,f2,_⟩:=h.fit _ _ hf;exact d.2 _ (f1.fit f2) rfl
def Wd.rH{k b c X m}(h:Wd k b c X m gK)(x):sK k b X x (aY m x).ss:=by
 unfold aY;cases hf:m x with
 |none=>have h0:=h.oZ x id hf;refine⟨(λd e=>by rw[h0] at e;cases e),λ_=>?_⟩;show dI _ _ (bP (cY []).data.toList) [];rw[MZ,nC];unfold bP;rw[Uj rfl];exact⟨o9,.nil,vE,rfl⟩
 |some a=>exact h.ld x a id hf
def Wd.set{k j i X m r x}(h:Wd k j i X m r)(t:∀y,y≠x->¬r y){a}(s:nH (eo a))(w:cT a.ss)(A:¬mI (eo a)=true->sK k j X x a.ss):Wd k j i (dT i X x (eo a)) (cQ m x a) gK:=by
 have v:∀d,d≠i->(dT i X x (eo a)).g d=X.g d:=λd z=>by
  unfold dT;split<;>exact cl _ _ z
 have n:∀y,(dT i X x (eo a)).o y=if y=x/\mI (eo a)=true then none else X.o y:=λy=>by
  unfold dT;by_cases f:mI (eo a)=true
  .rw[Uj f];by_cases e:y=x
   .rw[Uj ⟨e,f⟩];show(if y=x then none else X.o y)=none;rw[Uj e]
   rw[Ui (λq=>e q.1)];show(if y=x then none else X.o y)=_;rw[Ui e]
  rw[Ui f,Ui (λq=>f q.2)]
 have l:∀y d,(dT i X x (eo a)).o y=some d->X.o y=some d:=λy d e=>by
  rw[n y] at e;split at e
  .cases e
  exact e
 have u:∀y p,sK k j X y p->¬(y=x/\mI (eo a)=true)->sK k j (dT i X x (eo a)) y p:=λy p q f=>by
  refine⟨λd e=>?_,λe=>?_⟩
  .have e1:=l y d e;rw[v d (λe2=>h.tw y (e2▸e1))];exact q.1 d e1
  rw[n y,Ui f] at e;exact q.2 e
 refine⟨λy=>?_,λy b c=>?_,λy b _ c=>?_,λy _ c=>?_,λy C d e1 e2=>h.inj y C d (l _ _ e1) (l _ _ e2),λy e=>h.tw y (l _ _ e)⟩
 .have h0:=(tJ s.ok).1;have B:(dT i X x (eo a)).g i=aL (X.g i) x (if mI (eo a)=true then⟨#[]⟩ else ir (eo a)):=by
   unfold dT;split<;>exact cF ..
  rw[B,Qe,h.dJ];unfold cQ;by_cases e:y=x
  .rw[Uj e,Uj e];split
   .rw[Uj (show(⟨#[]⟩:yB).size=0 from rfl)];rfl
   rw[Ui (by omega)];rfl
  rw[Ui e,Ui e]
 .unfold cQ at c;by_cases e:y=x
  .rw[Uj e] at c;split at c
   .cases c
   next f=>cases c;exact⟨s,λe=>f ((rW _).2 e),w⟩
  rw[Ui e] at c;exact h.fit y b c
 .unfold cQ at c;by_cases e:y=x
  .rw[Uj e] at c;split at c
   .cases c
   next f=>
   cases c;rw[e];exact u x _ (A f) λq=>f q.2
  rw[Ui e] at c;exact u y _ (h.ld y b (t y e) c) λq=>e q.1
 unfold cQ at c;rw[n y];by_cases e:y=x
 .rw[Uj e] at c;split at c
  .next f=>rw[Uj ⟨e,f⟩]
  cases c
 rw[Ui e] at c;rw[Ui (λq=>e q.1)];exact h.oZ y (t y e) c
def Wd.open_{k r j b X c m x}(h:Wd k r j X m gK)(hs:jF X x (aY m x).ss b c)(p:b≠j):Wd k r j c m (· =x)/\c.o x=some b/\c.g b=(aY m x).ss:=by
 rcases hs with⟨h1,rfl⟩|⟨h1,rfl,h3⟩
 .exact⟨⟨h.dJ,h.fit,λy a _=>h.ld y a id,λy _=>h.oZ y id,h.inj,h.tw⟩,h1,(h.rH x).1 b h1⟩
 have n:∀y,y≠x->(if y=x then some b else X.o y)=X.o y:=λy e=>Ui e
 have d:∀y t,(if y=x then some b else X.o y)=some t->(y=x/\t=b)\/(y≠x/\X.o y=some t):=λy t e=>by
  by_cases q:y=x
  .rw[Uj q] at e;cases e;exact .inl ⟨q,rfl⟩
  rw[Ui q] at e;exact .inr ⟨q,e⟩
 refine⟨⟨λy=>(congrArg (λm=>ah m y) (cl X.g _ (λe=>p e.symm))).trans (h.dJ y),h.fit,λy a i f=>⟨λt e=>?_,λe=>?_⟩,λy i f=>(n y i).trans (h.oZ y id f),λy l t e1 e2=>?_,λy e=>?_⟩,Uj rfl,cF ..⟩
 .have e:=(n y i).symm.trans e;exact(cl _ _ (λq:t=b=>h3 y (q▸e))).trans ((h.ld y a id f).1 t e)
 .have e:=(n y i).symm.trans e;exact(h.ld y a id f).2 e
 .rcases d y t e1 with⟨a1,a2⟩|⟨a1,a2⟩
  .rcases d l t e2 with⟨b1,b2⟩|⟨b1,b2⟩
   .rw[a1,b1]
   exact absurd (a2▸b2) (h3 l)
  rcases d l t e2 with⟨b1,b2⟩|⟨b1,b2⟩
  .exact absurd (b2▸a2) (h3 y)
  exact h.inj y l t a2 b2
 rcases d y j e with⟨_,a2⟩|⟨_,a2⟩
 .exact p a2.symm
 exact h.tw y a2
def Wd.full{k i l j X m x}(h:Wd k i l X m (· =x))(f:X.o x=some j)(d:X.g j=(aY m x).ss)(c:(m x).isSome=true):Wd k i l X m gK:=
 ⟨h.dJ,h.fit,λy a _ b=>by
  by_cases e:y=x
  .subst e
   have:aY m y=a:=by unfold aY;rw[b];rfl
   rw[this] at d
   refine⟨λt e=>?_,λe=>by rw[f] at e;cases e⟩
   rw[f] at e
   cases e
   exact d
  .exact h.ld y a e b,λy _ b=>by
  by_cases e:y=x
  .rw[e] at b;rw[b] at c;cases c
  exact h.oZ y e b,h.inj,h.tw⟩
def Wd.Cz{k f i b X m x}(h:Wd k f i X m (· =x))(c:X.o x=some b)(s):Wd k f i ⟨aE X.g b s,X.o⟩ m (· =x)/\sK k f ⟨aE X.g b s,X.o⟩ x s:=by
 have l:b≠i:=λe=>h.tw x (e▸c)
 refine⟨⟨λy=>(congrArg (λm=>ah m y) (cl X.g _ (λe=>l e.symm))).trans (h.dJ y),h.fit,λy a d j=>⟨λt e=>(cl _ _ (λq:t=b=>d (h.inj y x b (q▸e) c))).trans ((h.ld y a d j).1 t e),(h.ld y a d j).2⟩,h.oZ,h.inj,h.tw⟩,λt e=>?_,λe=>?_⟩
 .have e:=e;rw[c] at e;cases e;exact cF ..
 have e:=e;rw[c] at e;cases e
def Cy{α:Type}(f:Nat->α){a b}(h:a≠b)(u v:α):aE (aE f a u) b v=aE (aE f b v) a u:=by
 funext x
 by_cases e1:x=a
 .subst e1;rw[cl _ _ h,cF,cF]
 by_cases e2:x=b
 .subst e2;rw[cF,cl _ _ e1,cF]
 rw[cl _ _ e2,cl _ _ e1,cl _ _ e1,cl _ _ e2]
def MA{b c}(X:Gh)(h)(a:Acc)(s)(d:c≠b):dT b ⟨aE X.g c s,X.o⟩ h a=⟨aE (dT b X h a).g c s,(dT b X h a).o⟩:=by
 unfold dT;split
 .show(⟨aE (aE X.g c s) b (aL (aE X.g c s b) h _),_⟩:Gh)=⟨aE (aE X.g b _) c s,_⟩;rw[cl _ _ (λe=>d e.symm),Cy _ d]
 show(⟨aE (aE X.g c s) b (aL (aE X.g c s b) h _),_⟩:Gh)=⟨aE (aE X.g b _) c s,_⟩;rw[cl _ _ (λe=>d e.symm),Cy _ d]
def Wd.filled{k p d c X j b m x}(h:Wd k p d X m gK)(hs:jF X x (aY m x).ss c j)(i:c≠d){s}(l:cT s){r}(e:r=cY s)(h4:b=dT d j x ⟨(aY m x).n,(aY m x).aI,r,(aY m x).code⟩):Wd k p d ⟨aE b.g c s,b.o⟩ (cQ m x {aY m x with ss:=s}) gK/\b.g c=(aY m x).ss:=by
 let⟨h1,h2,h3⟩:=h.open_ hs i;let⟨u1,u2⟩:=h1.Cz h2 s;have f:=h.at_ x;have:=u1.set (a:={aY m x with ss:=s}) (λ_ hy=>hy) ⟨f.n,f.aI,vT l,f.code⟩ l λ_=>u2
 rw[MA _ _ _ _ i] at this;rw[h4,e];refine⟨this,?_⟩;rw[<-h3];unfold dT;split<;>exact cl _ _ i
def Wd.SO{k l b f X c i m x}(h:Wd k l b X m gK)(hs:jF X x (aY m x).ss f c)(p:f≠b){s}(j:cT s){r}(e:r=cY s)(h4:i=dT b ⟨aE c.g f s,c.o⟩ x ⟨(aY m x).n,(aY m x).aI,r,(aY m x).code⟩):Wd k l b i (cQ m x {aY m x with ss:=s}) gK:=by
 let⟨h1,h2,h3⟩:=h.open_ hs p;let⟨u1,u2⟩:=h1.Cz h2 s;have d:=h.at_ x;have:=u1.set (a:={aY m x with ss:=s}) (λ_ hy=>hy) ⟨d.n,d.aI,vT j,d.code⟩ j λ_=>u2
 rw[h4,e];exact this
def OS{m key}(h:ah m key=none):others m key=m:=by
 induction m with
 |nil=>rfl
 |cons p t ih=>
  have h:(if(p.1.toList == key.toList) then some p.2 else ah t key)=none:=h;unfold others;rw[List.filter_cons];cases hb:(p.1.toList == key.toList) with
  |true=>rw[hb] at h;cases h
  |false=>rw[hb] at h;rw[Uj (by rfl),show t.filter (λp=>!(p.1.toList == key.toList))=t from ih h]
def Rf{m key}(h:cT m)(h0:(bD m key).size=0):ah m key=none:=by
 cases hl:ah m key with
 |none=>rfl
 |some v=>
  have a:∀{t:List (yB×yB)},ah t key=some v->∃p∈t,p.2=v:=by
   intro t;induction t with
   |nil=>intro h;cases h
   |cons p t ih=>
    intro h;have h:(if(p.1.toList == key.toList) then some p.2 else ah t key)=some v:=h;split at h
    .exact⟨p,Uk ..,Option.some.inj h⟩
    let⟨q,h1,h2⟩:=ih h;exact⟨q,Ul _ h1,h2⟩
  let⟨p,h1,h2⟩:=a hl;have:=(h.size p h1).2.1;unfold bD at h0;rw[hl] at h0;rw[h2] at this;have h0:v.size=0:=h0;omega
def ME{m x a}(h:m x=some a)(b:eo a≠gC):cQ m x a=m:=by
 funext y
 unfold cQ;by_cases e:y=x
 .rw[Uj e,Ui (λq=>b ((rW _).1 q)),e,h]
 rw[Ui e]
end Go.Proofs.YteaodagofkcgbaaGreatDoor
