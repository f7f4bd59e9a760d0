import Derived.Test.YthpclfdpbmehgaaGreatDoorK
import Derived.Test.YthpclfdpbmehgaaGreatDoorQ
import Derived.Test.YthpclfdpbmehgaaGreatDoorR
open Go.Proofs.Tryz
open Go.Proofs.Tryz renaming prog→yP
open Go.Value renaming string→sV,pointer→pV,int→iV,slice→lV,bool→bV,tuple→tV,agg→gV
open Go.Ending renaming returned→rV
namespace Go.Proofs.YthpclfdpbmehgaaGreatDoor
open Go.RowKit
set_option maxRecDepth 100000
set_option maxHeartbeats 0
set_option linter.all false
def Dp:∀(A:List Nat),dy (fun _=>1) A=A.length
 | []=>rfl
 |a::r=>by show 1+dy _ r=_;rw[Dp r,UJ];omega
def tv{f g}(h:∀x,f x<=g x):∀(A:List Nat),dy f A<=dy g A
 | []=>Ug _
 |a::r=>by have:=tv h r;have:=h a;show f a+_<=g a+_;omega
def jX.sd{l w y sb z D A d p q}(h:jX l w y sb z D A d p q)(v)(c:Nat)(f:c<256):(d c).length<=dy (gg v p) D:=by
 have h1:((d c).map mg).Nodup:=by
  rw[List.Nodup,List.pairwise_iff_getElem];intro i j hi k B e;rw[UM] at hi k;rw[List.getElem_map,List.getElem_map] at e;have m:(d c)[i]? =some ((d c)[i]'hi):=Uh hi;have n:(d c)[j]? =some ((d c)[j]'k):=Uh k;let⟨a,g,_⟩:=h.ie c i _ f m;let⟨b,o,_⟩:=h.ie c j _ f n;have:a=b:=by unfold mg at e;rw[g,o] at e;exact e
  have:=(h.gI c i c j _ _ f f m n (by rw[g,o,this])).2;omega
 have h2:∀x∈(d c).map mg,x∈D:=fun x u=>by
  obtain⟨e,s,rfl⟩:=UO.1 u;let⟨i,hi,t⟩:=List.mem_iff_getElem.1 s;let⟨a,g,r⟩:=h.ie c i e f (by rw[Uh hi,t]);unfold mg;rw[g];exact r
 have h3:=yI (fun _=>1) h1 h2;rw[Dp,UM] at h3;exact Ut h3 (tv (fun x=>by unfold gg;omega) D)
def BA{w W:World}(h1:W.heap=w.heap)(h2:W.os=w.os)(h3:W.tape=w.tape)(h4:W.output=w.output):yW w W:=⟨h2,h3,h4,by rw[h1];exact Ug _,fun k _=>by rw[h1]⟩
def jF(X:Gh)(b:yB)(x:List (yB×yB))(a:Nat)(c:Gh):Prop:=(X.o b=some a/\c=X)\/(X.o b=none/\c=⟨aE X.g a x,fun y=>if y=b then some a else X.o y⟩/\∀h,X.o h≠some a)
def T3(l:Nat->Nat)(w:World)(a sb d:Nat)(D:List Nat)(N:Nat)(e:Nat->Value)(b:List (yB×yB))(k:Kn)(P:GP)(K c:Nat)(w':World):Prop:=∃l' D',Mv (Of a) l l' w w'/\(∀x∈D,x∈D')/\c∈D'/\SX l' w' a sb d D' (N+K) e b k P
def qv{L:List bH}{k i x e}(a:k<=L.length)(h:(L.take k++[x]++L.drop k)[i]? =some e):(i=k/\e=x)\/(i<k/\L[i]? =some e)\/(k<i/\L[i - 1]? =some e):=by
 have h1:(L.take k).length=k:=by rw[UN];omega
 rcases Nat.lt_trichotomy i k with hi|hi|hi
 ·refine .inr (.inl ⟨hi,?_⟩);rw[UI,UW (by omega),Vv,Uj hi] at h;exact h
 ·refine .inl ⟨hi,?_⟩;rw[UI,Vf (by omega),h1,hi,Nat.sub_self] at h;exact(Option.some.inj h).symm
 ·refine .inr (.inr ⟨hi,?_⟩);rw[Vf (by rw[Uq,h1];simp;omega),Uq,h1,VE] at h;rw[show i - 1=k+(i - (k+ [x].length)) by simp;omega];exact h
def SX.slotsOf{l w C sb tw D N us H k X}(h:SX l w C sb tw D N us H k (aj X))(n E:yB)(hs:0<n.size)(hr:E.size=32)(hN:N<4000000000)(x)(t:k.ok->X.o n=none->dI H k.B (bP E.data.toList) x):
 yC 125 #[pV (qA C),sV n,sV E] w fun e w'=>∃b X',e=rV (pV (qA b))/\jF X n x b X'/\b≠tw/\T3 l w C sb tw D N us H k (aj X') 1 b w':=by
 obtain⟨vs,K,tr,Ss,X,i,B2,M,rfl⟩:=h.st;have h3:=h.bz.size;have O:(n[0]'hs).toNat<256:=(n[0]'hs).toNat_lt;have B1:=i.sd H _ O;have A8:ae E.data.toList=E:=by unfold ae;simp
 have A4:E.data.toList.length=32:=by rw[<-hr];simp
 refine(Mf (fun b w1=>∃u,w.heap.size<=b/\fF w1 b (qA sb) u/\At w1 (bP E.data.toList) (fun x=>w.heap.size<=x/\x≠b) (pV u)) w C sb tw vs K i.ai n E hs (by omega) (by omega) (fun W e1 e2 e3 e4=>?_)).mono ?_
 ·have hW:=BA e1 e2 e3 e4;have:=sL W (qA sb) E.data.toList A4 (h.bz.below hW);rw[A8,e1] at this;refine this.mono ?_;rintro e w' ⟨b,u,v,h1,h2,h3,h4⟩;exact⟨b,v,⟨u,h1,h2,h3⟩,hW.trans h4⟩
 ·rintro e w' (⟨Y,p,q,hp,rfl,e1,e2,e3,e4⟩|⟨Y,b,v',w1,rfl,⟨u,k1,k2,k3⟩,I,S,hS,A6⟩)
  ·let⟨b,ht,G⟩:=i.ie _ _ _ O hp;cases ht
   have I:=BA e1 e2 e3 e4;exact⟨b,X,rfl,.inl ⟨by rw[M.o,oX _ hs,Pc (M.fB _ O) Y hp];rfl,rfl⟩,M.tw _ _ _ O hp,_,D,(Mv.below (fun _=>False) l I).mono fun _ t=>t.elim,fun _ t=>t,G,(h.below I).more 1⟩
  ·have hX:X.o n=none:=by rw[M.o,oX _ hs,Pa (M.fB _ O) Y]
   have A3:∀d,d∈D->d≠b:=fun d G e=>by subst e;have:=(i.gy d G).tr.lt;omega
   refine⟨b,_,rfl,.inr ⟨hX,rfl,fun h' T=>?_⟩,(A3 _ i.dJ).symm,?_⟩
   ·rw[M.o] at T;unfold nU at T;split at T
    ·next h0=>
     let⟨j,e0,a1,_,a3⟩:=zG T;let⟨t0,b1,b2⟩:=i.ie _ j e0 (h'[0]'h0).toNat_lt a1;unfold mg at a3;rw[b1] at a3;exact A3 _ b2 a3
    ·cases T
   have B3:=I.size;have B4:=S.size;have A5:b<w1.heap.size:=k2.lt;have Z:∀g,(vs (n[0]'hs).toNat).ownBlock=some g->g<w.heap.size/\l g=pr C 0:=fun g J=>⟨((i.ai.own _ O).lt g J).2,i.jB _ g O J⟩
   have A9:=i.ai.lt;obtain⟨l',A0⟩:∃l':Nat->Nat,l'=fun k=>if k<w.heap.size then l k else if k<w1.heap.size then pr C (b+1) else pr C 0:=⟨_,rfl⟩
   have lo:∀k,k<w.heap.size->l' k=l k:=fun k U=>by rw[A0];simp[U]
   have l1:∀k,w.heap.size<=k->k<w1.heap.size->l' k=pr C (b+1):=fun k h1 h2=>by rw[A0];simp[VK.2 h1,h2]
   have l2:∀k,w1.heap.size<=k->l' k=pr C 0:=fun k h1=>by rw[A0];simp[VK.2 h1,show ¬k<w.heap.size by omega]
   have B0:∀k,k<w.heap.size->¬(k=C\/(vs (n[0]'hs).toNat).ownBlock=some k)->w'.heap[k]? =w.heap[k]? :=fun k U hn=>(S.block k (by omega) hn).trans (I.block k U)
   have m:Mv (fun x=>x=pr C 0) l l' w w':=⟨S.os.trans I.os,S.tape.trans I.tape,S.output.trans I.output,by omega,lo,fun k U hn=>B0 k U fun P=>hn (by rcases P with rfl|P;exact i.jA;exact(Z k P).2)⟩
   have mo:Mv (Of C) l l' w w':=m.mono fun x t=>⟨0,t⟩
   have A2:∀x,w.heap.size<=x->x<w1.heap.size->w'.heap[x]? =w1.heap[x]? :=fun x h1 h2=>S.block x h2 fun P=>by
    rcases P with rfl|P
    ·omega
    ·have:=(Z x P).1;omega
   have A7:eX w' b (qA sb) (fun x=>(w.heap.size<=x/\x≠b)/\x<w1.heap.size) (bP E.data.toList):=
    ⟨⟨u,k2.kept (A2 b k1 A5),k3.cut.kept fun x t _=>A2 x t.1.1 t.2⟩,qZ A4,fun x t=>⟨by omega,t.1.2,by omega⟩⟩
   have A1:b∉D:=fun G=>by have:=(i.gy b G).tr.lt;omega
   have V:∀d,d∈D->d≠b:=fun d G e=>A1 (e▸G)
   refine⟨l',b::D,mo,fun x t=>Ul _ t,Uk ..,?_⟩;let⟨r1,r2,r3,r4⟩:=h.rest mo (mr C) (lN h.ne);have Q:=zx (K (n[0]'hs).toNat) n;refine⟨⟨bd vs (n[0]'hs).toNat v',aS K (n[0]'hs).toNat ((K (n[0]'hs).toNat).take (dt (K (n[0]'hs).toNat) n)++[(n,some ⟨b,0,none⟩)]++(K (n[0]'hs).toNat).drop (dt (K (n[0]'hs).toNat) n)),aE tr b (bP E.data.toList),aE Ss b (fun x=>(w.heap.size<=x/\x≠b)/\x<w1.heap.size),_,?_,?_,M.opens hs Y V (V _ i.dJ).symm _ x (fun ok=>t ok hX),rfl⟩,r1,r2,r3,r4,h.ne⟩
   ·refine
     {ai:=hS
      jA:=(lo C A9).trans i.jA
      jB:=fun c g s J=>?_
      ie:=fun c k e s v=>?_
      gI:=fun c k d j e f s R v z y=>?_
      dJ:=Ul _ i.dJ
      lO:=List.nodup_cons.2 ⟨A1,i.lO⟩
      gy:=fun x t=>?_}
    ·by_cases F:c=(n[0]'hs).toNat
     ·subst F;simp only[bd,U5] at J;rcases A6 g J with h1|h1
      ·rw[lo g (Z g h1).1];exact(Z g h1).2
      ·exact l2 g h1
     ·simp only[bd,F,UT] at J;rw[lo g ((i.ai.own c s).lt g J).2];exact i.jB c g s J
    ·by_cases F:c=(n[0]'hs).toNat
     ·subst F;simp only[aS,U5] at v;rcases qv Q v with⟨_,rfl⟩|⟨_,h1⟩|⟨_,h1⟩
      ·exact⟨b,rfl,Uk ..⟩
      ·let⟨t0,e0,d0⟩:=i.ie _ _ _ s h1;exact⟨t0,e0,Ul _ d0⟩
      ·let⟨t0,e0,d0⟩:=i.ie _ _ _ s h1;exact⟨t0,e0,Ul _ d0⟩
     ·simp only[aS,F,UT] at v;let⟨t0,e0,d0⟩:=i.ie _ _ _ s v;exact⟨t0,e0,Ul _ d0⟩
    ·have key:∀(d j:Nat) (f:bH),d<256->(K d)[j]? =some f->f.2≠some ⟨b,0,none⟩:=fun d j f G z e0=>by
      let⟨t0,e1,d0⟩:=i.ie d j f G z;rw[e0] at e1;cases e1
      exact A1 d0
     by_cases F:c=(n[0]'hs).toNat
     ·by_cases L:d=(n[0]'hs).toNat
      ·subst F;subst L;simp only[aS,U5] at v z;refine⟨rfl,?_⟩;rcases qv Q v with⟨a1,rfl⟩|⟨a1,a2⟩|⟨a1,a2⟩
       ·rcases qv Q z with⟨b1,rfl⟩|⟨b1,b2⟩|⟨b1,b2⟩
        ·omega
        ·exact absurd y.symm (key _ _ _ s b2)
        ·exact absurd y.symm (key _ _ _ s b2)
       ·rcases qv Q z with⟨b1,rfl⟩|⟨b1,b2⟩|⟨b1,b2⟩
        ·exact absurd y (key _ _ _ s a2)
        ·exact(i.gI _ _ _ _ _ _ s s a2 b2 y).2
        ·have:=(i.gI _ _ _ _ _ _ s s a2 b2 y).2;omega
       ·rcases qv Q z with⟨b1,rfl⟩|⟨b1,b2⟩|⟨b1,b2⟩
        ·exact absurd y (key _ _ _ s a2)
        ·have:=(i.gI _ _ _ _ _ _ s s a2 b2 y).2;omega
        ·have:=(i.gI _ _ _ _ _ _ s s a2 b2 y).2;omega
      ·subst F;simp only[aS,U5] at v;simp only[aS,L,UT] at z;rcases qv Q v with⟨a1,rfl⟩|⟨a1,a2⟩|⟨a1,a2⟩
       ·exact absurd y.symm (key _ _ _ R z)
       ·exact absurd (i.gI _ _ _ _ _ _ s R a2 z y).1.symm L
       ·exact absurd (i.gI _ _ _ _ _ _ s R a2 z y).1.symm L
     ·by_cases L:d=(n[0]'hs).toNat
      ·subst L;simp only[aS,U5] at z;simp only[aS,F,UT] at v;rcases qv Q z with⟨a1,rfl⟩|⟨a1,a2⟩|⟨a1,a2⟩
       ·exact absurd y (key _ _ _ s v)
       ·exact absurd (i.gI _ _ _ _ _ _ s R v a2 y).1 F
       ·exact absurd (i.gI _ _ _ _ _ _ s R v a2 y).1 F
      ·simp only[aS,F,L,UT] at v z;exact i.gI _ _ _ _ _ _ s R v z y
    ·rcases UC.1 t with rfl|t
     ·rw[cF,cF];exact⟨A7,by unfold bP;split<;>trivial,l1 _ k1 A5,fun x t=>l1 x t.1.1 t.2⟩
     ·rw[cl _ _ (V x t),cl _ _ (V x t)];exact(i.gy x t).move m fun e=>by have:=(fS e).2;omega
   ·show gg H _ b+dy _ D<=_;have e1:gg H (aE tr b (bP E.data.toList)) b=1:=by unfold gg;rw[cF,zM]
    have e2:∀(A:List Nat),(∀d∈A,d≠b)->dy (gg H (aE tr b (bP E.data.toList))) A=dy (gg H tr) A:=by
     intro A hA;induction A with
     |nil=>rfl
     |cons a r ih=>
      show gg H _ a+_=gg H _ a+_;rw[ih fun d G=>hA d (Ul _ G)];unfold gg;rw[cl _ _ (hA a (Uk ..))]
    rw[e1,e2 D V];omega
def RQ{L:List bH}{k i e}(h:(L.eraseIdx k)[i]? =some e):∃j,L[j]? =some e/\j=if i<k then i else i+1:=by
 rw[List.getElem?_eraseIdx] at h;by_cases hi:i<k
 ·rw[Uj hi] at h;exact⟨i,h,by rw[Uj hi]⟩
 ·rw[Ui hi] at h;exact⟨i+1,h,by rw[Ui hi]⟩
def uO{L h i e}(a:(mL L h)[i]? =some e):∃j,L[j]? =some e/\j=if fV L h=true/\dt L h<=i then i+1 else i:=by
 unfold mL at a;by_cases b:fV L h=true
 ·rw[Uj b] at a;let⟨j,h1,h2⟩:=RQ a;refine⟨j,h1,h2.trans ?_⟩;by_cases hi:i<dt L h
  ·rw[Uj hi,Ui (by omega)]
  ·rw[Ui hi,Uj ⟨b,by omega⟩]
 ·rw[Ui b] at a;exact⟨i,a,by rw[Ui (fun c=>b c.1)]⟩
def SX.Bu{l w t sb G D N K F k X}(h:SX l w t sb G D N K F k (aj X))(a:yB)(hs:0<a.size)(V:N<4000000000):
 yC 33 #[pV (qA t),sV a] w fun e w'=>e=rV (tV #[])/\oF l w t sb G D N K F k (aj ⟨X.g,fun y=>if y=a then none else X.o y⟩) 0 w':=by
 obtain⟨H,B,T,L,X,b,R,M,rfl⟩:=h.st;have C:(a[0]'hs).toNat<256:=(a[0]'hs).toNat_lt;have W:=b.sd F _ C;refine(SN w t sb G H B b.ai a hs (by omega)).mono ?_;rintro e w' ⟨i,⟨U,O,S⟩,z⟩;refine⟨i,?_⟩;have I:∀g,(H (a[0]'hs).toNat).ownBlock=some g->g<w.heap.size/\l g=pr t 0:=fun g s=>⟨((b.ai.own _ C).lt g s).2,b.jB _ g C s⟩
 have m:Mv (fun x=>x=pr t 0) l l w w':=⟨z.os,z.tape,z.output,z.size,fun _ _=>rfl,fun k P Q=>z.block k P fun u=>Q (by rcases u with rfl|u;exact b.jA;exact(I k u).2)⟩
 have J:Mv (Of t) l l w w':=m.mono fun x q=>⟨0,q⟩
 let⟨r1,r2,r3,r4⟩:=h.rest J (mr t) (lN h.ne);refine⟨l,D,J,fun _ q=>q,⟨⟨bd H (a[0]'hs).toNat U,aS B (a[0]'hs).toNat (mL (B (a[0]'hs).toNat) a),T,L,_,?_,R,M.SJ hs,rfl⟩,r1,r2,r3,r4,h.ne⟩⟩;exact
  {ai:=O
   jA:=b.jA
   jB:=fun c g p s=>by
    by_cases n:c=(a[0]'hs).toNat
    ·subst n;simp only[bd,U5] at s;rw[S] at s;exact(I g s).2
    ·simp only[bd,n,UT] at s;exact b.jB c g p s
   ie:=fun c k e p i=>by
    by_cases n:c=(a[0]'hs).toNat
    ·subst n;simp only[aS,U5] at i;let⟨j,h1,_⟩:=uO i;exact b.ie _ _ _ p h1
    ·simp only[aS,n,UT] at i;exact b.ie _ _ _ p i
   gI:=fun c k d j e f p E i r A=>by
    by_cases n:c=(a[0]'hs).toNat
    ·by_cases v:d=(a[0]'hs).toNat
     ·subst n;subst v;simp only[aS,U5] at i r;let⟨i1,a1,b1⟩:=uO i;let⟨i2,a2,b2⟩:=uO r;have:=(b.gI _ _ _ _ _ _ p p a1 a2 A).2;refine⟨rfl,?_⟩;rw[b1,b2] at this;by_cases u:fV (B (a[0]'hs).toNat) a=true
      ·simp only[u,true_and] at this;split at this<;>split at this<;>omega
      ·rw[Ui (fun q=>u q.1),Ui (fun q=>u q.1)] at this;exact this
     ·subst n;simp only[aS,U5] at i;simp only[aS,v,UT] at r;let⟨i1,a1,b1⟩:=uO i;exact absurd (b.gI _ _ _ _ _ _ p E a1 r A).1.symm v
    ·by_cases v:d=(a[0]'hs).toNat
     ·subst v;simp only[aS,U5] at r;simp only[aS,n,UT] at i;let⟨i1,a1,b1⟩:=uO r;exact absurd (b.gI _ _ _ _ _ _ p E i a1 A).1 n
     ·simp only[aS,n,v,UT] at i r;exact b.gI _ _ _ _ _ _ p E i r A
   dJ:=b.dJ
   lO:=b.lO
   gy:=fun x q=>(b.gy x q).move m fun e=>by have:=(fS e).2;omega}
structure fm where
 l:Nat->Nat
 w:World
 sp:Nat
 sb:Nat
 tw:Nat
 D:List Nat
 N:Nat
 us:Nat->Value
 ps:List (yB×yB)
 k:Kn
def nD(A:fm):Nat:=pr (A.sp+A.sb+1) 7
def Js(A:fm):¬Of A.sp (nD A):=lN (by omega)
def SC(A:fm)(P:GP)(K:Nat)(c:List Nat)(a:List (Nat×Obj))(w:World):Prop:=∃l' D',Mv (Of A.sp) A.l l' A.w w/\(∀x∈A.D,x∈D')/\(∀t∈c,t∈D')/\SX l' w A.sp A.sb A.tw D' (A.N+K) A.us A.ps A.k P/\∀b∈a,w.heap[b.1]? =some b.2/\l' b.1=nD A/\A.w.heap.size<=b.1
def SC.start{l w b sb c D N d a k P}(h:SX l w b sb c D N d a k P):SC ⟨l,w,b,sb,c,D,N,d,a,k⟩ P 0 [] [] w:=
 ⟨l,D,Mv.refl _ _ _,fun _ hx=>hx,fun _ hx=>absurd hx (Vs),h,fun _ hx=>absurd hx (Vs)⟩
def SC.bz{A P K c a w}(h:SC A P K c a w):aB w:=by
 let⟨l',d,m,h1,_,b,_⟩:=h;exact b.bz
def SC.size{A P K b a w}(h:SC A P K b a w):A.w.heap.size<=w.heap.size:=by
 let⟨l',c,m,h1,_,d,_⟩:=h;exact m.size
def SC.mono{A P K K' b a w}(h:SC A P K b a w)(e:K<=K'):SC A P K' b a w:=by
 let⟨l',c,m,h1,h2,d,h3⟩:=h;have:=d.more (K' - K);rw[show A.N+K+(K' - K)=A.N+K' by omega] at this;exact⟨l',c,m,h1,h2,this,h3⟩
def SC.drop{A P K d e a c w}(h:SC A P K d a w)(i:∀t∈e,t∈d)(g:∀b∈c,b∈a):SC A P K e c w:=by
 let⟨l',f,m,h1,h2,j,h3⟩:=h;exact⟨l',f,m,h1,fun t h=>h2 t (i t h),j,fun b h=>h3 b (g b h)⟩
def SC.step{A:fm}{P K c f d w w2 l' a}(m:Mv (Of A.sp) A.l l' A.w w)(h1:∀x∈A.D,x∈a)(h2:∀t∈f,t∈a)(h3:∀b∈d,w.heap[b.1]? =some b.2/\l' b.1=nD A/\A.w.heap.size<=b.1)(i:oF l' w A.sp A.sb A.tw a (A.N+K) A.us A.ps A.k P c w2):SC A P (K+c) f d w2:=by
 let⟨l2,g,m2,d2,o⟩:=i;refine⟨l2,g,m.trans m2,fun x n=>d2 x (h1 x n),fun t j=>d2 t (h2 t j),by rw[<-Nat.add_assoc];exact o,fun b h=>?_⟩;let⟨b1,b2,b3⟩:=h3 b h;have e:b.1<w.heap.size:=(Um.1 b1).1;exact⟨(m2.kept e b2 (Js A)).trans b1,(m2.bt _ e).trans b2,b3⟩
def SC.below{A P K b a w w2}(h:SC A P K b a w)(c:yW w w2):SC A P K b a w2:=by
 let⟨l',e,m,h1,h2,d,h3⟩:=h;exact SC.step m h1 h2 h3 (d.go c 0)
def SC.same{A P K b a}{w w2:World}(h:SC A P K b a w)(e1:w2.heap=w.heap)(e2:w2.os=w.os)(e3:w2.tape=w.tape)(e4:w2.output=w.output):SC A P K b a w2:=h.below (BA e1 e2 e3 e4)
def SC.drew{A P K b a w}(h:SC A P K b a w):SC A P K b a w.drew:=h.same rfl rfl rfl rfl
def SC.box{A P K l f w}(h:SC A P K l f w)(cs:Array Value)(t):SC A P K l ((w.heap.size,.cells cs t (0,0))::f) (w.alloc (.cells cs t)):=by
 have a:yW w (w.alloc (.cells cs t)):=(Un _ _).alloc (Ug _) _;have o:=h.size;let⟨l',n,m,h1,h2,e,h3⟩:=h;let⟨l2,g⟩:=yX (fun k=>if k<w.heap.size then l' k else nD A)
 have lo:∀k,k<w.heap.size->l2 k=l' k:=fun k c=>by rw[g];simp[c]
 have p:∀k,w.heap.size<=k->l2 k=nD A:=fun k c=>by rw[g];simp[VK.2 c]
 have j:Mv (fun _=>False) l' l2 w (w.alloc (.cells cs t)):=⟨a.os,a.tape,a.output,a.size,lo,fun k c _=>a.block k c⟩
 refine⟨l2,n,m.trans (j.mono fun _ e=>e.elim),h1,h2,e.move j id id fun _=>id,fun b d=>?_⟩;rcases UC.1 d with rfl|d
 ·exact⟨UG w _,p _ (Ug _),o⟩
 ·let⟨b1,b2,b3⟩:=h3 b d;have i:b.1<w.heap.size:=(Um.1 b1).1;exact⟨(a.block _ i).trans b1,(lo _ i).trans b2,b3⟩
def SC.wrote{A P K i n o g c}{w w2:World}(h:SC A P K i ((n,o)::c) w)(l:∀b∈c,b.1≠n)(e1:w2.os=w.os)(e2:w2.tape=w.tape)(e3:w2.output=w.output)(e4:w2.heap.size=w.heap.size)(e5:∀k,k≠n->w2.heap[k]? =w.heap[k]?)(e6:w2.heap[n]? =some g):SC A P K i ((n,g)::c) w2:=by
 let⟨l',j,m,h1,h2,p,h3⟩:=h;let⟨q1,q2,q3⟩:=h3 (n,o) (Uk ..);have q:Mv (fun x=>x=nD A) l' l' w w2:=⟨e1,e2,e3,by omega,fun _ _=>rfl,fun k f d=>e5 k fun e=>d (by rw[e];exact q2)⟩
 have r:=m.size;refine⟨l',j,⟨e1.trans m.os,e2.trans m.tape,e3.trans m.output,by omega,m.bt,fun k f d=>(e5 k (by omega)).trans (m.ai k f d)⟩,h1,h2,p.move q (fun e=>by have:=iu (A.sp+A.sb+1) 7;unfold nD at e;omega) (fun e=>by have:=(fS e).1;omega) (fun b e=>by have:=(fS e).1;omega),fun b a=>?_⟩;rcases UC.1 a with rfl|a
 ·exact⟨e6,q2,q3⟩
 ·let⟨b1,b2,b3⟩:=h3 b (Ul _ a);exact⟨(e5 _ (l b a)).trans b1,b2,b3⟩
def SC.at_{A P K b n o a w}(h:SC A P K b ((n,o)::a) w):w.heap[n]? =some o:=by
 let⟨l',c,m,h1,h2,d,h3⟩:=h;exact(h3 (n,o) (Uk ..)).1
def SC.cells{A P K d b w}(h:SC A P K d b w):w.cell? ⟨A.sp,0,none⟩=some (pV (qA A.sb))/\w.cell? ⟨A.sp,1,none⟩=some (pV (qA A.tw)):=by
 let⟨l',e,m,h1,h2,c,h3⟩:=h;let⟨j,g,i,f,X,a,_⟩:=c.st;exact⟨by rw[Ur w A.sp 0 _ _ _ a.ai.ai];exact Dx _ _ _,by rw[Ur w A.sp 1 _ _ _ a.ai.ai];exact Dw _ _ _⟩
def SC.ev{A P a K c b w}(h:SC A P K c b w)(e:∀X r,P X r->a X r):SC A a K c b w:=by
 let⟨l',d,m,h1,h2,f,h3⟩:=h;exact⟨l',d,m,h1,h2,f.ev e,h3⟩
def SC.fix{A P K c b w}(h:SC A P K c b w):∃X r,P X r/\SC A (fun Y s=>Y=X/\s=r) K c b w:=by
 let⟨l',d,m,h1,h2,a,h3⟩:=h;let⟨X,r,e,a⟩:=a.fix;exact⟨X,r,e,l',d,m,h1,h2,a,h3⟩
def SC.nB{A P K b a w}(h:SC A P K b a w):∃X r,P X r/\SC A (aj X) K b a w:=by
 let⟨X,r,c,h⟩:=h.fix;exact⟨X,r,c,h.ev fun _ _ h=>h.1⟩
def qT(A:fm)(b:List Nat)(a:Nat):Prop:=a=A.tw\/a∈b
def SC.get{A X K b d w}(h:SC A (aj X) K b d w){a}(l:qT A b a)(key:yB)(q:key.size<=40):
 yC 34 #[pV (qA a),sV key] w fun e w'=>∃(v:yB) (c:Nat),e=rV (tV #[sV v,i6 c])/\v.size<=160/\(A.k.ok->c=0/\v=bD (X.g a) key)/\SC A (aj X) (K+250) b d w':=by
 let⟨l',i,m,h1,h2,f,h3⟩:=h;have n:a∈i:=l.elim (fun e=>by rw[e];let⟨_,_,_,_,_,j,_⟩:=f.st;exact j.dJ) (h2 a);refine(f.get n key q).mono ?_;rintro e w' ⟨v,c,o,s,r,p⟩;exact⟨v,c,o,s,r,SC.step m h1 h2 h3 p⟩
def SC.put{A X K b d w}(h:SC A (aj X) K b d w){a}(l:qT A b a)(key value:yB)(r:key.size<=40)(h0:0<value.size)(t:value.size<=160):
 yC 30 #[pV (qA a),sV key,sV value] w fun e w'=>∃c:Nat,e=rV (i6 c)/\(A.k.ok->c=0)/\SC A (aj ⟨aE X.g a (aL (X.g a) key value),X.o⟩) (K+250) b d w':=by
 let⟨l',i,m,h1,h2,f,h3⟩:=h;have n:a∈i:=l.elim (fun e=>by rw[e];let⟨_,_,_,_,_,j,_⟩:=f.st;exact j.dJ) (h2 a);refine(f.put n key value r h0 t).mono ?_;rintro e w' ⟨c,p,s,q⟩;exact⟨c,p,s,SC.step m h1 h2 h3 q⟩
def SC.zf{A X K b d w}(h:SC A (aj X) K b d w){a}(l:qT A b a)(key value:yB)(q:key.size<=40)(h0:0<value.size)(v:value.size<=160):
 yC 150 #[pV (qA a),sV key,sV value] w fun e w'=>∃(r:yB) (c:Nat),e=rV (tV #[sV r,i6 c])/\r.size<=32/\(c=0->r.size=32)/\(A.k.ok->c=0/\r=cY (aL (X.g a) key value))/\SC A (aj X) (K+250) b d w':=by
 let⟨l',i,m,h1,h2,f,h3⟩:=h;have n:a∈i:=l.elim (fun e=>by rw[e];let⟨_,_,_,_,_,j,_⟩:=f.st;exact j.dJ) (h2 a);refine(f.zf n key value q h0 v).mono ?_;rintro e w' ⟨r,c,o,t,u,s,p⟩;exact⟨r,c,o,t,u,s,SC.step m h1 h2 h3 p⟩
def SC.del{A X K d f w}(h:SC A (aj X) K d f w){a}(n:qT A d a)(key:yB)(s:key.size<=40):
 yC 32 #[pV (qA a),sV key] w fun e w'=>∃(b:Bool) (c:Nat),e=rV (tV #[bV b,i6 c])/\(A.k.ok->c=0)/\SC A (aj ⟨aE X.g a (aL (X.g a) key ⟨#[]⟩),X.o⟩) (K+250) d f w':=by
 let⟨l',j,m,h1,h2,i,h3⟩:=h;have p:a∈j:=n.elim (fun e=>by rw[e];let⟨_,_,_,_,_,l,_⟩:=i.st;exact l.dJ) (h2 a);refine(i.del p key s).mono ?_;rintro e w' ⟨b,c,q,t,r⟩;exact⟨b,c,q,t,SC.step m h1 h2 h3 r⟩
def SC.root{A P K b c w}(h:SC A P K b c w){a}(l:qT A b a):
 yC 21 #[pV (qA a)] w fun e w'=>∃r:yB,e=rV (sV r)/\r.size=32/\(∃X s,P X s/\(a=A.tw->r=s)/\(A.k.ok->r=cY (X.g a)/\cT (X.g a)))/\SC A P K b c w':=by
 have i:=h;let⟨l',f,m,h1,h2,d,h3⟩:=h;have n:a∈f:=l.elim (fun e=>by rw[e];let⟨_,_,_,_,_,j,_⟩:=d.st;exact j.dJ) (h2 a);refine(d.root n).mono ?_;rintro e w' ⟨r,X,s,o,q,q1,q2,q3,p⟩;exact⟨r,o,q,⟨X,s,q1,q2,q3⟩,i.below p⟩
def SC.prove{A X K b d w}(h:SC A (aj X) K b d w){a}(l:qT A b a)(key:yB)(q:key.size<=40):
 yC 22 #[pV (qA a),sV key] w fun e w'=>∃(v:Value) (c:Nat) (cs:List yB) (w1:World),e=rV (tV #[v,i6 c])/\SC A (aj X) (K+250) b d w1/\yW w1 w'/\w'.ownsRow w1.heap.size 9 1 v cs.length (cs.map Value.string)/\cs.length<=81/\(∀x∈cs,x.size<=4096)/\(A.k.ok->c=0/\cT (X.g a)/\cs=(aQ bj (aR (X.g a) 1) key).map ae):=by
 let⟨l',i,m,h1,h2,f,h3⟩:=h;have n:a∈i:=l.elim (fun e=>by rw[e];let⟨_,_,_,_,_,j,_⟩:=f.st;exact j.dJ) (h2 a);refine(f.prove n key q).mono ?_;rintro e w' ⟨v,c,cs,w1,o,p,r1,r2,r3,r4,r5⟩;exact⟨v,c,cs,w1,o,SC.step m h1 h2 h3 p,r1,r2,r3,r4,r5⟩
def SC.slotsOf{A X K n j w}(h:SC A (aj X) K n j w)(c f:yB)(hs:0<c.size)(y:f.size=32)(q:A.N+K<4000000000)(x)(i:A.k.ok->X.o c=none->dI A.ps A.k.B (bP f.data.toList) x):
 yC 125 #[pV (qA A.sp),sV c,sV f] w fun e w'=>∃a d,e=rV (pV (qA a))/\jF X c x a d/\a≠A.tw/\SC A (aj d) (K+1) (a::n) j w':=by
 let⟨l',C,m,h1,h2,r,h3⟩:=h;refine(r.slotsOf c f hs y q x i).mono ?_;rintro e w' ⟨a,d,v,s1,s2,l2,p,m2,d2,u,z⟩;refine⟨a,d,v,s1,s2,l2,p,m.trans m2,fun x i=>d2 x (h1 x i),fun t g=>?_,by rw[<-Nat.add_assoc];exact z,fun b s=>?_⟩
 ·rcases UC.1 g with rfl|g
  ·exact u
  ·exact d2 t (h2 t g)
 ·let⟨b1,b2,b3⟩:=h3 b s;have l:b.1<w.heap.size:=(Um.1 b1).1;exact⟨(m2.kept l b2 (Js A)).trans b1,(m2.bt _ l).trans b2,b3⟩
def SC.Bu{A X K c b w}(h:SC A (aj X) K c b w)(a:yB)(hs:0<a.size)(d:A.N+K<4000000000):
 yC 33 #[pV (qA A.sp),sV a] w fun e w'=>e=rV (tV #[])/\SC A (aj ⟨X.g,fun y=>if y=a then none else X.o y⟩) K c b w':=by
 let⟨l',k,m,h1,h2,j,h3⟩:=h;refine(j.Bu a hs d).mono ?_;rintro e w' ⟨f,i⟩;exact⟨f,SC.step m h1 h2 h3 i⟩
def SC.fresh{A P K d a w}(h:SC A P K d a w):∀b∈a,b.1≠w.heap.size:=fun b c e=>by
 let⟨l',f,m,h1,h2,g,h3⟩:=h
 have:=(Um.1 (h3 b c).1).1
 omega
def SC.cJ{A P K d n t x0 x1 x2 x3 c w}(h:SC A P K d ((n,.cells #[x0,x1,x2,x3] t (0,0))::c) w)(e:∀b∈c,b.1≠n)(y0 y1 y2 y3):SC A P K d ((n,.cells #[y0,y1,y2,y3] t (0,0))::c) ((((w.setCell ⟨n,0,none⟩ y0).setCell ⟨n,1,none⟩ y1).setCell ⟨n,2,none⟩ y2).setCell ⟨n,3,none⟩ y3):=by
 refine h.wrote e rfl rfl rfl (by simp) (fun k a=>?_) ?_
 ·rw[UL _ _ _ k a,UL _ _ _ k a,UL _ _ _ k a,UL _ _ _ k a]
 ·have e0:=h.at_;have s0:(w.setCell ⟨n,0,none⟩ y0).heap[n]? =some (.cells #[y0,x1,x2,x3] t (0,0)):=by rw[U7 w n 0 _ _ (0,0) _ e0,Vk w n _ _ _ _ e0];rfl
  have s1:((w.setCell ⟨n,0,none⟩ y0).setCell ⟨n,1,none⟩ y1).heap[n]? =some (.cells #[y0,y1,x2,x3] t (0,0)):=by rw[U7 _ n 1 _ _ (0,0) _ s0,Vk _ n _ _ _ _ s0];rfl
  have s2:(((w.setCell ⟨n,0,none⟩ y0).setCell ⟨n,1,none⟩ y1).setCell ⟨n,2,none⟩ y2).heap[n]? =some (.cells #[y0,y1,y2,x3] t (0,0)):=by rw[U7 _ n 2 _ _ (0,0) _ s1,Vk _ n _ _ _ _ s1];rfl
  rw[U7 _ n 3 _ _ (0,0) _ s2,Vk _ n _ _ _ _ s2];rfl
def SC.Eg{A P K c n t x0 x1 x2 x3 a w}(h:SC A P K c ((n,.cells #[x0,x1,x2,x3] t (0,0))::a) w)(d:∀b∈a,b.1≠n)(y)(i:Nat):SC A P K c ((n,.cells ((#[x0,x1,x2,x3]:Array Value).setIfInBounds i y) t (0,0))::a) (w.setCell ⟨n,i,none⟩ y):=by
 refine h.wrote d rfl rfl rfl (by simp) (fun k e=>UL _ _ _ k e) ?_;have e0:=h.at_;rw[U7 w n i _ _ (0,0) _ e0,Vk w n _ _ _ _ e0]
def SC.iT{A P K b n t x0 x1 x2 x3 a w}(h:SC A P K b ((n,.cells #[x0,x1,x2,x3] t (0,0))::a) w):(yc w n 0 x0/\yc w n 1 x1/\yc w n 2 x2/\yc w n 3 x3)/\w.frozen? ⟨n,0,none⟩=false/\w.frozen? ⟨n,1,none⟩=false/\w.frozen? ⟨n,2,none⟩=false/\w.frozen? ⟨n,3,none⟩=false:=gf.cells h.at_
def SC.unbox{A P K b x a w}(h:SC A P K b (x::a) w):SC A P K b a w:=h.drop (fun _ ht=>ht) fun _ hb=>Ul _ hb
def j6(Z:Acc->Bool->Nat->Prop)(e:Ending):Prop:=∃(a:Acc) (b:Bool) (c:Nat),e=rV (tV #[cE a,bV b,iV .i64 c])/\iZ a/\(c=0->a.root.size=32/\a.code.size=32)/\Z a b c
def jM(A:fm)(X:Gh)(b:yB)(a:Acc)(d:Bool)(c:Nat):Prop:=A.k.ok->j7 (bD (X.g A.tw) b) a d c
def uT{A X K j f w}(h:SC A (aj X) K j f w)(d:yB)(L:d.size<=40):
 yC 20 #[pV (qA A.sp),sV d] w fun e w'=>j6 (jM A X d) e/\SC A (aj X) (K+250) j f w':=by
 have r:=h.box #[i6 0,sV ⟨#[]⟩,sV ⟨#[]⟩,sV ⟨#[]⟩] 37;obtain⟨o,q⟩:=yX (w.alloc (.cells #[i6 0,sV ⟨#[]⟩,sV ⟨#[]⟩,sV ⟨#[]⟩] 37))
 rw[<-q] at r;have G:yH (yC 34 #[pV (qA A.tw),sV d] o fun e w'=>∃(v:yB) (c:Nat),e=rV (tV #[sV v,i6 c])/\v.size<=160/\(A.k.ok->c=0/\v=bD (X.g A.tw) d)/\SC A (aj X) (K+250) j ((w.heap.size,.cells #[i6 0,sV ⟨#[]⟩,sV ⟨#[]⟩,sV ⟨#[]⟩] 37 (0,0))::f) w'):=r.get (.inl rfl) d L;have u:=aa h.fresh;obtain⟨c0,c1⟩:=h.cells;have M:A.sp<w.heap.size:=UE w _ c0;clear h r;go_enter func20,ntmps20
 go_wp2_with fail
 rw[<-q];clear q c0 c1 M;refine G.m ?_;rintro e w1 ⟨v,c,rfl,P,C,i⟩;have x:=aa C;clear C;have y:=aa i;obtain⟨⟨k0,k1,k2,k3⟩,f0,f1,f2,f3⟩:=i.iT;by_cases m:c=0
 ·subst m;have F:=aa (JK w1 v (by unfold maxLen;omega) i.bz);clear i k0 k1 k2 k3 f0 f1 f2 f3;go_wp2_with fail
  refine F.m ?_;rintro e w2 ⟨⟨a,t,c,rfl,B,E,D⟩,z⟩;have p:=y.o.below z;have H:=aa p;obtain⟨⟨k0,k1,k2,k3⟩,f0,f1,f2,f3⟩:=p.iT;have l:yH (j6 (jM A X d) (rV (tV #[cE a,bV t,i6 c]))):=⟨a,t,c,rfl,B,E,fun s=>by rw[<-(x.o s).2];exact D⟩
  obtain⟨n,I,N,J⟩:=a;unfold cE at l⊢;clear p z B E D;go_wp2
  exact UB (v:=tV #[gV #[i6 n,sV I,sV N,sV J],bV t,i6 c]) (by simp[results,results20,go_sem,k0,k1,k2,k3]) rfl ⟨l.o,(H.o.cJ u.o _ _ _ _).unbox⟩
 ·have O:((c:Int) != 0)=true:=by simp;omega
  have l:yH (j6 (jM A X d) (rV (tV #[gV #[i6 0,sV ⟨#[]⟩,sV ⟨#[]⟩,sV ⟨#[]⟩],bV false,i6 c]))):=⟨mT,false,c,rfl,vl,fun h=>absurd h m,fun s=>absurd (x.o s).1 m⟩
  clear i m;go_wp2
  exact UB (v:=tV #[gV #[i6 0,sV ⟨#[]⟩,sV ⟨#[]⟩,sV ⟨#[]⟩],bV false,i6 c]) (by simp[results,results20,go_sem,k0,k1,k2,k3]) rfl ⟨l.o,(y.o.cJ u.o _ _ _ _).unbox⟩
structure Ac where
 n:Nat
 aI:yB
 code:yB
 ss:List (yB×yB)
def eo(a:Ac):Acc:=⟨a.n,a.aI,cY a.ss,a.code⟩
abbrev Mp:=yB->Option Ac
def lP:Ac:=⟨0,⟨#[]⟩,cZ,[]⟩
def aY(m:Mp)(h:yB):Ac:=(m h).getD lP
def mI(a:Acc):Bool:=ki a.n 0 a.aI ⟨#[]⟩ a.root (ae bM) a.code cZ
def rW(a:Acc):mI a=true↔a=gC:=by
 let⟨n,b,d,c⟩:=a;unfold mI ki;simp only[Vr,dV,VJ];constructor
 ·rintro ⟨h1,h2,h3,h4⟩;have h1:n=0:=by have:=eq_of_beq h1;omega
  subst h1 h2 h3 h4;rfl
 ·intro h;injection h with h1 h2 h3 h4;subst h1;exact⟨rfl,h2,h3,h4⟩
structure nH(a:Acc):Prop where
 n:a.n<9223372036854775808
 aI:bF a.aI=true
 root:a.root.size=32
 code:a.code.size=32
def nH.ok{a}(h:nH a):iZ a:=⟨h.n,mH h.aI,Nat.le_of_eq h.root,Nat.le_of_eq h.code⟩
def nH.fit{a}(h:nH a)(b:a≠gC):Fit a:=⟨h.n,h.aI,h.root,h.code,b⟩
def MZ:cY []=ae bM:=rfl
def zK:eo lP=gC:=rfl
def vT{m}(h:cT m):(cY m).size=32:=by
 unfold cY;rw[aN,oS (jV h 1).ok.aK]
def cQ(m:Mp)(h:yB)(a:Ac):Mp:=fun y=>if y=h then(if mI (eo a)=true then none else some a) else m y
def Qe(m key v k):ah (aL m key v) k=if k=key then(if v.size=0 then none else some v) else ah m k:=by
 unfold aL;rw[uh,ue];by_cases e:k=key
 ·rw[Uj e,Uj e];split
  ·rfl
  ·show(if(key.toList == k.toList) then some v else none)=_;rw[dV,Uw e.symm,Uj rfl]
 ·rw[Ui e,Ui e];have:ah (if v.size=0 then [] else [(key,v)]) k=none:=by
   split
   ·rfl
   ·show(if(key.toList == k.toList) then some v else none)=_;rw[dV,Uv (fun q=>e q.symm),Ui (by simp)]
  rw[this];cases ah m k<;>rfl
def Ed{m h}(a:m h=none):cQ m h lP=m:=by
 funext y
 unfold cQ;by_cases e:y=h
 ·rw[Uj e,Uj ((rW _).2 zK),e,a]
 ·rw[Ui e]
def dT(b:Nat)(X:Gh)(h:yB)(a:Acc):Gh:=if mI a=true then⟨aE X.g b (aL (X.g b) h ⟨#[]⟩),fun y=>if y=h then none else X.o y⟩ else⟨aE X.g b (aL (X.g b) h (ir a)),X.o⟩
def sK(k:Kn)(b:List (yB×yB))(X:Gh)(h:yB)(a:List (yB×yB)):Prop:=(∀tb,X.o h=some tb->X.g tb=a)/\(X.o h=none->dI b k.B (bP (cY a).data.toList) a)
structure Wd(k:Kn)(ps:List (yB×yB))(tw:Nat)(X:Gh)(m:Mp)(ex:yB->Prop):Prop where
 dJ:∀h,ah (X.g tw) h=(m h).map fun a=>ir (eo a)
 fit:∀h a,m h=some a->nH (eo a)/\eo a≠gC/\cT a.ss
 ld:∀h a,¬ex h->m h=some a->sK k ps X h a.ss
 oZ:∀h,¬ex h->m h=none->X.o h=none
 inj:∀h h' tb,X.o h=some tb->X.o h'=some tb->h=h'
 tw:∀h,X.o h≠some tw
def gK:yB->Prop:=fun _=>False
def Wd.at_{k c d X m b}(h:Wd k c d X m b)(x):nH (eo (aY m x)):=by
 unfold aY;cases hf:m x with
 |none=>exact⟨nX.1.n,rfl,nX.2.1,nX.2.2⟩
 |some a=>exact(h.fit _ _ hf).1
def Wd.wH{k c d X m b}(h:Wd k c d X m b)(x):cT (aY m x).ss:=by
 unfold aY;cases hf:m x with
 |none=>exact o9
 |some a=>exact(h.fit _ _ hf).2.2
def Wd.acc{k j f X m i}(h:Wd k j f X m i){x a e c}(d:j7 (bD (X.g f) x) a e c):a=eo (aY m x)/\e=(m x).isSome/\c=0:=by
 unfold bD at d;rw[h.dJ] at d;unfold aY;cases hf:m x with
 |none=>
  rw[hf] at d;let⟨h1,h2,h3⟩:=d.1 rfl;exact⟨h1,h2,h3⟩
 |some b=>
  rw[hf] at d;let⟨f1,f2,_⟩:=h.fit _ _ hf;exact d.2 _ (f1.fit f2) rfl
def Wd.rH{k b c X m}(h:Wd k b c X m gK)(x):sK k b X x (aY m x).ss:=by
 unfold aY;cases hf:m x with
 |none=>
  have h0:=h.oZ x id hf;refine⟨(fun d e=>by rw[h0] at e;cases e),fun _=>?_⟩;show dI _ _ (bP (cY []).data.toList) [];rw[MZ,nC];unfold bP;rw[Uj rfl];exact⟨o9,.nil,vE,rfl⟩
 |some a=>exact h.ld x a id hf
def Wd.set{k j i X m r x}(h:Wd k j i X m r)(t:∀y,y≠x->¬r y){a}(s:nH (eo a))(w:cT a.ss)(A:¬mI (eo a)=true->sK k j X x a.ss):Wd k j i (dT i X x (eo a)) (cQ m x a) gK:=by
 have v:∀d,d≠i->(dT i X x (eo a)).g d=X.g d:=fun d z=>by
  unfold dT;split<;>exact cl _ _ z
 have n:∀y,(dT i X x (eo a)).o y=if y=x/\mI (eo a)=true then none else X.o y:=fun y=>by
  unfold dT;by_cases f:mI (eo a)=true
  ·rw[Uj f];by_cases e:y=x
   ·rw[Uj ⟨e,f⟩];show(if y=x then none else X.o y)=none;rw[Uj e]
   ·rw[Ui (fun q=>e q.1)];show(if y=x then none else X.o y)=_;rw[Ui e]
  ·rw[Ui f,Ui (fun q=>f q.2)]
 have l:∀y d,(dT i X x (eo a)).o y=some d->X.o y=some d:=fun y d e=>by
  rw[n y] at e;split at e
  ·cases e
  ·exact e
 have u:∀y p,sK k j X y p->¬(y=x/\mI (eo a)=true)->sK k j (dT i X x (eo a)) y p:=fun y p q f=>by
  refine⟨fun d e=>?_,fun e=>?_⟩
  ·have e1:=l y d e;rw[v d (fun e2=>h.tw y (e2▸e1))];exact q.1 d e1
  ·rw[n y,Ui f] at e;exact q.2 e
 refine⟨fun y=>?_,fun y b c=>?_,fun y b _ c=>?_,fun y _ c=>?_,fun y C d e1 e2=>h.inj y C d (l _ _ e1) (l _ _ e2),fun y e=>h.tw y (l _ _ e)⟩
 ·have h0:=(tJ s.ok).1;have B:(dT i X x (eo a)).g i=aL (X.g i) x (if mI (eo a)=true then⟨#[]⟩ else ir (eo a)):=by
   unfold dT;split<;>exact cF ..
  rw[B,Qe,h.dJ];unfold cQ;by_cases e:y=x
  ·rw[Uj e,Uj e];split
   ·rw[Uj (show(⟨#[]⟩:yB).size=0 from rfl)];rfl
   ·rw[Ui (by omega)];rfl
  ·rw[Ui e,Ui e]
 ·unfold cQ at c;by_cases e:y=x
  ·rw[Uj e] at c;split at c
   ·cases c
   ·next f=>cases c;exact⟨s,fun e=>f ((rW _).2 e),w⟩
  ·rw[Ui e] at c;exact h.fit y b c
 ·unfold cQ at c;by_cases e:y=x
  ·rw[Uj e] at c;split at c
   ·cases c
   ·next f=>
    cases c
    rw[e];exact u x _ (A f) fun q=>f q.2
  ·rw[Ui e] at c;exact u y _ (h.ld y b (t y e) c) fun q=>e q.1
 ·unfold cQ at c;rw[n y];by_cases e:y=x
  ·rw[Uj e] at c;split at c
   ·next f=>rw[Uj ⟨e,f⟩]
   ·cases c
  ·rw[Ui e] at c;rw[Ui (fun q=>e q.1)];exact h.oZ y (t y e) c
def Wd.open_{k r j b X c m x}(h:Wd k r j X m gK)(hs:jF X x (aY m x).ss b c)(p:b≠j):Wd k r j c m (· =x)/\c.o x=some b/\c.g b=(aY m x).ss:=by
 rcases hs with⟨h1,rfl⟩|⟨h1,rfl,h3⟩
 ·exact⟨⟨h.dJ,h.fit,fun y a _=>h.ld y a id,fun y _=>h.oZ y id,h.inj,h.tw⟩,h1,(h.rH x).1 b h1⟩
 ·have n:∀y,y≠x->(if y=x then some b else X.o y)=X.o y:=fun y e=>Ui e
  have d:∀y t,(if y=x then some b else X.o y)=some t->(y=x/\t=b)\/(y≠x/\X.o y=some t):=fun y t e=>by
   by_cases q:y=x
   ·rw[Uj q] at e;cases e;exact .inl ⟨q,rfl⟩
   ·rw[Ui q] at e;exact .inr ⟨q,e⟩
  refine⟨⟨fun y=>(congrArg (fun m=>ah m y) (cl X.g _ (fun e=>p e.symm))).trans (h.dJ y),h.fit,fun y a i f=>⟨fun t e=>?_,fun e=>?_⟩,fun y i f=>(n y i).trans (h.oZ y id f),fun y l t e1 e2=>?_,fun y e=>?_⟩,Uj rfl,cF ..⟩
  ·have e:=(n y i).symm.trans e;exact(cl _ _ (fun q:t=b=>h3 y (q▸e))).trans ((h.ld y a id f).1 t e)
  ·have e:=(n y i).symm.trans e;exact(h.ld y a id f).2 e
  ·rcases d y t e1 with⟨a1,a2⟩|⟨a1,a2⟩
   ·rcases d l t e2 with⟨b1,b2⟩|⟨b1,b2⟩
    ·rw[a1,b1]
    ·exact absurd (a2▸b2) (h3 l)
   ·rcases d l t e2 with⟨b1,b2⟩|⟨b1,b2⟩
    ·exact absurd (b2▸a2) (h3 y)
    ·exact h.inj y l t a2 b2
  ·rcases d y j e with⟨_,a2⟩|⟨_,a2⟩
   ·exact p a2.symm
   ·exact h.tw y a2
def Wd.full{k i l j X m x}(h:Wd k i l X m (· =x))(f:X.o x=some j)(d:X.g j=(aY m x).ss)(c:(m x).isSome=true):Wd k i l X m gK:=
 ⟨h.dJ,h.fit,fun y a _ b=>by
  by_cases e:y=x
  ·subst e
   have:aY m y=a:=by unfold aY;rw[b];rfl
   rw[this] at d
   refine⟨fun t e=>?_,fun e=>by rw[f] at e;cases e⟩
   rw[f] at e
   cases e
   exact d
  ·exact h.ld y a e b,fun y _ b=>by
  by_cases e:y=x
  ·rw[e] at b;rw[b] at c;cases c
  ·exact h.oZ y e b,h.inj,h.tw⟩
def Wd.Cz{k f i b X m x}(h:Wd k f i X m (· =x))(c:X.o x=some b)(s):Wd k f i ⟨aE X.g b s,X.o⟩ m (· =x)/\sK k f ⟨aE X.g b s,X.o⟩ x s:=by
 have l:b≠i:=fun e=>h.tw x (e▸c)
 refine⟨⟨fun y=>(congrArg (fun m=>ah m y) (cl X.g _ (fun e=>l e.symm))).trans (h.dJ y),h.fit,fun y a d j=>⟨fun t e=>(cl _ _ (fun q:t=b=>d (h.inj y x b (q▸e) c))).trans ((h.ld y a d j).1 t e),(h.ld y a d j).2⟩,h.oZ,h.inj,h.tw⟩,fun t e=>?_,fun e=>?_⟩
 ·have e:=e;rw[c] at e;cases e
  exact cF ..
 ·have e:=e;rw[c] at e;cases e
def Cy{α:Type}(f:Nat->α){a b}(h:a≠b)(u v:α):aE (aE f a u) b v=aE (aE f b v) a u:=by
 funext x
 by_cases e1:x=a
 ·subst e1;rw[cl _ _ h,cF,cF]
 ·by_cases e2:x=b
  ·subst e2;rw[cF,cl _ _ e1,cF]
  ·rw[cl _ _ e2,cl _ _ e1,cl _ _ e1,cl _ _ e2]
def MA{b c}(X:Gh)(h)(a:Acc)(s)(d:c≠b):dT b ⟨aE X.g c s,X.o⟩ h a=⟨aE (dT b X h a).g c s,(dT b X h a).o⟩:=by
 unfold dT;split
 ·show(⟨aE (aE X.g c s) b (aL (aE X.g c s b) h _),_⟩:Gh)=⟨aE (aE X.g b _) c s,_⟩;rw[cl _ _ (fun e=>d e.symm),Cy _ d]
 ·show(⟨aE (aE X.g c s) b (aL (aE X.g c s b) h _),_⟩:Gh)=⟨aE (aE X.g b _) c s,_⟩;rw[cl _ _ (fun e=>d e.symm),Cy _ d]
def Wd.filled{k p d c X j b m x}(h:Wd k p d X m gK)(hs:jF X x (aY m x).ss c j)(i:c≠d){s}(l:cT s){r}(e:r=cY s)(h4:b=dT d j x ⟨(aY m x).n,(aY m x).aI,r,(aY m x).code⟩):Wd k p d ⟨aE b.g c s,b.o⟩ (cQ m x {aY m x with ss:=s}) gK/\b.g c=(aY m x).ss:=by
 let⟨h1,h2,h3⟩:=h.open_ hs i;let⟨u1,u2⟩:=h1.Cz h2 s;have f:=h.at_ x;have:=u1.set (a:={aY m x with ss:=s}) (fun _ hy=>hy) ⟨f.n,f.aI,vT l,f.code⟩ l fun _=>u2
 rw[MA _ _ _ _ i] at this;rw[h4,e];refine⟨this,?_⟩;rw[<-h3];unfold dT;split<;>exact cl _ _ i
def Wd.SO{k l b f X c i m x}(h:Wd k l b X m gK)(hs:jF X x (aY m x).ss f c)(p:f≠b){s}(j:cT s){r}(e:r=cY s)(h4:i=dT b ⟨aE c.g f s,c.o⟩ x ⟨(aY m x).n,(aY m x).aI,r,(aY m x).code⟩):Wd k l b i (cQ m x {aY m x with ss:=s}) gK:=by
 let⟨h1,h2,h3⟩:=h.open_ hs p;let⟨u1,u2⟩:=h1.Cz h2 s;have d:=h.at_ x;have:=u1.set (a:={aY m x with ss:=s}) (fun _ hy=>hy) ⟨d.n,d.aI,vT j,d.code⟩ j fun _=>u2
 rw[h4,e];exact this
def OS{m key}(h:ah m key=none):others m key=m:=by
 induction m with
 |nil=>rfl
 |cons p t ih=>
  have h:(if(p.1.toList == key.toList) then some p.2 else ah t key)=none:=h;unfold others;rw[List.filter_cons];cases hb:(p.1.toList == key.toList) with
  |true=>rw[hb] at h;cases h
  |false=>
   rw[hb] at h;rw[Uj (by rfl),show t.filter (fun p=>!(p.1.toList == key.toList))=t from ih h]
def Rf{m key}(h:cT m)(h0:(bD m key).size=0):ah m key=none:=by
 cases hl:ah m key with
 |none=>rfl
 |some v=>
  have a:∀{t:List (yB×yB)},ah t key=some v->∃p∈t,p.2=v:=by
   intro t;induction t with
   |nil=>intro h;cases h
   |cons p t ih=>
    intro h;have h:(if(p.1.toList == key.toList) then some p.2 else ah t key)=some v:=h;split at h
    ·exact⟨p,Uk ..,Option.some.inj h⟩
    ·let⟨q,h1,h2⟩:=ih h;exact⟨q,Ul _ h1,h2⟩
  let⟨p,h1,h2⟩:=a hl;have:=(h.size p h1).2.1;unfold bD at h0;rw[hl] at h0;rw[h2] at this;have h0:v.size=0:=h0;omega
def ME{m x a}(h:m x=some a)(b:eo a≠gC):cQ m x a=m:=by
 funext y
 unfold cQ;by_cases e:y=x
 ·rw[Uj e,Ui (fun q=>b ((rW _).1 q)),e,h]
 ·rw[Ui e]
def mO(A:fm)(Z:Gh)(K:Nat)(d:List Nat)(b:List (Nat×Obj))(e:Ending)(w':World):Prop:=∃(c:Nat) (a:Gh),e=rV (iV .i64 c)/\(A.k.ok->c=0/\a=Z)/\SC A (aj a) K d b w'
def rm{A X K l j w}(h:SC A (aj X) K l j w)(m:yB)(hk:m.size=32)(a:Acc)(L:iZ a)(hN:A.N+K+250<4000000000):
 yC 19 #[pV (qA A.sp),sV m,cE a] w fun e w'=>mO A (dT A.tw X m a) (K+250) l j e w'/\True:=by
 obtain⟨Z,E⟩:∃Z,Z=dT A.tw X m a:=⟨_,rfl⟩
 rw[<-E];have A6:yH (∀W,yC 31 #[cE a] W fun e w'=>e=rV (sV (ir a))/\yW W w'):=fun W=>Nh W a L
 obtain⟨S,T,_⟩:=tJ L;obtain⟨n,d,i,f⟩:=a;obtain⟨x,J⟩:∃x:Gh,x=⟨aE X.g A.tw (aL (X.g A.tw) m (ir ⟨n,d,i,f⟩)),X.o⟩:=⟨_,rfl⟩
 obtain⟨q,I⟩:∃q:Gh,q=⟨aE X.g A.tw (aL (X.g A.tw) m ⟨#[]⟩),X.o⟩:=⟨_,rfl⟩
 obtain⟨u,H⟩:∃u:Gh,u=⟨q.g,fun y=>if y=m then none else q.o y⟩:=⟨_,rfl⟩
 have A9:yH (ki n 0 d ⟨#[]⟩ i (ae bM) f cZ=false->x=Z):=fun h=>by
  rw[E,J];unfold dT;rw[Ui (by show ¬ki n 0 d ⟨#[]⟩ i (ae bM) f cZ=true;rw[h];simp)]
 have A8:yH (ki n 0 d ⟨#[]⟩ i (ae bM) f cZ=true->u=Z):=fun h=>by
  rw[E,H,I];unfold dT;rw[Uj (show mI ⟨n,d,i,f⟩=true from h)]
 have z:=h.box #[i6 n,sV d,sV i,sV f] 37;obtain⟨B,G⟩:∃B,B=w.alloc (.cells #[i6 n,sV d,sV i,sV f] 37):=⟨_,rfl⟩
 rw[<-G] at z;have B0:=aa z;have HO:yH (yC 29 #[] B.drew fun e w'=>e=rV (gV #[i6 0,sV ⟨#[]⟩,sV (ae bM),sV cZ])/\SC A (aj X) K l ((w.heap.size,.cells #[i6 n,sV d,sV i,sV f] 37 (0,0))::j) w'):=(vK B.drew z.drew.bz).mono fun e w' ⟨h1,h2⟩=>⟨h1,z.drew.below h2⟩
 have A4:yH (∀W,SC A (aj X) K l ((w.heap.size,.cells #[i6 n,sV d,sV i,sV f] 37 (0,0))::j) W->yC 30 #[pV (qA A.tw),sV m,sV (ir ⟨n,d,i,f⟩)] W fun e w'=>∃c:Nat,e=rV (i6 c)/\(A.k.ok->c=0)/\SC A (aj x) (K+250) l ((w.heap.size,.cells #[i6 n,sV d,sV i,sV f] 37 (0,0))::j) w'):=fun W s=>by rw[J];exact s.put (.inl rfl) m _ (by omega) S T
 have A1:yH (∀W c,SC A (aj X) K l ((w.heap.size,.cells c 37 (0,0))::j) W->yC 32 #[pV (qA A.tw),sV m] W fun e w'=>∃(b:Bool) (c:Nat),e=rV (tV #[bV b,i6 c])/\(A.k.ok->c=0)/\SC A (aj q) (K+250) l j w'):=fun W c s=>by
  rw[I];exact(s.del (.inl rfl) m (by omega)).mono fun e w' ⟨b,c,h1,hq,h2⟩=>⟨b,c,h1,hq,h2.unbox⟩
 have A0:yH (∀W,SC A (aj q) (K+250) l j W->yC 33 #[pV (qA A.sp),sV m] W fun e w'=>e=rV (tV #[])/\SC A (aj u) (K+250) l j w'):=fun W s=>by rw[H];exact s.Bu m (by omega) (by omega)
 have A5:yH (∀W,SC A (aj X) K l ((w.heap.size,.cells #[i6 n,sV d,sV i,sV f] 37 (0,0))::j) W->yC 31 #[gV #[i6 n,sV d,sV i,sV f]] W.drew fun e w'=>e=rV (sV (ir ⟨n,d,i,f⟩))/\SC A (aj X) K l ((w.heap.size,.cells #[i6 n,sV d,sV i,sV f] 37 (0,0))::j) w'):=fun W s=>(A6.o W.drew).mono fun e w' ⟨h1,h2⟩=>⟨h1,s.drew.below h2⟩
 obtain⟨⟨k0,k1,k2,k3⟩,_⟩:=z.iT;clear J I H E S T hk;generalize ir ⟨n,d,i,f⟩=RB at*;generalize ae bM=ER at*;generalize cZ=NC at*;unfold cE;have U:∀w,(binOp .neq 37 (gV #[i6 n,sV d,sV i,sV f]) (gV #[i6 0,sV ⟨#[]⟩,sV ER,sV NC])).run yP w=.ok (bV (!ki n 0 d ⟨#[]⟩ i ER f NC)) w:=fun w=>Ej w _ _ _ _ _ _ _ _
 generalize ki n 0 d ⟨#[]⟩ i ER f NC=SA at*;clear h z L;go_enter func19,ntmps19
 go_upto_region 1 with fail
 rw[<-G];clear G;go_cut [11] (fun v wx=>v=bV (!SA)/\yH (SC A (aj X) K l ((w.heap.size,.cells #[i6 n,sV d,sV i,sV f] 37 (0,0))::j) wx))
 case first=>
  go_region_held3 (fun w'=>w'.cell? ⟨w.heap.size,0,none⟩=some (i6 n)/\w'.cell? ⟨w.heap.size,1,none⟩=some (sV d)/\w'.cell? ⟨w.heap.size,2,none⟩=some (sV i)/\w'.cell? ⟨w.heap.size,3,none⟩=some (sV f)) (go_keep) ((go_at_call 29;refine HO.m ?_;rintro e w2 ⟨rfl,p⟩;obtain⟨⟨m0,m1,m2,m3⟩,_⟩:=p.iT;have t:yH (SC A (aj X) K l ((w.heap.size,.cells #[i6 n,sV d,sV i,sV f] 37 (0,0))::j) w2):=p;clear p))
  all_goals
   go_wp2
   go_meet
   exact⟨rfl,t⟩
 case rest=>
  obtain⟨rfl,D⟩:=hcut;obtain⟨c0,c1⟩:=D.o.cells;cases SA with
  |false=>
   obtain⟨⟨m0,m1,m2,m3⟩,_⟩:=D.o.iT;have P:=A5.o wc D.o;have A7:=aa P;clear P U k0 k1 k2 k3;go_upto_region 2 with fail
   go_region_held3 (fun w'=>w'.cell? ⟨A.sp,1,none⟩=some (pV (qA A.tw))/\w'.cell? ⟨w.heap.size,0,none⟩=some (i6 n)/\w'.cell? ⟨w.heap.size,1,none⟩=some (sV d)/\w'.cell? ⟨w.heap.size,2,none⟩=some (sV i)/\w'.cell? ⟨w.heap.size,3,none⟩=some (sV f)) (go_keep) (first| (go_at_call 31;refine A7.m ?_;rintro e w2 ⟨rfl,p⟩;obtain⟨⟨n0,n1,n2,n3⟩,_⟩:=p.iT;obtain⟨_,c12⟩:=p.cells;have t:yH (SC A (aj X) K l ((w.heap.size,.cells #[i6 n,sV d,sV i,sV f] 37 (0,0))::j) w2):=p;clear p) | (go_at_call 30;refine(A4.o _ t.o).mono ?_;rintro e w3 ⟨c,rfl,Q,r⟩;have V:yH (A.k.ok->c=0):=Q;clear Q;obtain⟨⟨p0,p1,p2,p3⟩,_⟩:=r.iT;obtain⟨_,c13⟩:=r.cells;have F:yH (SC A (aj x) (K+250) l ((w.heap.size,.cells #[i6 n,sV d,sV i,sV f] 37 (0,0))::j) w3):=r;clear r))
   all_goals
    go_wp2
    go_ret
    exact⟨⟨c,x,rfl,fun C=>⟨V.o C,A9.o (by trivial)⟩,F.o.unbox⟩,trivial⟩
  |true=>
   have O:=A1.o wc _ D.o;have A2:=aa O;clear O U k0 k1 k2 k3;go_wp2_with fail
   refine A2.m ?_;rintro e w2 ⟨b,c,rfl,R,p⟩;have t:=aa p;have Y:=aa R;clear p R c0 c1;by_cases M:c=0
   ·subst M;go_wp2_with fail
    refine(A0.o _ t.o).mono ?_;rintro e w3 ⟨rfl,r⟩;have F:=aa r;clear r;go_wp2
    go_ret
    exact⟨⟨0,u,rfl,fun _=>⟨rfl,A8.o (by trivial)⟩,F.o⟩,trivial⟩
   ·have B1:((c:Int) != 0)=true:=by simp;omega
    have A3:yH (A.k.ok->False):=fun C=>M (Y.o C)
    clear M;go_wp2
    go_ret
    exact⟨⟨c,q,rfl,fun C=>(A3.o C).elim,t.o⟩,trivial⟩
def Cn(A:fm)(X:Gh)(d addr:yB)(b:Bool)(e:Ending):Prop:=∃(h:yB) (a:Acc) (c:Nat),e=rV (tV #[sV h,cE a,iV .i64 c])/\iZ a/\(c=0->h=d/\b=true/\addr.size=20/\a.root.size=32/\a.code.size=32)/\(addr.size≠20->c=2)/\(addr.size=20->b=false->c=3)/\(addr.size=20->b=true->A.k.ok->∃th,j7 (bD (X.g A.tw) d) a th c)
def SC.sum{A P K b a w}(h:SC A P K b a w)(s:yB)(hs:s.size<=maxLen):yC 16 #[sV s] w fun e w'=>e=rV (sV (ag s))/\SC A P K b a w':=
 (ja s hs w h.bz).mono fun _ _ ⟨h1,h2⟩=>⟨h1,h.below h2⟩
def vF{A X K f d w}(h:SC A (aj X) K f d w)(addr:yB)(B:addr.size<=maxLen)(i:Bool):
 yC 18 #[pV (qA A.sp),sV addr,bV i] w fun e w'=>Cn A X (ag addr) addr i e/\SC A (aj X) (K+250) f d w':=by
 have g:=h.box #[i6 0,sV ⟨#[]⟩,sV ⟨#[]⟩,sV ⟨#[]⟩] 37;obtain⟨j,k⟩:=yX (w.alloc (.cells #[i6 0,sV ⟨#[]⟩,sV ⟨#[]⟩,sV ⟨#[]⟩] 37))
 rw[<-k] at g;have l:=aa h.fresh;have s:yH (SC A (aj X) K f ((w.heap.size,.cells #[i6 0,sV ⟨#[]⟩,sV ⟨#[]⟩,sV ⟨#[]⟩] 37 (0,0))::d) j):=g;have H:=aa (g.sum addr B);have h32:(ag addr).size=32:=dz _;have F:yH (∀W,SC A (aj X) K f ((w.heap.size,.cells #[i6 0,sV ⟨#[]⟩,sV ⟨#[]⟩,sV ⟨#[]⟩] 37 (0,0))::d) W->yC 20 #[pV (qA A.sp),sV (ag addr)] W fun e w'=>j6 (jM A X (ag addr)) e/\SC A (aj X) (K+250) f ((w.heap.size,.cells #[i6 0,sV ⟨#[]⟩,sV ⟨#[]⟩,sV ⟨#[]⟩] 37 (0,0))::d) w'):=fun W o=>uT o _ (by rw[h32];decide)
 have y:yH (∀c:Nat,c≠0->(addr.size≠20->c=2)->(addr.size=20->i=false->c=3)->(addr.size=20->i=true->False)->Cn A X (ag addr) addr i (rV (tV #[sV ⟨#[]⟩,gV #[i6 0,sV ⟨#[]⟩,sV ⟨#[]⟩,sV ⟨#[]⟩],i6 c]))):=fun c M q1 q2 q3=>⟨⟨#[]⟩,mT,c,rfl,vl,fun h=>absurd h M,q1,q2,fun a b=>(q3 a b).elim⟩
 have u:yH (∀K',SC A (aj X) K f ((w.heap.size,.cells #[i6 0,sV ⟨#[]⟩,sV ⟨#[]⟩,sV ⟨#[]⟩] 37 (0,0))::d) K'->SC A (aj X) (K+250) f d ((((K'.setCell ⟨w.heap.size,0,none⟩ (i6 0)).setCell ⟨w.heap.size,1,none⟩ (sV ⟨#[]⟩)).setCell ⟨w.heap.size,2,none⟩ (sV ⟨#[]⟩)).setCell ⟨w.heap.size,3,none⟩ (sV ⟨#[]⟩))):=fun W o=>((o.cJ l.o _ _ _ _).unbox).mono (by omega)
 have x:yH (SC A (aj X) (K+250) f d j):=g.unbox.mono (by omega);obtain⟨⟨k0,k1,k2,k3⟩,f0,f1,f2,f3⟩:=g.iT;clear h g h32;unfold maxLen at B;generalize ag addr=HA at*;by_cases h20:addr.size=20
 ·have L:(addr.size:Int)=20:=by omega
  cases i with
  |false=>
   go_enter func18,ntmps18
   go_wp2
   (try rw[<-k])
   exact UB (v:=tV #[sV ⟨#[]⟩,gV #[i6 0,sV ⟨#[]⟩,sV ⟨#[]⟩,sV ⟨#[]⟩],i6 3]) (by simp[results,results18,go_sem,k0,k1,k2,k3]) rfl ⟨y.o 3 (by decide) (fun h=>absurd h20 h) (fun _ _=>rfl) (fun _ h=>by cases h),by first|exact x.o|exact u.o _ s.o⟩
  |true=>
   clear k0 k1 k2 k3 f0 f1 f2 f3;go_enter func18,ntmps18
   go_wp2_with fail
   rw[<-k];clear k;refine H.m ?_;rintro e w1 ⟨rfl,z⟩;have G:=aa z;clear z;go_wp2_with fail
   refine(F.o _ G.o).mono ?_;rintro e w2 ⟨⟨a,P,c,rfl,C,E,D⟩,m⟩;have t:=aa m;obtain⟨⟨k0,k1,k2,k3⟩,f0,f1,f2,f3⟩:=m.iT;have N:w.heap.size<w2.heap.size:=UE w2 _ k0;have r:yH (Cn A X HA addr true (rV (tV #[sV HA,cE a,i6 c]))):=⟨HA,a,c,rfl,C,fun h=>⟨rfl,rfl,h20,E h⟩,fun h=>absurd h20 h,(fun _ h=>by cases h),fun _ _ ok=>⟨P,D ok⟩⟩
   obtain⟨n,I,O,J⟩:=a;unfold cE at r⊢;have p:yH (∀cs y0 y1 y2 y3,SC A (aj X) (K+250) f d (((((w2.alloc (.cells cs 37)).setCell ⟨w.heap.size,0,none⟩ y0).setCell ⟨w.heap.size,1,none⟩ y1).setCell ⟨w.heap.size,2,none⟩ y2).setCell ⟨w.heap.size,3,none⟩ y3)):=fun cs y0 y1 y2 y3=>((t.o.below ((Un _ _).alloc (Ug _) _)).cJ l.o _ _ _ _).unbox
   have q:yH (∀cs y0 y1 y2 y3,SC A (aj X) (K+250) f d (((((w2.setCell ⟨w.heap.size,0,none⟩ y0).setCell ⟨w.heap.size,1,none⟩ y1).setCell ⟨w.heap.size,2,none⟩ y2).setCell ⟨w.heap.size,3,none⟩ y3).alloc (.cells cs 37))):=fun cs y0 y1 y2 y3=>((t.o.cJ l.o y0 y1 y2 y3).unbox).below ((Un _ _).alloc (Ug _) _)
   clear m C E D;go_upto_region 7 with fail
   go_region
   all_goals
    go_wp2
    exact UB (v:=tV #[sV HA,gV #[i6 n,sV I,sV O,sV J],i6 c]) (by simp[results,results18,go_sem,k0,k1,k2,k3,N]) rfl ⟨r.o,by first|exact(p.o _ _ _ _ _).drew|exact(q.o _ _ _ _ _).drew|exact p.o _ _ _ _ _ |exact q.o _ _ _ _ _⟩
 ·have L:¬(addr.size:Int)=20:=by omega
  go_enter func18,ntmps18
  go_wp2
  (try rw[<-k])
  exact UB (v:=tV #[sV ⟨#[]⟩,gV #[i6 0,sV ⟨#[]⟩,sV ⟨#[]⟩,sV ⟨#[]⟩],i6 2]) (by simp[results,results18,go_sem,k0,k1,k2,k3]) rfl ⟨y.o 2 (by decide) (fun _=>rfl) (fun h=>absurd h h20) (fun h=>absurd h h20),by first|exact x.o|exact u.o _ s.o⟩
def Wm(A:fm)(m:Mp):GP:=fun X _=>A.k.ok->Wd A.k A.ps A.tw X m gK
def dO(m:Mp)(addr:yB)(a:Bool)(f:Ac->Ac):Mp:=if addr.size=20/\a=true then cQ m (ag addr) (f (aY m (ag addr))) else m
def kN(A:fm)(addr:yB)(a:Bool)(d:Mp)(K:Nat)(f:List Nat)(b:List (Nat×Obj))(e:Ending)(w':World):Prop:=∃c:Nat,e=rV (iV .i64 c)/\(addr.size≠20->c=2)/\(addr.size=20->a=false->c=3)/\(addr.size=20->a=true->A.k.ok->c=0)/\SC A (Wm A d) K f b w'
def we{A:fm}{X m}{addr:yB}{b}(f:Ac->Ac){K n e w}(i:A.k.ok->Wd A.k A.ps A.tw X m gK){a c}(q1:addr.size≠20->c=2)(q2:addr.size=20->b=false->c=3)(q3:addr.size=20->b=true->A.k.ok->∃l,j7 (bD (X.g A.tw) (ag addr)) a l c)(p:c≠0)(h:SC A (aj X) K n e w):kN A addr b (dO m addr b f) K n e (rV (i6 c)) w:=by
 have q:addr.size=20->b=true->A.k.ok->c=0:=fun h1 h2 d=>by
  let⟨l,r⟩:=q3 h1 h2 d;exact((i d).acc r).2.2
 refine⟨c,rfl,q1,q2,q,h.ev fun Y _ o d=>?_⟩;rw[show Y=X from o];unfold dO;rw[Ui (fun j=>p (q j.1 j.2 d))];exact i d
def zq{A:fm}{X j:Gh}{m:Mp}{addr:yB}{i:Bool}{f:Ac->Ac}{K:Nat}{s:List Nat}{o:List (Nat×Obj)}{w:World}(t:A.k.ok->Wd A.k A.ps A.tw X m gK){a a':Acc}{c l:Nat}(q3:addr.size=20->i=true->A.k.ok->∃r,j7 (bD (X.g A.tw) (ag addr)) a r c)(h20:addr.size=20)(n:i=true)(x:∀b:Ac,eo b=a->eo (f b)=a'/\(f b).ss=b.ss)(v:nH a->nH a')(p:A.k.ok->l=0/\j=dT A.tw X (ag addr) a')(h:SC A (aj j) K s o w):kN A addr i (dO m addr i f) K s o (rV (i6 l)) w:=by
 refine⟨l,rfl,fun q=>absurd h20 q,(fun _ q=>by rw[n] at q;cases q),fun _ _ e=>(p e).1,h.ev fun Y _ u e=>?_⟩;let⟨r,y⟩:=q3 h20 n e;have d:=t e;let⟨e1,_⟩:=d.acc y;let⟨f1,f2⟩:=x _ e1.symm;rw[show Y=j from u,(p e).2];unfold dO;rw[Uj ⟨h20,n⟩,<-f1];exact d.set (fun _ _=>id) (by rw[f1];exact v (by rw[e1];exact d.at_ _)) (by rw[f2];exact d.wH _) fun _=>by rw[f2];exact d.rH _
def zc{A m K f d w}(h:SC A (Wm A m) K f d w)(addr:yB)(S:addr.size<=maxLen)(v:yB)(U:v.size<=maxLen)(hN:A.N+K+500<4000000000):
 yC 98 #[pV (qA A.sp),sV addr,sV v] w fun e w'=>kN A addr (bF v) (dO m addr (bF v) (fun b=>{b with aI:=v})) (K+500) f d e w'/\True:=by
 obtain⟨X,_,j,h⟩:=h.nB;obtain⟨l,r⟩:=yX (dO m addr (bF v) (fun b=>{b with aI:=v}))
 rw[<-r];have F:=aa (vF h addr S (bF v));have O:yH (∀p a' W,p.size=32->iZ a'->SC A (aj X) (K+250) f d W->yC 19 #[pV (qA A.sp),sV p,cE a'] W fun e w'=>mO A (dT A.tw X p a') (K+500) f d e w'/\True):=fun p a' W h1 h2 j=>rm j p h1 a' h2 (by omega)
 have H:yH (∀W,yC 112 #[sV v] W fun e w'=>e=rV (bV (bF v))/\w'=W):=fun W=>tW v U W
 clear h;go_enter func98,ntmps98
 go_wp2_with fail
 refine(H.o _).mono ?_;rintro e wx ⟨rfl,V⟩;subst V;go_wp2_with fail
 refine F.m ?_;rintro e w1 ⟨⟨z,a,c,rfl,s,D,q1,q2,q3⟩,o⟩;obtain⟨n,aI,i,g⟩:=a;have x:=(o.box #[i6 n,sV aI,sV i,sV g] 37)
 have Y:=aa o.fresh;have J:yH (c≠0->kN A addr (bF v) l (K+500) f d (rV (i6 c)) (w1.alloc (.cells #[i6 n,sV aI,sV i,sV g] 37))):=fun q=>by rw[r];exact we (fun b=>{b with aI:=v}) j q1 q2 q3 q (x.unbox.mono (by omega))
 have P:yH (SC A (aj X) (K+250) f d (w1.alloc (.cells #[i6 n,sV v,sV i,sV g] 37))):=(o.box #[i6 n,sV v,sV i,sV g] 37).unbox;by_cases q:c=0
 ·subst q;obtain⟨B,C,h20,T,R⟩:=D rfl;obtain⟨Z,y⟩:=yX (dT A.tw X z ⟨n,v,i,g⟩)
  have G:yH (∀(u:Nat) t W,(A.k.ok->u=0/\t=Z)->SC A (aj t) (K+500) f d W->kN A addr (bF v) l (K+500) f d (rV (i6 u)) W):=fun u t W h1 h2=>by
   rw[r];rw[y,B] at h1;exact zq (a':=⟨n,v,i,g⟩) j q3 h20 C (fun b Q=>⟨by cases Q;rfl,rfl⟩) (fun h=>⟨h.n,C,h.root,h.code⟩) h1 h2
  have A1:=mH C;have M:yH (yC 19 #[pV (qA A.sp),sV z,gV #[i6 n,sV v,sV i,sV g]] (w1.alloc (.cells #[i6 n,sV v,sV i,sV g] 37)) fun e w'=>mO A Z (K+500) f d e w'/\True):=by rw[y];exact O.o z ⟨n,v,i,g⟩ _ (by rw[B];exact dz _) ⟨s.n,by show v.size<=_;omega,s.root,s.code⟩ P.o
  clear o x s D y r j q1 q2 q3 h20 T R B;unfold cE;go_wp2_with fail
  refine M.m ?_;rintro e w4 ⟨⟨c4,X4,rfl,h4,E⟩,_⟩;have I:=aa (G.o _ _ _ h4 E);clear E h4;go_wp2
  go_ret
  exact⟨I.o,trivial⟩
 ·have A0:((c:Int) != 0)=true:=by simp;omega
  have L:=aa (J.o q);clear o x s D q r j q1 q2 q3;unfold cE;go_wp2
  go_ret
  exact⟨L.o,trivial⟩
def zb{A m K f d w}(h:SC A (Wm A m) K f d w)(addr:yB)(R:addr.size<=maxLen)(v:yB)(T:v.size=32)(Y:A.N+K+500<4000000000):
 yC 99 #[pV (qA A.sp),sV addr,sV v] w fun e w'=>kN A addr true (dO m addr true (fun b=>{b with code:=v})) (K+500) f d e w'/\True:=by
 obtain⟨X,_,j,h⟩:=h.nB;obtain⟨l,r⟩:=yX (dO m addr true (fun b=>{b with code:=v}))
 rw[<-r];have E:=aa (vF h addr R true);have L:yH (∀p a' W,p.size=32->iZ a'->SC A (aj X) (K+250) f d W->yC 19 #[pV (qA A.sp),sV p,cE a'] W fun e w'=>mO A (dT A.tw X p a') (K+500) f d e w'/\True):=fun p a' W h1 h2 j=>rm j p h1 a' h2 (by omega)
 have A1:(v.size:Int)=32:=by omega
 clear h;go_enter func99,ntmps99
 go_wp2_with fail
 refine E.m ?_;rintro e w1 ⟨⟨z,a,c,rfl,s,C,q1,q2,q3⟩,o⟩;obtain⟨n,g,i,code⟩:=a;have x:=(o.box #[i6 n,sV g,sV i,sV code] 37)
 have U:=aa o.fresh;have H:yH (c≠0->kN A addr true l (K+500) f d (rV (i6 c)) (w1.alloc (.cells #[i6 n,sV g,sV i,sV code] 37))):=fun q=>by rw[r];exact we (fun b=>{b with code:=v}) j q1 q2 q3 q (x.unbox.mono (by omega))
 have M:yH (SC A (aj X) (K+250) f d (w1.alloc (.cells #[i6 n,sV g,sV i,sV v] 37))):=(o.box #[i6 n,sV g,sV i,sV v] 37).unbox;by_cases q:c=0
 ·subst q;obtain⟨B,Q,h20,S,P⟩:=C rfl;obtain⟨Z,y⟩:=yX (dT A.tw X z ⟨n,g,i,v⟩)
  have F:yH (∀(u:Nat) t W,(A.k.ok->u=0/\t=Z)->SC A (aj t) (K+500) f d W->kN A addr true l (K+500) f d (rV (i6 u)) W):=fun u t W h1 h2=>by
   rw[r];rw[y,B] at h1;exact zq (a':=⟨n,g,i,v⟩) j q3 h20 Q (fun b O=>⟨by cases O;rfl,rfl⟩) (fun h=>⟨h.n,h.aI,h.root,T⟩) h1 h2
  have J:yH (yC 19 #[pV (qA A.sp),sV z,gV #[i6 n,sV g,sV i,sV v]] (w1.alloc (.cells #[i6 n,sV g,sV i,sV v] 37)) fun e w'=>mO A Z (K+500) f d e w'/\True):=by rw[y];exact L.o z ⟨n,g,i,v⟩ _ (by rw[B];exact dz _) ⟨s.n,s.aI,s.root,by show v.size<=_;omega⟩ M.o
  clear o x s C y r j q1 q2 q3 h20 S P B;unfold cE;go_wp2_with fail
  refine J.m ?_;rintro e w4 ⟨⟨c4,V,rfl,h4,D⟩,_⟩;have G:=aa (F.o _ _ _ h4 D);clear D h4;go_wp2
  go_ret
  exact⟨G.o,trivial⟩
 ·have A0:((c:Int) != 0)=true:=by simp;omega
  have I:=aa (H.o q);clear o x s C q r j q1 q2 q3;unfold cE;go_wp2
  go_ret
  exact⟨I.o,trivial⟩
def MC{A m K f d w}(h:SC A (Wm A m) K f d w)(addr:yB)(T:addr.size<=maxLen)(x:Nat)(F:x<9223372036854775808)(hN:A.N+K+500<4000000000):
 yC 9 #[pV (qA A.sp),sV addr,i6 x] w fun e w'=>kN A addr true (dO m addr true (fun b=>{b with n:=x})) (K+500) f d e w'/\True:=by
 obtain⟨X,_,l,h⟩:=h.nB;obtain⟨o,s⟩:=yX (dO m addr true (fun b=>{b with n:=x}))
 rw[<-s];have G:yH (yC 18 #[pV (qA A.sp),sV addr,bV true] w fun e w'=>Cn A X (ag addr) addr true e/\SC A (aj X) (K+250) f d w'):=vF h addr T true;have O:yH (∀q a' W,q.size=32->iZ a'->SC A (aj X) (K+250) f d W->yC 19 #[pV (qA A.sp),sV q,cE a'] W fun e w'=>mO A (dT A.tw X q a') (K+500) f d e w'/\True):=fun q a' W h1 h2 l=>rm l q h1 a' h2 (by omega)
 have A1:(0:Int)<=(x:Int):=by omega
 clear h;go_enter func9,ntmps9
 go_wp2_with fail
 refine G.m ?_;rintro e w1 ⟨⟨B,a,c,rfl,t,D,q1,q2,q3⟩,p⟩;obtain⟨n,g,j,i⟩:=a;have y:=(p.box #[i6 n,sV g,sV j,sV i] 37)
 have V:yH (∀b∈d,b.1≠w1.heap.size):=p.fresh;have J:yH (c≠0->kN A addr true o (K+500) f d (rV (i6 c)) (w1.alloc (.cells #[i6 n,sV g,sV j,sV i] 37))):=fun r=>by rw[s];exact we (fun b=>{b with n:=x}) l q1 q2 q3 r (y.unbox.mono (by omega))
 have P:yH (SC A (aj X) (K+250) f d (w1.alloc (.cells #[i6 x,sV g,sV j,sV i] 37))):=(p.box #[i6 x,sV g,sV j,sV i] 37).unbox;by_cases r:c=0
 ·subst r;obtain⟨C,S,h20,U,R⟩:=D rfl;obtain⟨Z,z⟩:=yX (dT A.tw X B ⟨x,g,j,i⟩)
  have H:yH (∀(v:Nat) u W,(A.k.ok->v=0/\u=Z)->SC A (aj u) (K+500) f d W->kN A addr true o (K+500) f d (rV (i6 v)) W):=fun v u W h1 h2=>by
   rw[s];rw[z,C] at h1;exact zq (a':=⟨x,g,j,i⟩) l q3 h20 S (fun b Q=>⟨by cases Q;rfl,rfl⟩) (fun h=>⟨F,h.aI,h.root,h.code⟩) h1 h2
  have M:yH (yC 19 #[pV (qA A.sp),sV B,gV #[i6 x,sV g,sV j,sV i]] (w1.alloc (.cells #[i6 x,sV g,sV j,sV i] 37)) fun e w'=>mO A Z (K+500) f d e w'/\True):=by rw[z];exact O.o B ⟨x,g,j,i⟩ _ (by rw[C];exact dz _) ⟨F,t.aI,t.root,t.code⟩ P.o
  clear p y t D z s l q1 q2 q3 h20 U R C;unfold cE;go_wp2_with fail
  refine M.m ?_;rintro e w4 ⟨⟨c4,Y,rfl,h4,E⟩,_⟩;have I:yH (kN A addr true o (K+500) f d (rV (i6 c4)) w4):=H.o _ _ _ h4 E;clear E h4;go_wp2
  go_ret
  exact⟨I.o,trivial⟩
 ·have A0:((c:Int) != 0)=true:=by simp;omega
  have L:yH (kN A addr true o (K+500) f d (rV (i6 c)) (w1.alloc (.cells #[i6 n,sV g,sV j,sV i] 37))):=J.o r;clear p y t D r s l q1 q2 q3;unfold cE;go_wp2
  go_ret
  exact⟨L.o,trivial⟩
def MD{A m K d b w}(h:SC A (Wm A m) K d b w)(addr:yB)(t:addr.size<=maxLen)(x:Int)(z:x<0):
 yC 9 #[pV (qA A.sp),sV addr,i6 x] w fun e w'=>kN A addr false (dO m addr false id) (K+500) d b e w'/\True:=by
 obtain⟨X,_,l,h⟩:=h.nB;obtain⟨g,f⟩:=yX (dO m addr false id)
 rw[<-f];have r:=aa (vF h addr t false);have B:¬(0:Int)<=x:=by omega
 clear h;go_enter func9,ntmps9
 go_wp2_with fail
 refine r.m ?_;rintro e w1 ⟨⟨y,a,c,rfl,u,p,q1,q2,q3⟩,k⟩;have o:c≠0:=fun e=>by have:=(p e).2.1;cases this
 obtain⟨n,i,q,j⟩:=a;have s:yH (kN A addr false g (K+500) d b (rV (i6 c)) (w1.alloc (.cells #[i6 n,sV i,sV q,sV j] 37))):=by rw[f];exact we id l q1 q2 q3 o ((k.box #[i6 n,sV i,sV q,sV j] 37).unbox.mono (by omega))
 have v:((c:Int) != 0)=true:=by simp;omega
 clear k u p o f l q1 q2 q3;unfold cE;go_wp2
 go_ret
 exact⟨s.o,trivial⟩
def Kg{A X K f d w}(h:SC A (aj X) K f d w)(addr:yB)(q:addr.size<=maxLen):
 yC 10 #[pV (qA A.sp),sV addr] w fun e w'=>(j6 (fun a g c=>addr.size=20->jM A X (ag addr) a g c) e/\(addr.size≠20->∃v,e=rV (tV #[v,bV false,i6 2])))/\SC A (aj X) (K+250) f d w':=by
 have i:=h.box #[i6 0,sV ⟨#[]⟩,sV ⟨#[]⟩,sV ⟨#[]⟩] 37;obtain⟨j,l⟩:=yX (w.alloc (.cells #[i6 0,sV ⟨#[]⟩,sV ⟨#[]⟩,sV ⟨#[]⟩] 37))
 rw[<-l] at i;have o:yH (∀b∈d,b.1≠w.heap.size):=h.fresh;have J:=aa i;have z:=aa (i.sum addr q);have h32:(ag addr).size=32:=dz _;have u:yH (∀W,SC A (aj X) K f ((w.heap.size,.cells #[i6 0,sV ⟨#[]⟩,sV ⟨#[]⟩,sV ⟨#[]⟩] 37 (0,0))::d) W->yC 20 #[pV (qA A.sp),sV (ag addr)] W fun e w'=>j6 (jM A X (ag addr)) e/\SC A (aj X) (K+250) f ((w.heap.size,.cells #[i6 0,sV ⟨#[]⟩,sV ⟨#[]⟩,sV ⟨#[]⟩] 37 (0,0))::d) w'):=fun W G=>uT G _ (by rw[h32];decide)
 have B:yH (SC A (aj X) (K+250) f d ((((j.setCell ⟨w.heap.size,0,none⟩ (i6 0)).setCell ⟨w.heap.size,1,none⟩ (sV ⟨#[]⟩)).setCell ⟨w.heap.size,2,none⟩ (sV ⟨#[]⟩)).setCell ⟨w.heap.size,3,none⟩ (sV ⟨#[]⟩))):=((i.cJ o.o _ _ _ _).unbox).mono (by omega);have C:yH (SC A (aj X) (K+250) f d j):=i.unbox.mono (by omega);obtain⟨⟨k0,k1,k2,k3⟩,f0,f1,f2,f3⟩:=i.iT;clear h i h32;unfold maxLen at q;generalize ag addr=HA at*;by_cases h20:addr.size=20
 ·have F:(addr.size:Int)=20:=by omega
  clear k0 k1 k2 k3 f0 f1 f2 f3;go_enter func10,ntmps10
  go_wp2_with fail
  rw[<-l];clear l;refine z.m ?_;rintro e w1 ⟨rfl,p⟩;have x:=aa p;clear p;go_wp2_with fail
  refine(u.o _ x.o).mono ?_;rintro e w2 ⟨⟨a,g,c,rfl,r,t,s⟩,m⟩;have y:=aa m;obtain⟨⟨k0,k1,k2,k3⟩,f0,f1,f2,f3⟩:=m.iT;have k:yH (j6 (fun a g c=>addr.size=20->jM A X HA a g c) (rV (tV #[cE a,bV g,i6 c]))):=⟨a,g,c,rfl,r,t,fun _=>s⟩
  obtain⟨n,D,I,E⟩:=a;unfold cE at k⊢;clear m r t s;go_wp2
  exact UB (v:=tV #[gV #[i6 n,sV D,sV I,sV E],bV g,i6 c]) (by simp[results,results10,go_sem,k0,k1,k2,k3]) rfl ⟨⟨k.o,fun H=>absurd h20 H⟩,(y.o.cJ o.o _ _ _ _).unbox⟩
 ·have F:¬(addr.size:Int)=20:=by omega
  have k:yH (j6 (fun a g c=>addr.size=20->jM A X HA a g c) (rV (tV #[gV #[i6 0,sV ⟨#[]⟩,sV ⟨#[]⟩,sV ⟨#[]⟩],bV false,i6 2]))):=⟨mT,false,2,rfl,vl,(fun h=>by cases h),fun h=>absurd h h20⟩
  go_enter func10,ntmps10
  go_wp2
  (try rw[<-l])
  exact UB (v:=tV #[gV #[i6 0,sV ⟨#[]⟩,sV ⟨#[]⟩,sV ⟨#[]⟩],bV false,i6 2]) (by simp[results,results10,go_sem,k0,k1,k2,k3]) rfl ⟨⟨k.o,fun _=>⟨_,rfl⟩⟩,by first|exact C.o|exact B.o⟩
def Kh(A:fm)(m:Mp)(addr:yB)(a:Acc)(b:Bool)(c:Nat):Prop:=addr.size=20->A.k.ok->a=eo (aY m (ag addr))/\b=(m (ag addr)).isSome/\c=0
def TQ{A m K g b w}(h:SC A (Wm A m) K g b w)(addr:yB)(k:addr.size<=maxLen):
 yC 10 #[pV (qA A.sp),sV addr] w fun e w'=>(j6 (Kh A m addr) e/\(addr.size≠20->∃v,e=rV (tV #[v,bV false,i6 2])))/\SC A (Wm A m) (K+250) g b w':=by
 let⟨X,_,d,h⟩:=h.nB;refine(Kg h addr k).mono ?_;rintro e w' ⟨⟨⟨a,p,c,rfl,l,o,n⟩,h2⟩,i⟩;exact⟨⟨⟨a,p,c,rfl,l,o,fun h20 f=>(d f).acc (n h20 f)⟩,h2⟩,i.ev fun Y _ j=>by rw[show Y=X from j];exact d⟩
def JQ(A:fm)(P:GP)(r:yB):Prop:=∃X,P X r/\(A.k.ok->r=cY (X.g A.tw)/\cT (X.g A.tw))
def ML{A P K b a w}(h:SC A P K b a w):
 yC 11 #[pV (qA A.sp)] w fun e w'=>(∃r:yB,e=rV (sV r)/\r.size=32/\JQ A P r)/\SC A P K b a w':=by
 have g:yH (yC 21 #[pV (qA A.tw)] w fun e w'=>∃r:yB,e=rV (sV r)/\r.size=32/\JQ A P r/\SC A P K b a w'):=(h.root (.inl rfl)).mono fun e w' ⟨r,h1,h2,⟨X,s,q1,q2,q3⟩,h4⟩=>⟨r,h1,h2,⟨X,by rw[q2 rfl];exact q1,q3⟩,h4⟩
 obtain⟨c0,c1⟩:=h.cells;clear h;go_enter func11,ntmps11
 go_wp2_with fail
 refine g.m ?_;rintro e w1 ⟨r,rfl,h32,d,c⟩;have i:=aa c;have f:=aa h32;have j:=aa d;clear c h32 d;go_wp2
 go_ret
 exact⟨⟨r,rfl,f.o,j.o⟩,i.o⟩
def Kb(A:fm)(m:Mp)(addr:yB)(K:Nat)(d:List Nat)(a:List (Nat×Obj))(e:Ending)(w':World):Prop:=∃(b:Bool) (c:Nat),e=rV (tV #[bV b,iV .i64 c])/\(addr.size≠20->b=false/\c=2)/\(addr.size=20->A.k.ok->b=(m (ag addr)).isSome/\c=0)/\SC A (Wm A (dO m addr true fun _=>lP)) K d a w'
def MP{A m K d b w}(h:SC A (Wm A m) K d b w)(addr:yB)(Q:addr.size<=maxLen)(hN:A.N+K+500<4000000000):
 yC 130 #[pV (qA A.sp),sV addr] w fun e w'=>Kb A m addr (K+500) d b e w'/\True:=by
 obtain⟨X,_,g,h⟩:=h.nB;have T:yH (yC 10 #[pV (qA A.sp),sV addr] w fun e w'=>(j6 (fun a i c=>addr.size=20->jM A X (ag addr) a i c) e/\(addr.size≠20->∃v,e=rV (tV #[v,bV false,i6 2])))/\SC A (aj X) (K+250) d b w'):=Kg h addr Q;have h32:(ag addr).size=32:=dz _;have A3:yH (∀W,SC A (aj X) (K+250) d b W->yC 16 #[sV addr] W fun e w'=>e=rV (sV (ag addr))/\SC A (aj X) (K+250) d b w'):=fun W g=>g.sum addr Q
 have V:yH (∀W,SC A (aj X) (K+250) d b W->yC 29 #[] W fun e w'=>e=rV (cE gC)/\SC A (aj X) (K+250) d b w'):=fun W g=>(vK W g.bz).mono fun _ _ ⟨h1,h2⟩=>⟨h1,g.below h2⟩
 have G:yH (∀W,SC A (aj X) (K+250) d b W->yC 19 #[pV (qA A.sp),sV (ag addr),cE gC] W fun e w'=>mO A (dT A.tw X (ag addr) gC) (K+500) d b e w'/\True):=fun W g=>rm g _ h32 _ nX.1 (by omega)
 obtain⟨R,r⟩:=yX (Kb A m addr (K+500) d b)
 have U:yH (∀(a:Acc) (c:Nat) i W,(addr.size=20->jM A X (ag addr) a i c)->(addr.size≠20->c=2)->c≠0\/i=false->SC A (aj X) (K+500) d b W->R (rV (tV #[bV false,i6 c])) W):=fun a c i W q1 q2 q3 l=>by
  rw[r];have key:addr.size=20->A.k.ok->c=0/\m (ag addr)=none:=fun h20 f=>by
   obtain⟨_,e2,e3⟩:=(g f).acc (q1 h20 f);refine⟨e3,?_⟩;rcases q3 with q3|q3
   ·exact absurd e3 q3
   ·rw[q3] at e2;cases hf:m (ag addr) with
    |none=>rfl
    |some x=>rw[hf] at e2;cases e2
  refine⟨false,c,rfl,fun h=>⟨rfl,q2 h⟩,fun h20 f=>⟨by rw[(key h20 f).2];rfl,(key h20 f).1⟩,l.ev fun Y _ z f=>?_⟩;rw[show Y=X from z];unfold dO;split
  ·next h20=>
   rw[Ed (key h20.1 f).2];exact g f
  ·exact g f
 have E:yH (∀(a:Acc) (c:Nat) j W,(addr.size=20->jM A X (ag addr) a true 0)->(addr.size≠20->(0:Nat)=2)->(A.k.ok->c=0/\j=dT A.tw X (ag addr) gC)->SC A (aj j) (K+500) d b W->R (rV (tV #[bV ((c:Int) == 0),i6 c])) W):=fun a c j W q1 q2 q3 l=>by
  rw[r];have h20:addr.size=20:=Vn fun h=>by have:=q2 h;cases this
  refine⟨_,c,rfl,fun h=>absurd h20 h,fun _ f=>⟨?_,(q3 f).1⟩,l.ev fun Y _ z f=>?_⟩
  ·rw[(q3 f).1,<-((g f).acc (q1 h20 f)).2.1];rfl
  ·rw[show Y=j from z,(q3 f).2,<-zK];unfold dO;rw[Uj ⟨h20,rfl⟩];exact(g f).set (fun _ _=>id) (a:=lP) ⟨nX.1.n,rfl,nX.2.1,nX.2.2⟩ o9 fun h=>absurd ((rW _).2 zK) h
 obtain⟨Z,P⟩:=yX (dT A.tw X (ag addr) gC)
 rw[<-P] at G E;rw[<-r];clear h h32 g r P;generalize ag addr=HA at*;generalize cE gC=VN at*;go_enter func130,ntmps130
 go_wp2_with fail
 refine T.m ?_;rintro e w1 ⟨⟨⟨a,i,c,rfl,A4,hz,S⟩,h2⟩,J⟩;have h2:addr.size≠20->c=2:=fun h=>by
  obtain⟨v,e⟩:=h2 h;injection e with e;injection e with e;have e:=congrArg (fun q:Array Value=>q[2]?) e;simp at e;omega
 have p:=U.o a c i;have s:=E.o a;have I:yH (addr.size=20->jM A X HA a i c):=S;have D:yH (addr.size≠20->c=2):=h2;obtain⟨n,u,C,y⟩:=a;have H:yH (SC A (aj X) (K+250) d b (w1.alloc (.cells #[i6 n,sV u,sV C,sV y] 37))):=(J.box #[i6 n,sV u,sV C,sV y] 37).unbox;have F:yH (SC A (aj X) (K+500) d b (w1.alloc (.cells #[i6 n,sV u,sV C,sV y] 37))):=H.o.mono (by omega);have p:yH (c≠0\/i=false->∀W,SC A (aj X) (K+500) d b W->R (rV (tV #[bV false,i6 c])) W):=fun h W l=>p W I.o D.o h l
 have s:yH (c=0->i=true->∀(o:Nat) j W,(A.k.ok->o=0/\j=Z)->SC A (aj j) (K+500) d b W->R (rV (tV #[bV ((o:Int) == 0),i6 o])) W):=fun e1 e2 o j W h l=>s o j W (by rw[<-e1,<-e2];exact I.o) (by rw[<-e1];exact D.o) h l
 clear J A4 hz S h2;unfold cE;by_cases B:c=0
 ·subst B;cases i with
  |false=>
   go_wp2
   go_ret2
   exact⟨p.o (.inr (by trivial)) _ F.o,trivial⟩
  |true=>
   go_wp2_with fail
   refine(A3.o _ H.o).mono ?_;rintro e w2 ⟨rfl,L⟩;have A0:yH (SC A (aj X) (K+250) d b w2):=L;clear L;go_wp2_with fail
   refine(V.o _ A0.o).mono ?_;rintro e w3 ⟨rfl,M⟩;have A1:yH (SC A (aj X) (K+250) d b w3):=M;clear M;go_wp2_with fail
   refine(G.o _ A1.o).mono ?_;rintro e w4 ⟨⟨c4,X4,rfl,h4,O⟩,_⟩;have A2:yH (R (rV (tV #[bV ((c4:Int) == 0),i6 c4])) w4):=s.o (by trivial) (by trivial) _ _ _ h4 O;clear O h4;go_wp2
   go_ret2
   exact⟨A2.o,trivial⟩
 ·have A5:((c:Int) != 0)=true:=by simp;omega
  have t:=p.o (.inl B);have t:yH (∀W,SC A (aj X) (K+500) d b W->R (rV (tV #[bV false,i6 c])) W):=t;clear B;go_wp2
  go_ret2
  exact⟨t.o _ F.o,trivial⟩
def fP(A:fm)(b:Mp)(K:Nat)(d:List Nat)(a:List (Nat×Obj))(e:Ending)(w':World):Prop:=∃c:Nat,e=rV (iV .i64 c)/\(A.k.ok->c=0)/\SC A (Wm A b) K d a w'
def SC.lost{A:fm}{P:GP}{e:Mp}{K:Nat}{d:List Nat}{a:List (Nat×Obj)}{w:World}{c:Nat}(h:SC A P K d a w)(b:A.k.ok->c=0)(h0:c≠0):fP A e K d a (rV (i6 c)) w:=⟨c,rfl,b,h.ev fun _ _ _ ok=>absurd (b ok) h0⟩
def SC.np{A P K c b a w}(h:SC A P K (c::b) a w):SC A P K b a w:=h.drop (fun _ ht=>Ul _ ht) fun _ hb=>hb
def RM{A X m K j i w}(h:SC A (aj X) K j i w)(p:yB)(hk:p.size=32)(a:Acc)(C:iZ a)(E:a.root.size=32)(key q:yB)(R:key.size<=40)(A4:0<q.size)(Q:q.size<=160)(y:A.k.ok->Wd A.k A.ps A.tw X m gK/\a=eo (aY m p))(hN:A.N+K+800<4000000000):
 yC 131 #[pV (qA A.sp),sV p,cE a,sV key,sV q] w fun e w'=>fP A (cQ m p {aY m p with ss:=aL (aY m p).ss key q}) (K+751) j i e w'/\True:=by
 obtain⟨v,S⟩:=yX (cQ m p {aY m p with ss:=aL (aY m p).ss key q})
 obtain⟨x,T⟩:=yX ((aY m p).ss)
 rw[<-S];obtain⟨n,s,z,t⟩:=a;simp only at E;have M:=h.box #[i6 n,sV s,sV z,sV t] 37;obtain⟨H,L⟩:=yX (w.alloc (.cells #[i6 n,sV s,sV z,sV t] 37))
 rw[<-L] at M;have B2:=aa h.fresh;have C2:yH (yC 125 #[pV (qA A.sp),sV p,sV z] H fun e w'=>∃d X',e=rV (pV (qA d))/\jF X p x d X'/\d≠A.tw/\SC A (aj X') (K+1) (d::j) ((w.heap.size,.cells #[i6 n,sV s,sV z,sV t] 37 (0,0))::i) w'):=M.slotsOf p z (by omega) E (by omega) x fun u ho=>by
  obtain⟨h1,h2⟩:=y u;have:=(h1.rH p).2 ho;injection h2 with _ _ h2 _;rw[h2,T];exact this
 have B4:yH (∀d l W,SC A (aj l) (K+1) (d::j) ((w.heap.size,.cells #[i6 n,sV s,sV z,sV t] 37 (0,0))::i) W->yC 150 #[pV (qA d),sV key,sV q] W fun e w'=>∃(r:yB) (c:Nat),e=rV (tV #[sV r,i6 c])/\r.size<=32/\(c=0->r.size=32)/\(A.k.ok->c=0/\r=cY (aL (l.g d) key q))/\SC A (aj l) (K+1+250) (d::j) ((w.heap.size,.cells #[i6 n,sV s,sV z,sV t] 37 (0,0))::i) w'):=fun d l W y=>y.zf (.inr (Uk ..)) key q R A4 Q
 have C3:yH (∀d l r W,r.size<=32->SC A (aj l) (K+1+250) (d::j) i W->yC 19 #[pV (qA A.sp),sV p,gV #[i6 n,sV s,sV r,sV t]] W fun e w'=>mO A (dT A.tw l p ⟨n,s,r,t⟩) (K+1+250+250) (d::j) i e w'/\True):=fun d l r W E y=>rm y p hk ⟨n,s,r,t⟩ ⟨C.n,C.aI,E,C.code⟩ (by omega)
 have B3:yH (∀d f W,SC A (aj f) (K+1+250+250) (d::j) i W->yC 30 #[pV (qA d),sV key,sV q] W fun e w'=>∃c:Nat,e=rV (i6 c)/\(A.k.ok->c=0)/\SC A (aj ⟨aE f.g d (aL (f.g d) key q),f.o⟩) (K+751) j i w'):=fun d f W y=>(y.put (.inr (Uk ..)) key q R A4 Q).mono fun _ _ ⟨c,h1,D,h2⟩=>⟨c,h1,D,h2.np.mono (by omega)⟩
 have A8:yH (∀(d:Nat) l r f (c4 c5:Nat) W,jF X p x d l->d≠A.tw->r.size=32->(A.k.ok->r=cY (aL (l.g d) key q))->(A.k.ok->c4=0/\f=dT A.tw l p ⟨n,s,r,t⟩)->(A.k.ok->c5=0)->SC A (aj ⟨aE f.g d (aL (f.g d) key q),f.o⟩) (K+751) j i W->fP A v (K+751) j i (rV (i6 c5)) W):=fun d l r f c4 c5 W s1 s2 s3 s4 s5 s6 hS=>⟨c5,rfl,s6,hS.ev fun Y _ hY u=>by
  obtain⟨h1,h2⟩:=y u;rw[T] at s1;have h3:=(h1.open_ s1 s2).2.2;have A7:=s4 u;rw[h3] at A7;have e4:=(s5 u).2;injection h2 with g1 g2 g3 g4;rw[g1,g2,g4] at e4;have:=h1.filled s1 s2 (rM (h1.wH p) key q R Q) A7 e4;rw[show Y=_ from hY,S,this.2];exact this.1⟩
 clear h M C y S T;unfold cE;go_enter func131,ntmps131
 go_wp2_with fail
 rw[<-L];clear L;refine C2.m ?_;rintro e w1 ⟨d,l,rfl,s1,s2,A1⟩;have U:=A8.o d l;have A9:yH (∀r f (c4 c5:Nat) W,r.size=32->(A.k.ok->r=cY (aL (l.g d) key q))->(A.k.ok->c4=0/\f=dT A.tw l p ⟨n,s,r,t⟩)->(A.k.ok->c5=0)->SC A (aj ⟨aE f.g d (aL (f.g d) key q),f.o⟩) (K+751) j i W->fP A v (K+751) j i (rV (i6 c5)) W):=fun r f c4 c5 W=>U r f c4 c5 W s1 s2
 clear U s1 s2;have B5:=aa A1;clear A1;go_wp2_with fail
 refine(B4.o _ _ _ B5.o).mono ?_;rintro e w2 ⟨r,c,rfl,A5,A6,D,I⟩;have V:=aa D;clear D;have A0:=aa I;obtain⟨⟨k0,k1,k2,k3⟩,f0,f1,f2,f3⟩:=I.iT;clear I;by_cases O:c=0
 ·subst O;have A2:=A0.o.Eg B2.o (sV r) 2;have B6:=aa A2.unbox;have G:=C3.o d l r _ A5 B6.o;have B:=A9.o r;obtain⟨Z,hZ⟩:=yX (dT A.tw l p ⟨n,s,r,t⟩)
  rw[<-hZ] at G B;have B0:yH (∀f (c4 c5:Nat) W,(A.k.ok->c4=0/\f=Z)->(A.k.ok->c5=0)->SC A (aj ⟨aE f.g d (aL (f.g d) key q),f.o⟩) (K+751) j i W->fP A v (K+751) j i (rV (i6 c5)) W):=fun f c4 c5 W=>B f c4 c5 W (A6 rfl) fun u=>(V.o u).2
  clear B hZ;have C1:=aa G;clear A2 G A5 A6;go_wp2_with fail
  refine C1.m ?_;rintro e w4 ⟨⟨c4,f,rfl,q4,J⟩,_⟩;have B7:=aa J;have B8:yH (c4≠0->fP A v (K+751) j i (rV (i6 c4)) w4):=fun h0=>SC.lost (J.np.mono (by omega)) (fun u=>(q4 u).1) h0
  have B:=B0.o f c4;have B1:yH (∀(c5:Nat) W,(A.k.ok->c5=0)->SC A (aj ⟨aE f.g d (aL (f.g d) key q),f.o⟩) (K+751) j i W->fP A v (K+751) j i (rV (i6 c5)) W):=fun c5 W=>B c5 W q4
  clear B q4;clear J k0 k1 k2 k3 f0 f1 f2 f3;by_cases P:c4=0
  ·subst P;go_wp2_with fail
   refine(B3.o _ _ _ B7.o).mono ?_;rintro e w5 ⟨c5,rfl,q5,A3⟩;have B9:=aa (B1.o _ _ q5 A3);clear A3 q5;go_wp2
   go_ret
   exact⟨B9.o,trivial⟩
  ·have C4:((c4:Int) != 0)=true:=by simp;omega
   have F:=B8.o P;have F:=aa F;clear P;go_wp2
   go_ret
   exact⟨F.o,trivial⟩
 ·have C4:((c:Int) != 0)=true:=by simp;omega
  have C0:yH (fP A v (K+751) j i (rV (i6 c)) w2):=SC.lost (A0.o.unbox.np.mono (by omega)) (fun u=>(V.o u).1) O;clear O;go_wp2
  go_ret
  exact⟨C0.o,trivial⟩
def SP{A X m K i f w}(h:SC A (aj X) K i f w)(l:yB)(hk:l.size=32)(a:Acc)(D:iZ a)(V:a.root.size=32)(key:yB)(T:key.size<=40)(C:A.k.ok->Wd A.k A.ps A.tw X m gK/\a=eo (aY m l)/\(m l).isSome=true)(hN:A.N+K+1100<4000000000):
 yC 133 #[pV (qA A.sp),sV l,cE a,sV key] w fun e w'=>fP A (cQ m l {aY m l with ss:=aL (aY m l).ss key ⟨#[]⟩}) (K+1001) i f e w'/\True:=by
 obtain⟨z,U⟩:∃z,z=cQ m l {aY m l with ss:=aL (aY m l).ss key ⟨#[]⟩}:=⟨_,rfl⟩
 obtain⟨x,hx⟩:∃x,x=(aY m l).ss:=⟨_,rfl⟩
 rw[<-U];obtain⟨n,s,B,t⟩:=a;simp only at V;have hb:=h.box #[i6 n,sV s,sV B,sV t] 37;obtain⟨W0,A4⟩:∃W0,W0=w.alloc (.cells #[i6 n,sV s,sV B,sV t] 37):=⟨_,rfl⟩
 rw[<-A4] at hb;have B8:=aa h.fresh;have D1:yH (yC 125 #[pV (qA A.sp),sV l,sV B] W0 fun e w'=>∃d X',e=rV (pV (qA d))/\jF X l x d X'/\d≠A.tw/\SC A (aj X') (K+1) (d::i) ((w.heap.size,.cells #[i6 n,sV s,sV B,sV t] 37 (0,0))::f) w'):=hb.slotsOf l B (by omega) V (by omega) x fun y ho=>by
  obtain⟨h1,h2,_⟩:=C y;have:=(h1.rH l).2 ho;injection h2 with _ _ h2 _;rw[h2,hx];exact this
 have B9:yH (∀d j W,SC A (aj j) (K+1) (d::i) ((w.heap.size,.cells #[i6 n,sV s,sV B,sV t] 37 (0,0))::f) W->yC 34 #[pV (qA d),sV key] W fun e w'=>∃(v:yB) (c:Nat),e=rV (tV #[sV v,i6 c])/\v.size<=160/\(A.k.ok->c=0/\v=bD (j.g d) key)/\SC A (aj j) (K+1+250) (d::i) ((w.heap.size,.cells #[i6 n,sV s,sV B,sV t] 37 (0,0))::f) w'):=fun d j W C=>C.get (.inr (Uk ..)) key T
 have B6:yH (∀d j W,SC A (aj j) (K+1+250) (d::i) ((w.heap.size,.cells #[i6 n,sV s,sV B,sV t] 37 (0,0))::f) W->yC 32 #[pV (qA d),sV key] W fun e w'=>∃(b:Bool) (c:Nat),e=rV (tV #[bV b,i6 c])/\(A.k.ok->c=0)/\SC A (aj ⟨aE j.g d (aL (j.g d) key ⟨#[]⟩),j.o⟩) (K+1+250+250) (d::i) ((w.heap.size,.cells #[i6 n,sV s,sV B,sV t] 37 (0,0))::f) w'):=fun d j W C=>C.del (.inr (Uk ..)) key T
 have C3:yH (∀d u W,SC A (aj u) (K+1+250+250) (d::i) ((w.heap.size,.cells #[i6 n,sV s,sV B,sV t] 37 (0,0))::f) W->yC 21 #[pV (qA d)] W fun e w'=>∃r:yB,e=rV (sV r)/\r.size=32/\(A.k.ok->r=cY (u.g d))/\SC A (aj u) (K+1+250+250) (d::i) ((w.heap.size,.cells #[i6 n,sV s,sV B,sV t] 37 (0,0))::f) w'):=fun d u W C=>(C.root (.inr (Uk ..))).mono fun e w' ⟨r,h1,h2,⟨Y,_,L,_,q⟩,h3⟩=>⟨r,h1,h2,by rw[show Y=u from L] at q;exact fun y=>(q y).1,h3⟩
 have D3:yH (∀d u r W,r.size<=32->SC A (aj u) (K+1+250+250) (d::i) f W->yC 19 #[pV (qA A.sp),sV l,gV #[i6 n,sV s,sV r,sV t]] W fun e w'=>mO A (dT A.tw u l ⟨n,s,r,t⟩) (K+1+250+250+250) (d::i) f e w'/\True):=fun d u r W V C=>rm C l hk ⟨n,s,r,t⟩ ⟨D.n,D.aI,V,D.code⟩ (by omega)
 have C1:yH (∀d v p W,0<v.size->v.size<=160->SC A (aj p) (K+1+250+250+250) (d::i) f W->yC 30 #[pV (qA d),sV key,sV v] W fun e w'=>∃c:Nat,e=rV (i6 c)/\SC A (aj ⟨aE p.g d (aL (p.g d) key v),p.o⟩) (K+1001) i f w'):=fun d v p W h0 E C=>(C.put (.inr (Uk ..)) key v T h0 E).mono fun _ _ ⟨c,h1,_,h2⟩=>⟨c,h1,h2.np.mono (by omega)⟩
 have A0:yH (∀(d:Nat) j (v:yB) (c:Nat) W,jF X l x d j->d≠A.tw->(A.k.ok->c=0/\v=bD (j.g d) key)->v.size=0->SC A (aj j) (K+1001) i f W->fP A z (K+1001) i f (rV (i6 c)) W):=fun d j v c W s1 s2 s3 s4 J=>⟨c,rfl,fun y=>(s3 y).1,J.ev fun Y _ L y=>by
  obtain⟨h1,_,h2⟩:=C y;rw[hx] at s1;obtain⟨o1,o2,o3⟩:=h1.open_ s1 s2;have E:=(s3 y).2;rw[o3] at E;rw[E] at s4;have e:aL (aY m l).ss key ⟨#[]⟩=(aY m l).ss:=by
   unfold aL;rw[Uj (show(⟨#[]⟩:yB).size=0 from rfl),UU];exact OS (Rf (h1.wH l) s4)
  rw[show Y=j from L,U,e];obtain⟨a,D⟩:=Option.isSome_iff_exists.1 h2;have ea:aY m l=a:=by unfold aY;rw[D];rfl
  rw[show({aY m l with ss:=(aY m l).ss}:Ac)=a from ea,ME D (h1.fit _ _ D).2.1];exact o1.full o2 o3 h2⟩
 have G:yH (∀(d:Nat) j r p (c5:Nat) W,jF X l x d j->d≠A.tw->(A.k.ok->r=cY (aE j.g d (aL (j.g d) key ⟨#[]⟩) d))->(A.k.ok->c5=0/\p=dT A.tw ⟨aE j.g d (aL (j.g d) key ⟨#[]⟩),j.o⟩ l ⟨n,s,r,t⟩)->SC A (aj p) (K+1001) i f W->fP A z (K+1001) i f (rV (i6 c5)) W):=fun d j r p c5 W s1 s2 s4 s5 J=>⟨c5,rfl,fun y=>(s5 y).1,J.ev fun Y _ L y=>by
  obtain⟨h1,h2,_⟩:=C y;rw[hx] at s1;have h3:=(h1.open_ s1 s2).2.2;have A8:=s4 y;have e4:=(s5 y).2;rw[cF] at A8;rw[h3] at A8 e4;injection h2 with g1 g2 g3 g4;rw[g1,g2,g4] at e4;have:=h1.SO s1 s2 (rM (h1.wH l) key ⟨#[]⟩ T (by decide)) A8 e4;rw[show Y=_ from L,U];exact this⟩
 clear h hb D C U hx;unfold cE;go_enter func133,ntmps133
 go_wp2_with fail
 rw[<-A4];clear A4;refine D1.m ?_;rintro e w1 ⟨d,j,rfl,s1,s2,B0⟩;have F:=A0.o d j;have A0:yH (∀(v:yB) (c:Nat) W,(A.k.ok->c=0/\v=bD (j.g d) key)->v.size=0->SC A (aj j) (K+1001) i f W->fP A z (K+1001) i f (rV (i6 c)) W):=fun v c W=>F v c W s1 s2
 have A9:=G.o d j;have G:yH (∀r p (c5:Nat) W,(A.k.ok->r=cY (aE j.g d (aL (j.g d) key ⟨#[]⟩) d))->(A.k.ok->c5=0/\p=dT A.tw ⟨aE j.g d (aL (j.g d) key ⟨#[]⟩),j.o⟩ l ⟨n,s,r,t⟩)->SC A (aj p) (K+1001) i f W->fP A z (K+1001) i f (rV (i6 c5)) W):=fun r p c5 W=>A9 r p c5 W s1 s2
 clear F A9 s1 s2;have C4:=aa B0;clear B0;go_wp2_with fail
 refine(B9.o _ _ _ C4.o).mono ?_;rintro e w2 ⟨v,c,rfl,E,hq,O⟩;have C5:=aa O;have F:=A0.o v c w2 hq;have I:yH (v.size=0->fP A z (K+1001) i f (rV (i6 c)) w2):=fun h0=>F h0 (O.unbox.np.mono (by omega))
 have D2:yH (c≠0->fP A z (K+1001) i f (rV (i6 c)) w2):=fun h0=>SC.lost (O.unbox.np.mono (by omega)) (fun y=>(hq y).1) h0
 clear O F hq;by_cases hc:c=0
 ·subst hc;by_cases M:v.size=0
  ·have hE:v.toList.isEmpty=true:=by rw[g7];exact M
   have H:=aa (I.o M);clear M;go_wp2
   go_ret
   exact⟨H.o,trivial⟩
  ·have hE:v.toList.isEmpty=false:=by rw[iv];exact M
   have HV:yH (0<v.size/\v.size<=160):=⟨by omega,E⟩
   clear E M;go_wp2_with fail
   refine(B6.o _ _ _ C5.o).mono ?_;rintro e w3 ⟨b,c3,rfl,B4,Q⟩;obtain⟨u,S⟩:∃u:Gh,u=⟨aE j.g d (aL (j.g d) key ⟨#[]⟩),j.o⟩:=⟨_,rfl⟩
   rw[<-S] at Q;have A1:=G.o;rw[<-S,show aE j.g d (aL (j.g d) key ⟨#[]⟩) d=u.g d by rw[S]] at A1;have G:=aa A1;clear A1 S;have C6:=aa Q;have I:yH (c3≠0->fP A z (K+1001) i f (rV (i6 c3)) w3):=fun h0=>SC.lost (Q.unbox.np.mono (by omega)) B4 h0
   clear Q B4;by_cases A5:c3=0
   ·subst A5;go_wp2_with fail
    refine(C3.o _ _ _ C6.o).mono ?_;rintro e w4 ⟨r,rfl,h32,B5,R⟩;have D4:=aa R;obtain⟨⟨k0,k1,k2,k3⟩,f0,f1,f2,f3⟩:=R.iT;have B1:=R.Eg B8.o (sV r) 2;have C7:=aa B1.unbox;obtain⟨Z,hZ⟩:∃Z,Z=dT A.tw u l ⟨n,s,r,t⟩:=⟨_,rfl⟩
    have A2:=G.o r;rw[<-hZ] at A2;have B7:yH (∀p (c5:Nat) W,(A.k.ok->c5=0/\p=Z)->SC A (aj p) (K+1001) i f W->fP A z (K+1001) i f (rV (i6 c5)) W):=fun p c5 W=>A2 p c5 W B5
    clear A2 B5;have D0:yH (yC 19 #[pV (qA A.sp),sV l,gV #[i6 n,sV s,sV r,sV t]] (w4.setCell ⟨w.heap.size,2,none⟩ (sV r)) fun e w'=>mO A Z (K+1+250+250+250) (d::i) f e w'/\True):=by rw[hZ];exact D3.o d u r _ (by omega) C7.o
    clear R B1 h32 hZ;go_wp2_with fail
    refine D0.m ?_;rintro e w5 ⟨⟨c5,X5,rfl,A7,A3⟩,_⟩;have C8:=aa A3;have I:=aa (B7.o X5 c5 w5 A7 (A3.np.mono (by omega)));have C2:yH (A.k.ok->c5=0):=fun y=>(A7 y).1
    clear A7;clear A3 k0 k1 k2 k3 f0 f1 f2 f3;by_cases A6:c5=0
    ·subst A6;go_wp2
     go_ret
     exact⟨I.o,trivial⟩
    ·have B3:((c5:Int) != 0)=true:=by simp;omega
     have C0:yH (∀P W,SC A P (K+1001) i f W->fP A z (K+1001) i f (rV (i6 c5)) W):=fun P W J=>SC.lost J C2.o A6
     clear A6;go_wp2_with fail
     refine(C1.o _ _ _ _ HV.o.1 HV.o.2 C8.o).mono ?_;rintro e w6 ⟨c6,rfl,B2⟩;have C9:=aa (C0.o _ _ B2);clear B2;go_wp2
     go_ret
     exact⟨C9.o,trivial⟩
   ·have B3:((c3:Int) != 0)=true:=by simp;omega
    have H:=aa (I.o A5);clear A5;go_wp2
    go_ret
    exact⟨H.o,trivial⟩
 ·have B3:((c:Int) != 0)=true:=by simp;omega
  have H:=aa (D2.o hc);clear hc;go_wp2
  go_ret
  exact⟨H.o,trivial⟩
def JM(A:fm)(m:Mp)(a b addr slot:yB)(K:Nat)(f:List Nat)(d:List (Nat×Obj))(e:Ending)(w':World):Prop:=∃(v:yB) (c:Nat),e=rV (tV #[sV v,iV .i64 c])/\v.size<=maxLen/\(addr.size=20->slot.size=32->A.k.ok->iU (bD (aY m a).ss b) v c)/\SC A (Wm A m) K f d w'
def Ml:iU ⟨#[]⟩ ⟨#[]⟩ 0:=⟨fun _=>⟨rfl,rfl⟩,fun u e h1 _=>by
 have:=(qG (mH h1)).1
 rw[<-e] at this
 exact absurd this (by decide)⟩
def TU{A m K j i w}(h:SC A (Wm A m) K j i w)(addr slot:yB)(hk:addr.size<=maxLen)(hl:slot.size<=maxLen)(hN:A.N+K+600<4000000000):
 yC 88 #[pV (qA A.sp),sV addr,sV slot] w fun e w'=>JM A m (ag addr) (ag slot) addr slot (K+501) j i e w'/\True:=by
 obtain⟨X,_,l,h⟩:=h.nB;obtain⟨x,F⟩:=yX ((aY m (ag addr)).ss)
 have h32:(ag addr).size=32:=dz _;have Q:(ag slot).size=32:=dz _;have C0:yH (yC 16 #[sV addr] w fun e w'=>e=rV (sV (ag addr))/\SC A (aj X) K j i w'):=h.sum addr hk;have A5:yH (∀W,SC A (aj X) K j i W->yC 20 #[pV (qA A.sp),sV (ag addr)] W fun e w'=>j6 (jM A X (ag addr)) e/\SC A (aj X) (K+250) j i w'):=fun W l=>uT l _ (by rw[h32];decide)
 have B6:yH (∀o W,o.size=32->(A.k.ok->o=cY x)->SC A (aj X) (K+250) j i W->yC 125 #[pV (qA A.sp),sV (ag addr),sV o] W fun e w'=>∃f b,e=rV (pV (qA f))/\jF X (ag addr) x f b/\f≠A.tw/\SC A (aj b) (K+250+1) (f::j) i w'):=fun o W hr r t=>t.slotsOf _ o (by rw[h32];decide) hr (by omega) x fun d ho=>by rw[r d,F];exact((l d).rH _).2 ho
 have B9:yH (∀f b W,SC A (aj b) (K+250+1) (f::j) i W->yC 16 #[sV slot] W fun e w'=>e=rV (sV (ag slot))/\SC A (aj b) (K+250+1) (f::j) i w'):=fun f b W l=>l.sum slot hl
 have B1:yH (∀f b W,SC A (aj b) (K+250+1) (f::j) i W->yC 34 #[pV (qA f),sV (ag slot)] W fun e w'=>∃(v:yB) (c:Nat),e=rV (tV #[sV v,i6 c])/\v.size<=160/\(A.k.ok->c=0/\v=bD (b.g f) (ag slot))/\SC A (aj b) (K+501) j i w'):=fun f b W l=>(l.get (.inr (Uk ..)) _ (by rw[Q];decide)).mono fun _ _ ⟨v,c,h1,h2,r,h3⟩=>⟨v,c,h1,h2,r,h3.np⟩
 have B8:yH (∀v b W,v.size<=160->SC A (aj b) (K+501) j i W->yC 126 #[sV v] W fun e w'=>(∃(v6:yB) (c:Nat),e=rV (tV #[sV v6,i6 c])/\v6.size<=maxLen/\iU v v6 c)/\SC A (aj b) (K+501) j i w'):=fun v b W hv l=>(DI W v (by unfold maxLen;omega)).mono fun _ _ ⟨⟨v,c,h1,h2,_,h4⟩,h3⟩=>⟨⟨v,c,h1,h2,h4⟩,l.below h3⟩
 obtain⟨R,B⟩:=yX (JM A m (ag addr) (ag slot) addr slot (K+501) j i)
 have J:yH ((addr.size=20->slot.size=32->False)->R (rV (tV #[sV ⟨#[]⟩,i6 (2:Nat)])) w):=fun q=>by
  rw[B];exact⟨_,2,rfl,by decide,fun h1 h2=>(q h1 h2).elim,(h.mono (by omega)).ev fun Y _ E=>by rw[show Y=X from E];exact l⟩
 have I:yH (∀(c:Nat) P W,(A.k.ok->c=0)->c≠0->SC A P (K+501) j i W->R (rV (tV #[sV ⟨#[]⟩,i6 c])) W):=fun c P W q h0 t=>by
  rw[B];exact⟨_,c,rfl,by decide,fun _ _ d=>absurd (q d) h0,t.ev fun _ _ _ d=>absurd (q d) h0⟩
 have A7:yH (∀W,(A.k.ok->false=(m (ag addr)).isSome)->SC A (aj X) (K+501) j i W->R (rV (tV #[sV ⟨#[]⟩,i6 (0:Nat)])) W):=fun W q t=>by
  rw[B];refine⟨_,0,rfl,by decide,fun _ _ d=>?_,t.ev fun Y _ E=>by rw[show Y=X from E];exact l⟩;have q:=q d;cases hm:m (ag addr) with
  |none=>
   unfold aY;rw[hm];exact Ml
  |some a=>rw[hm] at q;cases q
 have A8:yH (∀(f:Nat) b v v6 (c6:Nat) W,jF X (ag addr) x f b->f≠A.tw->(A.k.ok->true=(m (ag addr)).isSome)->(A.k.ok->v=bD (b.g f) (ag slot))->iU v v6 c6->v6.size<=maxLen->SC A (aj b) (K+501) j i W->R (rV (tV #[sV v6,i6 c6])) W):=fun f b v v6 c6 W s1 s2 s3 s4 s5 s6 t=>by
  rw[B];rw[F] at s1;refine⟨v6,c6,rfl,s6,fun _ _ d=>?_,t.ev fun Y _ E d=>?_⟩
  ·rw[<-((l d).open_ s1 s2).2.2,<-s4 d];exact s5
  ·obtain⟨o1,o2,o3⟩:=(l d).open_ s1 s2;rw[show Y=b from E];exact o1.full o2 o3 (s3 d).symm
 have A6:yH (∀a u c,jM A X (ag addr) a u c->A.k.ok->c=0/\a.root=cY x/\u=(m (ag addr)).isSome):=fun a u c C d=>by
  obtain⟨e1,e2,e3⟩:=(l d).acc (C d);exact⟨e3,by rw[e1,F];rfl,e2⟩
 rw[<-B];clear h h32 Q l F B;unfold maxLen at hk hl;generalize ag addr=HA at*;generalize ag slot=HT at*;by_cases h20:addr.size=20
 ·have C3:(addr.size:Int)=20:=by omega
  by_cases C6:slot.size=32
  ·have C7:(slot.size:Int)=32:=by omega
   go_enter func88,ntmps88
   go_wp2_with fail
   refine C0.m ?_;rintro e w1 ⟨rfl,S⟩;have B2:yH (SC A (aj X) K j i w1):=S;clear S;go_wp2_with fail
   refine(A5.o _ B2.o).mono ?_;rintro e w2 ⟨⟨a,u,c,rfl,C5,C,A4⟩,T⟩;have r:=A6.o a u c A4;clear A4;obtain⟨n,y,o,z⟩:=a;simp only at C r;have s:yH (A.k.ok->c=0/\o=cY x/\u=(m HA).isSome):=r;clear r;have L:yH (SC A (aj X) (K+250) j i (w2.alloc (.cells #[i6 n,sV y,sV o,sV z] 37))):=(T.box #[i6 n,sV y,sV o,sV z] 37).unbox;have O:yH (SC A (aj X) (K+501) j i (w2.alloc (.cells #[i6 n,sV y,sV o,sV z] 37))):=L.o.mono (by omega);unfold cE;clear T C5;by_cases G:c=0
   ·subst G;have A1:=(C rfl).1;clear C;cases u with
    |false=>
     have p:=A7.o _ (fun d=>(s.o d).2.2) O.o;have p:yH (R (rV (tV #[sV ⟨#[]⟩,i6 (0:Nat)])) (w2.alloc (.cells #[i6 n,sV y,sV o,sV z] 37))):=p;go_wp2
     go_ret2
     exact⟨p.o,trivial⟩
    |true=>
     have B7:yH (yC 125 #[pV (qA A.sp),sV HA,sV o] (w2.alloc (.cells #[i6 n,sV y,sV o,sV z] 37)) fun e w'=>∃f b,e=rV (pV (qA f))/\jF X HA x f b/\f≠A.tw/\SC A (aj b) (K+250+1) (f::j) i w'):=B6.o o _ A1 (fun d=>(s.o d).2.1) L.o;have C2:yH (A.k.ok->true=(m HA).isSome):=fun d=>(s.o d).2.2
     clear A1;go_wp2_with fail
     refine B7.m ?_;rintro e w3 ⟨f,b,rfl,s1,s2,U⟩;have D:=A8.o f b;have A9:yH (∀v v6 (c6:Nat) W,(A.k.ok->v=bD (b.g f) HT)->iU v v6 c6->v6.size<=maxLen->SC A (aj b) (K+501) j i W->R (rV (tV #[sV v6,i6 c6])) W):=fun v v6 c6 W=>D v v6 c6 W s1 s2 C2.o
     clear D s1 s2;have B3:yH (SC A (aj b) (K+250+1) (f::j) i w3):=U;clear U;go_wp2_with fail
     refine(B9.o _ _ _ B3.o).mono ?_;rintro e w4 ⟨rfl,V⟩;have B4:yH (SC A (aj b) (K+250+1) (f::j) i w4):=V;clear V;go_wp2_with fail
     refine(B1.o _ _ _ B4.o).mono ?_;rintro e w5 ⟨v,c,rfl,hv,r,Z⟩;have s:yH (A.k.ok->c=0/\v=bD (b.g f) HT):=r;clear r;have M:yH (SC A (aj b) (K+501) j i w5):=Z;clear Z;by_cases H:c=0
     ·subst H;have C1:yH (yC 126 #[sV v] w5 fun e w'=>(∃(v6:yB) (c:Nat),e=rV (tV #[sV v6,i6 c])/\v6.size<=maxLen/\iU v v6 c)/\SC A (aj b) (K+501) j i w'):=B8.o v b w5 hv M.o;have D:=A9.o v;have B0:yH (∀v6 (c6:Nat) W,iU v v6 c6->v6.size<=maxLen->SC A (aj b) (K+501) j i W->R (rV (tV #[sV v6,i6 c6])) W):=fun v6 c6 W=>D v6 c6 W fun d=>(s.o d).2
      clear D;go_wp2_with fail
      refine C1.m ?_;rintro e w6 ⟨⟨v6,c6,rfl,A2,A3⟩,A0⟩;have B5:yH (R (rV (tV #[sV v6,i6 c6])) w6):=B0.o _ _ _ A3 A2 A0;clear A0 A2 A3;go_wp2
      go_ret2
      exact⟨B5.o,trivial⟩
     ·have C4:((c:Int) != 0)=true:=by simp;omega
      have p:yH (R (rV (tV #[sV ⟨#[]⟩,i6 c])) w5):=I.o c _ w5 (fun d=>(s.o d).1) H M.o;clear H;go_wp2
      go_ret2
      exact⟨p.o,trivial⟩
   ·have C4:((c:Int) != 0)=true:=by simp;omega
    have p:yH (R (rV (tV #[sV ⟨#[]⟩,i6 c])) (w2.alloc (.cells #[i6 n,sV y,sV o,sV z] 37))):=I.o c _ _ (fun d=>(s.o d).1) G O.o;clear G C;go_wp2
    go_ret2
    exact⟨p.o,trivial⟩
  ·have C7:¬(slot.size:Int)=32:=by omega
   have p:yH (R (rV (tV #[sV ⟨#[]⟩,i6 (2:Nat)])) w):=J.o fun _ h=>C6 h
   go_enter func88,ntmps88
   go_wp2
   go_ret2
   exact⟨p.o,trivial⟩
 ·have C3:¬(addr.size:Int)=20:=by omega
  have p:yH (R (rV (tV #[sV ⟨#[]⟩,i6 (2:Nat)])) w):=J.o fun h _=>h20 h
  go_enter func88,ntmps88
  go_wp2
  go_ret2
  exact⟨p.o,trivial⟩
def kg(m:Mp)(a b addr slot v:yB):Mp:=if addr.size=20/\slot.size=32/\bF v=true then cQ m a {aY m a with ss:=aL (aY m a).ss b (if v.size=0 then⟨#[]⟩ else fg v)} else m
def JP(A:fm)(b:Mp)(addr slot v:yB)(K:Nat)(d:List Nat)(a:List (Nat×Obj))(e:Ending)(w':World):Prop:=∃c:Nat,e=rV (iV .i64 c)/\(addr.size≠20->c=2)/\(addr.size=20->slot.size=32->bF v=true->A.k.ok->c=0)/\SC A (Wm A b) K d a w'
def fP.mono{A b K K' d a e w}(h:fP A b K d a e w)(f:K<=K'):fP A b K' d a e w:=by
 let⟨c,h1,h2,h3⟩:=h;exact⟨c,h1,h2,h3.mono f⟩
def JO{A m K f i w}(h:SC A (Wm A m) K f i w)(addr slot v:yB)(hk:addr.size<=maxLen)(hl:slot.size<=maxLen)(V:v.size<=maxLen)(hN:A.N+K+1500<4000000000):
 yC 103 #[pV (qA A.sp),sV addr,sV slot,sV v] w fun e w'=>JP A (kg m (ag addr) (ag slot) addr slot v) addr slot v (K+1300) f i e w'/\True:=by
 obtain⟨X,_,l,h⟩:=h.nB;have h32:(ag addr).size=32:=dz _;have E5:(ag slot).size=32:=dz _;have T:yH (∀W,yC 112 #[sV v] W fun e w'=>e=rV (bV (bF v))/\w'=W):=fun W=>tW v V W
 have E1:=aa (h.sum addr hk);have D1:yH (∀W,SC A (aj X) K f i W->yC 20 #[pV (qA A.sp),sV (ag addr)] W fun e w'=>j6 (jM A X (ag addr)) e/\SC A (aj X) (K+250) f i w'):=fun W l=>uT l _ (by rw[h32];decide)
 have C5:yH (∀g W,SC A (aj X) (K+250) f g W->yC 16 #[sV slot] W fun e w'=>e=rV (sV (ag slot))/\SC A (aj X) (K+250) f g w'):=fun g W l=>l.sum slot hl
 have D2:yH (∀g W,v.size<=32->SC A (aj X) (K+250) f g W->yC 132 #[sV v] W fun e w'=>e=rV (sV (fg v))/\SC A (aj X) (K+250) f g w'):=fun g W h32 l=>(Mg W v (by omega)).mono fun _ _ ⟨h1,h2⟩=>⟨h1,l.below h2⟩
 obtain⟨m1,A7⟩:=yX (cQ m (ag addr) {aY m (ag addr) with ss:=aL (aY m (ag addr)).ss (ag slot) (fg v)})
 obtain⟨m2,A8⟩:=yX (cQ m (ag addr) {aY m (ag addr) with ss:=aL (aY m (ag addr)).ss (ag slot) ⟨#[]⟩})
 obtain⟨m',G⟩:∃m',m'=kg m (ag addr) (ag slot) addr slot v:=⟨_,rfl⟩
 rw[<-G];have S:yH (∀g a' W,bF v=true->iZ a'->a'.root.size=32->(A.k.ok->a'=eo (aY m (ag addr)))->SC A (aj X) (K+250) f g W->yC 131 #[pV (qA A.sp),sV (ag addr),cE a',sV (ag slot),sV (fg v)] W fun e w'=>fP A m1 (K+1300) f g e w'/\True):=fun g a' W V h1 h2 hq o=>by
  obtain⟨c1,c2,_⟩:=qG (mH V);rw[A7];exact(RM o _ h32 a' h1 h2 _ _ (by omega) c1 c2 (fun j=>⟨l j,hq j⟩) (by omega)).mono fun _ _ ⟨h1,_⟩=>⟨h1.mono (by omega),trivial⟩
 have B2:yH (∀g a' W,iZ a'->a'.root.size=32->(A.k.ok->a'=eo (aY m (ag addr))/\(m (ag addr)).isSome=true)->SC A (aj X) (K+250) f g W->yC 133 #[pV (qA A.sp),sV (ag addr),cE a',sV (ag slot)] W fun e w'=>fP A m2 (K+1300) f g e w'/\True):=fun g a' W h1 h2 hq o=>by
  rw[A8];exact(SP o _ h32 a' h1 h2 _ (by omega) (fun j=>⟨l j,hq j⟩) (by omega)).mono fun _ _ ⟨h1,_⟩=>⟨h1.mono (by omega),trivial⟩
 obtain⟨R,y⟩:=yX (JP A m' addr slot v (K+1300) f i)
 have E3:yH (∀W,SC A (aj X) (K+1300) f i W->SC A (Wm A m) (K+1300) f i W):=fun W o=>o.ev fun Y _ hY=>by rw[show Y=X from hY];exact l
 have A4:yH (∀c:Nat,¬(addr.size=20/\slot.size=32/\bF v=true)->(addr.size≠20->c=2)->R (rV (i6 c)) w):=fun c q h2=>by
  rw[y];refine⟨c,rfl,h2,fun a b d=>(q ⟨a,b,d⟩).elim,?_⟩;rw[G];unfold kg;rw[Ui q];exact E3.o _ (h.mono (by omega))
 have A3:yH (∀(c:Nat) P W,addr.size=20->(A.k.ok->c=0)->c≠0->SC A P (K+1300) f i W->R (rV (i6 c)) W):=fun c P W h20 q h0 o=>by
  rw[y];exact⟨c,rfl,fun h=>absurd h20 h,fun _ _ _=>q,o.ev fun _ _ _ j=>absurd (q j) h0⟩
 have Z:yH (∀(c:Nat) W,addr.size=20->slot.size=32->bF v=true->v.size≠0->(A.k.ok->c=0)->SC A (Wm A m1) (K+1300) f i W->R (rV (i6 c)) W):=fun c W h20 h3 h4 h5 q o=>by
  rw[y];refine⟨c,rfl,fun h=>absurd h20 h,fun _ _ _=>q,?_⟩;rw[G];unfold kg;rw[Uj ⟨h20,h3,h4⟩,Ui h5,<-A7];exact o
 have A0:yH (∀(c:Nat) W,addr.size=20->slot.size=32->bF v=true->v.size=0->(A.k.ok->c=0)->SC A (Wm A m2) (K+1300) f i W->R (rV (i6 c)) W):=fun c W h20 h3 h4 h5 q o=>by
  rw[y];refine⟨c,rfl,fun h=>absurd h20 h,fun _ _ _=>q,?_⟩;rw[G];unfold kg;rw[Uj ⟨h20,h3,h4⟩,Uj h5,<-A8];exact o
 have A1:yH (∀W,addr.size=20->slot.size=32->bF v=true->v.size=0->(A.k.ok->false=(m (ag addr)).isSome)->SC A (aj X) (K+1300) f i W->R (rV (i6 (0:Nat))) W):=fun W h20 h3 h4 h5 q o=>by
  rw[y];refine⟨0,rfl,fun h=>absurd h20 h,fun _ _ _ _=>rfl,?_⟩;rw[G];unfold kg;rw[Uj ⟨h20,h3,h4⟩,Uj h5];refine o.ev fun Y _ hY j=>?_
  rw[show Y=X from hY];have q:=q j;cases hm:m (ag addr) with
  |none=>
   have e:aY m (ag addr)=lP:=by unfold aY;rw[hm];rfl
   rw[e,show({lP with ss:=aL lP.ss (ag slot) ⟨#[]⟩}:Ac)=lP from rfl,Ed hm];exact l j
  |some a=>rw[hm] at q;cases q
 have B1:yH (∀a u c,jM A X (ag addr) a u c->A.k.ok->c=0/\a=eo (aY m (ag addr))/\u=(m (ag addr)).isSome):=fun a u c L j=>by
  obtain⟨e1,e2,e3⟩:=(l j).acc (L j);exact⟨e3,e1,e2⟩
 rw[<-y];have D7:yH (bF v=true->v.size<=32):=mH;clear h h32 E5 l y G A7 A8;obtain⟨Q,C6⟩:=yX (eo (aY m (ag addr)))
 rw[<-C6] at S B2 B1;clear C6;unfold maxLen at hk hl V;generalize ag addr=HA at*;generalize ag slot=HT at*;generalize fg v=CB at*;by_cases h20:addr.size=20
 ·have E4:(addr.size:Int)=20:=by omega
  by_cases U:slot.size=32
  ·have E6:(slot.size:Int)=32:=by omega
   cases hnb:bF v with
   |false=>
    rw[hnb] at T;have x:yH (R (rV (i6 (3:Nat))) w):=A4.o 3 (fun q=>by have:=q.2.2;rw[hnb] at this;cases this) fun h=>absurd h20 h
    clear hnb;go_enter func103,ntmps103
    go_wp2_with fail
    refine(T.o _).mono ?_;rintro e wx ⟨rfl,B0⟩;subst B0;go_wp2
    go_ret
    exact⟨x.o,trivial⟩
   |true=>
    rw[hnb] at T;have C9:=D7.o hnb;have E2:=aa C9;have B7:=A3.o;have B8:=Z.o;have B9:=A0.o;have C0:=A1.o;have C1:=S.o;have A3:yH (∀(c:Nat) P W,(A.k.ok->c=0)->c≠0->SC A P (K+1300) f i W->R (rV (i6 c)) W):=fun c P W=>B7 c P W h20
    have Z:yH (v.size≠0->∀(c:Nat) W,(A.k.ok->c=0)->SC A (Wm A m1) (K+1300) f i W->R (rV (i6 c)) W):=fun h0 c W=>B8 c W h20 U hnb h0
    have A0:yH (v.size=0->∀(c:Nat) W,(A.k.ok->c=0)->SC A (Wm A m2) (K+1300) f i W->R (rV (i6 c)) W):=fun h0 c W=>B9 c W h20 U hnb h0
    have A1:yH (v.size=0->∀W,(A.k.ok->false=(m HA).isSome)->SC A (aj X) (K+1300) f i W->R (rV (i6 (0:Nat))) W):=fun h0 W=>C0 W h20 U hnb h0
    have S:yH (∀g a' W,iZ a'->a'.root.size=32->(A.k.ok->a'=Q)->SC A (aj X) (K+250) f g W->yC 131 #[pV (qA A.sp),sV HA,cE a',sV HT,sV CB] W fun e w'=>fP A m1 (K+1300) f g e w'/\True):=fun g a' W=>C1 g a' W hnb
    clear hnb C9 B7 B8 B9 C0 C1;go_enter func103,ntmps103
    go_wp2_with fail
    refine(T.o _).mono ?_;rintro e wx ⟨rfl,B0⟩;subst B0;go_wp2_with fail
    refine E1.m ?_;rintro e w1 ⟨rfl,C7⟩;have D8:=aa C7;clear C7;go_wp2_with fail
    refine(D1.o _ D8.o).mono ?_;rintro e w2 ⟨⟨a,u,c,rfl,A9,L,D0⟩,C8⟩;have I:=aa (B1.o a u c D0);clear D0;have C2:yH (c=0->∀g W,SC A (aj X) (K+250) f g W->yC 131 #[pV (qA A.sp),sV HA,cE a,sV HT,sV CB] W fun e w'=>fP A m1 (K+1300) f g e w'/\True):=fun h0 g W l=>S.o g a W A9 (L h0).1 (fun j=>(I.o j).2.1) l
    have B3:yH (c=0->u=true->∀g W,SC A (aj X) (K+250) f g W->yC 133 #[pV (qA A.sp),sV HA,cE a,sV HT] W fun e w'=>fP A m2 (K+1300) f g e w'/\True):=fun h0 ht g W l=>B2.o g a W A9 (L h0).1 (fun j=>⟨(I.o j).2.1,by rw[<-(I.o j).2.2];exact ht⟩) l
    have C3:yH (A.k.ok->c=0/\u=(m HA).isSome):=fun j=>⟨(I.o j).1,(I.o j).2.2⟩
    obtain⟨n,p,s,r⟩:=a;have F:=C8.box #[i6 n,sV p,sV s,sV r] 37;obtain⟨t,C⟩:=yX (w2.alloc (.cells #[i6 n,sV p,sV s,sV r] 37))
    rw[<-C] at F;have E7:=aa F;have C4:yH (SC A (aj X) (K+1300) f i t):=F.unbox.mono (by omega);have E0:yH (c≠0->R (rV (i6 c)) t):=fun h0=>A3.o c _ t (fun j=>(C3.o j).1) h0 C4.o
    have E:=aa F.drew;obtain⟨⟨k0,k1,k2,k3⟩,_⟩:=F.iT;unfold cE at C2 B3⊢;clear C8 F A9 L;by_cases hc:c=0
    ·subst hc;have D6:yH (∀g W,SC A (aj X) (K+250) f g W->yC 131 #[pV (qA A.sp),sV HA,gV #[i6 n,sV p,sV s,sV r],sV HT,sV CB] W fun e w'=>fP A m1 (K+1300) f g e w'/\True):=C2.o rfl;have D4:yH (u=true->∀g W,SC A (aj X) (K+250) f g W->yC 133 #[pV (qA A.sp),sV HA,gV #[i6 n,sV p,sV s,sV r],sV HT] W fun e w'=>fP A m2 (K+1300) f g e w'/\True):=B3.o rfl;by_cases D:v.size=0
     ·have hE:v.toList.isEmpty=true:=by rw[g7];exact D
      have H:=A0.o D;have A2:=aa H;have B5:=A1.o D;have D5:=aa B5;clear H B5 D;cases u with
      |false=>
       have B6:=D5.o t (fun j=>(C3.o j).2) C4.o;have x:=aa B6;clear B6;go_wp2
       go_ret
       (try rw[<-C])
       exact⟨x.o,trivial⟩
      |true=>
       have B4:=D4.o rfl;have D3:=aa B4;clear B4;go_upto_region 13 with fail
       rw[<-C];clear C;go_region_held3 (fun w'=>w'.cell? ⟨w2.heap.size,0,none⟩=some (i6 n)/\w'.cell? ⟨w2.heap.size,1,none⟩=some (sV p)/\w'.cell? ⟨w2.heap.size,2,none⟩=some (sV s)/\w'.cell? ⟨w2.heap.size,3,none⟩=some (sV r)) (go_keep) (first| (go_at_call 16;refine(C5.o _ _ E.o).mono ?_;rintro e wa ⟨rfl,z⟩;obtain⟨⟨n0,n1,n2,n3⟩,_⟩:=z.iT;have D9:yH (SC A (aj X) (K+250) f ((w2.heap.size,.cells #[i6 n,sV p,sV s,sV r] 37 (0,0))::i) wa):=z;clear z) | (go_at_call 133;refine(D3.o _ _ D9.o).mono ?_;rintro e O ⟨⟨J,rfl,M,B⟩,_⟩;obtain⟨⟨p0,p1,p2,p3⟩,_⟩:=B.iT;have A5:yH (R (rV (i6 J)) O):=A2.o J O M B.unbox;clear B M))
       all_goals
        go_wp2
        go_ret
        exact⟨A5.o,trivial⟩
     ·have hE:v.toList.isEmpty=false:=by rw[iv];exact D
      have H:=Z.o D;have A2:=aa H;clear D H;go_upto_region 10 with fail
      rw[<-C];clear C;go_region_held3 (fun w'=>w'.cell? ⟨w2.heap.size,0,none⟩=some (i6 n)/\w'.cell? ⟨w2.heap.size,1,none⟩=some (sV p)/\w'.cell? ⟨w2.heap.size,2,none⟩=some (sV s)/\w'.cell? ⟨w2.heap.size,3,none⟩=some (sV r)) (go_keep) (first| (go_at_call 16;refine(C5.o _ _ E.o).mono ?_;rintro e wa ⟨rfl,z⟩;obtain⟨⟨n0,n1,n2,n3⟩,_⟩:=z.iT;have E:yH (SC A (aj X) (K+250) f ((w2.heap.size,.cells #[i6 n,sV p,sV s,sV r] 37 (0,0))::i) wa):=z;clear z) | (go_at_call 132;refine(D2.o _ _ E2.o E.o).mono ?_;rintro e wd ⟨rfl,A6⟩;obtain⟨⟨q0,q1,q2,q3⟩,_⟩:=A6.iT;have E:yH (SC A (aj X) (K+250) f ((w2.heap.size,.cells #[i6 n,sV p,sV s,sV r] 37 (0,0))::i) wd):=A6;clear A6) | (go_at_call 131;refine(D6.o _ _ E.o).mono ?_;rintro e O ⟨⟨J,rfl,M,B⟩,_⟩;obtain⟨⟨p0,p1,p2,p3⟩,_⟩:=B.iT;have A5:yH (R (rV (i6 J)) O):=A2.o J O M B.unbox;clear B M))
      all_goals
       go_wp2
       go_ret
       exact⟨A5.o,trivial⟩
    ·have E8:((c:Int) != 0)=true:=by simp;omega
     have x:=aa (E0.o hc);clear hc;go_wp2
     go_ret
     (try rw[<-C])
     exact⟨x.o,trivial⟩
  ·have E6:¬(slot.size:Int)=32:=by omega
   have x:yH (R (rV (i6 (2:Nat))) w):=A4.o 2 (fun q=>U q.2.1) fun _=>rfl
   go_enter func103,ntmps103
   go_wp2
   go_ret
   exact⟨x.o,trivial⟩
 ·have E4:¬(addr.size:Int)=20:=by omega
  have x:yH (R (rV (i6 (2:Nat))) w):=A4.o 2 (fun q=>h20 q.1) fun _=>rfl
  go_enter func103,ntmps103
  go_wp2
  go_ret
  exact⟨x.o,trivial⟩
def Gg{a b}(h:∀k,ah a k=ah b k)(x):gn a x=gn b x:=by
 by_cases e:∃k,x=aD k
 ·obtain⟨k,rfl⟩:=e;rw[ql,ql];unfold bD;rw[h]
 ·rw[wV (fun p _ q=>e ⟨_,q.symm⟩),wV (fun p _ q=>e ⟨_,q.symm⟩)]
def Nb{a b}(c:cT a)(d:cT b)(h:∀k,ah a k=ah b k):cY a=cY b:=by
 have h1:=(jV c 1).congr fun x _=>Gg h x
 have h2:=jV d 1;unfold cY;rw[(h1.one h2 (fun _=>True)).root h1.ok.aK h2.ok.aK]
def wm{a b}(d:cT a)(e:cT b)(h:∀k,ah a k=ah b k){key:yB}(c:key.size<=40):aQ bj (aR a 1) key=aQ bj (aR b 1) key:=by
 have h1:=(jV d 1).congr fun x _=>Gg h x
 have h2:=jV e 1;rw[p8 h1.all c,p8 h2.all c];exact yn 81 _ _ _ 0 h1.ok.aK (h1.one h2 (fun _=>True)) (nT h1.all (b8 key)) (b8 key) (.inl rfl)
def uV(m:Mp)(L:List (yB×yB)):Prop:=cT L/\∀h,ah L h=(m h).map fun a=>ir (eo a)
structure gO(base:Nat)(bx:List (Nat×Obj))(v:Value)(cs:List yB):Prop where
 own:∀W:World,(∀b∈bx,W.heap[b.1]? =some b.2)->W.ownsRow base 9 1 v cs.length (cs.map Value.string)
 len:cs.length<=81
 small:∀c∈cs,c.size<=4096
def MY{w:World}{base v n d}(h:w.ownsRow base 9 1 v n d):∃bx:List (Nat×Obj),(∀b∈bx,w.heap[b.1]? =some b.2/\base<=b.1)/\∀W:World,(∀b∈bx,W.heap[b.1]? =some b.2)->W.ownsRow base 9 1 v n d:=by
 have e:=h;rcases e.2 with⟨rfl,rfl⟩|⟨g,cap,c,rfl,a,j,rest⟩
 ·refine⟨[],(fun b a=>absurd a Vs),fun W _=>⟨h.1,.inl ⟨rfl,rfl⟩⟩⟩
 ·refine⟨[(g,.cells c 9 (0,0))],fun b i=>?_,fun W f=>⟨h.1,.inr ⟨g,cap,c,rfl,a,f _ (Uo.2 rfl),rest⟩⟩⟩;rw[Uo.1 i];exact⟨j,a⟩
def SC.JI{A P K n g w w2}(h:SC A P K n g w)(c:yW w w2)(L:List (Nat×Obj))(e:∀b∈L,w2.heap[b.1]? =some b.2/\w.heap.size<=b.1):SC A P K n (L++g) w2:=by
 have p:=h.size;let⟨l',o,m,h1,h2,f,h3⟩:=h;let⟨l2,i⟩:=yX (fun k=>if k<w.heap.size then l' k else nD A)
 have lo:∀k,k<w.heap.size->l2 k=l' k:=fun k d=>by rw[i];simp[d]
 have q:∀k,w.heap.size<=k->l2 k=nD A:=fun k d=>by rw[i];simp[VK.2 d]
 have l:Mv (fun _=>False) l' l2 w w2:=⟨c.os,c.tape,c.output,c.size,lo,fun k d _=>c.block k d⟩
 refine⟨l2,o,m.trans (l.mono fun _ f=>f.elim),h1,h2,f.move l id id fun _=>id,fun b a=>?_⟩;rcases UA.1 a with a|a
 ·exact⟨(e b a).1,q _ (e b a).2,Ut p (e b a).2⟩
 ·let⟨b1,b2,b3⟩:=h3 b a;have j:b.1<w.heap.size:=(Um.1 b1).1;exact⟨(c.block _ j).trans b1,(lo _ j).trans b2,b3⟩
def SC.held{A P K d a w}(h:SC A P K d a w):∀b∈a,w.heap[b.1]? =some b.2/\A.w.heap.size<=b.1:=fun b c=>by
 let⟨l',e,m,h1,h2,f,h3⟩:=h
 exact⟨(h3 b c).1,(h3 b c).2.2⟩
def sI(A:fm)(P:GP)(Z:Nat->List yB->Prop)(K:Nat)(d:List Nat)(b:List (Nat×Obj))(e:Ending)(w':World):Prop:=∃(v:Value) (c:Nat) (cs:List yB) (a:List (Nat×Obj)),e=rV (tV #[v,iV .i64 c])/\gO A.w.heap.size a v cs/\Z c cs/\SC A P K d (a++b) w'
def lU(A:fm)(X:Gh)(a:Nat)(key:yB)(c:Nat)(cs:List yB):Prop:=A.k.ok->c=0/\cT (X.g a)/\cs=(aQ bj (aR (X.g a) 1) key).map ae
def SC.mq{A X K b f w}(h:SC A (aj X) K b f w){a}(j:qT A b a)(key:yB)(o:key.size<=40):
 yC 22 #[pV (qA a),sV key] w (sI A (aj X) (lU A X a key) (K+250) b f):=by
 refine(h.prove j key o).mono ?_;rintro e w' ⟨v,c,cs,w1,m,g,k,p,h1,h2,h3⟩;have q:=g.size;let⟨d,l,i⟩:=MY p;exact⟨v,c,cs,d,m,⟨fun W n=>nj (i W n) q,h1,h2⟩,h3,g.JI k d l⟩
def vS(base:Nat):gO base [] (lV none 0 0) []:=⟨fun W _=>U8 _ _ _ _,by decide,fun c a=>absurd a Vs⟩
def x6(A:fm)(m:Mp)(a addr:yB)(c:Nat)(cs:List yB):Prop:=addr.size=20->A.k.ok->c=0/\∀L,uV m L->cs=(aQ bj (aR L 1) a).map ae
def Ei{A m K a b w}(h:SC A (Wm A m) K a b w)(addr:yB)(q:addr.size<=maxLen):
 yC 12 #[pV (qA A.sp),sV addr] w fun e w'=>sI A (Wm A m) (x6 A m (ag addr) addr) (K+250) a b e w'/\True:=by
 obtain⟨X,_,d,h⟩:=h.nB;have h32:(ag addr).size=32:=dz _;have z:=aa (h.drew.sum addr q);have t:yH (∀W,SC A (aj X) K a b W->yC 22 #[pV (qA A.tw),sV (ag addr)] W (sI A (aj X) (lU A X A.tw (ag addr)) (K+250) a b)):=fun W d=>d.mq (.inl rfl) _ (by rw[h32];decide)
 have o:yH (∀j W,SC A (aj X) (K+250) a j W->SC A (Wm A m) (K+250) a j W):=fun j W D=>D.ev fun Y _ E=>by rw[show Y=X from E];exact d
 have B:yH (∀c cs,lU A X A.tw (ag addr) c cs->x6 A m (ag addr) addr c cs):=fun c cs f _ s=>by
  obtain⟨h1,h2,h3⟩:=f s;exact⟨h1,fun L p=>by rw[h3,wm h2 p.1 (fun k=>((d s).dJ k).trans (p.2 k).symm) (by rw[h32];decide)]⟩
 have u:yH (addr.size≠20->sI A (Wm A m) (x6 A m (ag addr) addr) (K+250) a b (rV (tV #[lV none 0 0,i6 2])) w):=fun F=>⟨_,2,[],[],rfl,vS _,fun h=>absurd h F,o.o _ _ (h.mono (by omega))⟩
 obtain⟨c0,c1⟩:=h.cells;clear h h32 d;unfold maxLen at q;generalize ag addr=HA at*;by_cases h20:addr.size=20
 ·have C:(addr.size:Int)=20:=by omega
  go_enter func12,ntmps12
  go_upto_region 3 with fail
  go_region_held3 (fun w'=>w'.cell? ⟨A.sp,1,none⟩=some (pV (qA A.tw))) (go_keep) (first| (go_at_call 16;refine z.m ?_;rintro e G ⟨rfl,l⟩;obtain⟨_,c12⟩:=l.cells;have y:yH (SC A (aj X) K a b G):=l;clear l) | (go_at_call 22;refine(t.o _ y.o).mono ?_;rintro e H ⟨v,c,cs,i,rfl,r,f,n⟩;obtain⟨_,c13⟩:=n.cells;have g:yH (gO A.w.heap.size i v cs/\x6 A m HA addr c cs/\SC A (Wm A m) (K+250) a (i++b) H):=⟨r,B.o _ _ f,o.o _ _ n⟩;clear n r f))
  all_goals
   go_wp2
   go_ret2
   exact⟨⟨v,c,cs,i,rfl,g.o.1,g.o.2.1,g.o.2.2⟩,trivial⟩
 ·have C:¬(addr.size:Int)=20:=by omega
  have x:=aa (u.o h20);go_enter func12,ntmps12
  go_wp2
  go_ret2
  exact⟨x.o,trivial⟩
def sJ(A:fm)(P:GP)(Z:Nat->List yB->List yB->Prop)(K:Nat)(d:List Nat)(b:List (Nat×Obj))(e:Ending)(w':World):Prop:=∃(u v:Value) (c:Nat) (cs a:List yB) (b1 b2:List (Nat×Obj)),e=rV (tV #[u,v,iV .i64 c])/\gO A.w.heap.size b1 u cs/\gO A.w.heap.size b2 v a/\Z c cs a/\SC A P K d (b1++(b2++b)) w'
def JL(e:Ending):Prop:=∃(v:yB) (c:Nat),e=rV (tV #[sV v,iV .i64 c])/\v.size<=maxLen
def TF{t}(a:aO t)(b:t.read)(r):(t.at r).length<=160:=by
 unfold Nd.at;split
 ·cases t with
  |nil=>exact b.elim
  |unread _=>exact b.elim
  |leaf h p v=>exact a.2.2.2
  |ext h p k=>exact UD _
  |branch h v ks=>exact a.2.1
 ·exact UD _
def Kq{t r d}(e:aA t d)(b:aw r):aA (ay t r d).1 (ay t r d).2.2.1/\aw (ay t r d).2.1:=by
 have a:aA (Nd.nil) 0/\aw []:=⟨mE 0,fun _ h=>by cases h⟩
 cases t with
 |nil=>exact a
 |unread _=>exact a
 |leaf _ _ _=>exact a
 |ext h q k=>
  simp only[ay];split
  ·exact⟨fq e,da b _⟩
  ·exact a
 |branch h v ks=>
  cases r with
  |nil=>exact a
  |cons c r=>exact⟨dA e _ (b c (Uk ..)),fun y f=>b y (Ul _ f)⟩
def Rw:∀(f:Nat) (t) (r) (d:Nat) (bl:Bool) (a:List yB) (V x:yL),aA t d->aw r->V.length<=160->jo f t r d bl a V=some x->x.length<=160:=by
 intro f;induction f with
 |zero=>
  intro t r d bl a V x _ _ c h;unfold jo pE at h;split at h
  ·split at h
   ·cases h;exact c
   ·cases h
  ·cases h
 |succ f ih=>
  intro t r d bl a V x b g c h;unfold jo at h;split at h
  ·unfold pE at h;split at h
   ·cases h;exact c
   ·cases h
  ·next hn=>
   cases hs:oO t d bl a with
   |none=>rw[hs] at h;cases h
   |some y=>
    rw[hs] at h;have key:aA y.1 d/\y.1.read:=by
     unfold oO at hs;cases t with
     |unread h0=>
      cases a with
      |nil=>cases hs
      |cons p q=>
       simp only at hs;cases hrd:gS h0 p.data.toList d bl with
       |error _=>rw[hrd] at hs;cases hs
       |ok n=>rw[hrd] at hs;cases hs;exact⟨(oT hrd).1,(oT hrd).2.1⟩
     |nil=>exact absurd rfl hn
     |leaf _ _ _=>cases hs;exact⟨b,trivial⟩
     |ext _ _ _=>cases hs;exact⟨b,trivial⟩
     |branch _ _ _=>cases hs;exact⟨b,trivial⟩
    have e:=Kq key.1 g;exact ih _ _ _ _ _ _ x e.1 e.2 (TF key.1.aK key.2 r) h
def vu(a key)(b:List yB):(e8 a key b).size<=160:=by
 unfold e8;split
 ·exact UD _
 ·next h32=>
  split
  ·exact UD _
  ·unfold tj;cases hf:jo 81 (bP a.data.toList) (aD key) 0 false b [] with
   |none=>exact UD _
   |some v=>
    show(ae v).size<=160;rw[aN];have c:a.data.toList.length=a.size:=by simp
    exact Rw 81 _ _ 0 false b [] v (qZ (by omega)) (b8 key) (UD _) hf
structure nE(w:World)(v:Value)(ps:List yB):Prop where
 at_:gQ w v ps
 len:ps.length<=maxLen
 small:∀p∈ps,p.size<=maxLen
def NM{w w' v b}(h:gQ w v b)(c:yW w w'):gQ w' v b:=by
 let⟨a,cap,e,h⟩:=h;refine⟨a,cap,e,?_⟩;rcases h with h|⟨g,o,e2,h⟩
 ·exact .inl h
 ·exact .inr ⟨g,o,e2,fun i p d=>eg c (h i p d)⟩
def nE.below{w w' v a}(h:nE w v a)(b:yW w w'):nE w' v a:=⟨NM h.at_ b,h.len,h.small⟩
def vt{w v b}(h:nE w v b)(d key:yB)(j:key.size<=maxLen)(T:aB w):yC 84 #[sV d,sV key,v] w fun e w'=>(∃c:Nat,e=rV (tV #[sV (e8 d key b),i6 c]))/\yW w w':=by
 obtain⟨a,cap,rfl,_⟩:=id h.at_;refine(BK w d key a cap b h.at_ h.len h.small j T).mono ?_;rintro e w' ⟨f,g⟩;rw[yp] at f;refine⟨?_,g⟩;have:∃c:Nat,gR d key b=(c:Int):=by
  unfold gR;split
  ·exact⟨2,rfl⟩
  ·split
   ·exact⟨1,rfl⟩
   ·cases tj d key b
    ·exact⟨12,rfl⟩
    ·exact⟨0,rfl⟩
 let⟨c,i⟩:=this;exact⟨c,by rw[f,i]⟩
def Cx{w v j}(h:nE w v j)(b addr:yB)(z:addr.size<=maxLen)(T:aB w):
 yC 93 #[sV b,sV addr,v] w fun e w'=>j6 (fun _ _ _=>True) e/\yW w w':=by
 have h32:(ag addr).size=32:=dz _;have E:yH (∀W,yW w W->yC 16 #[sV addr] W fun e w'=>e=rV (sV (ag addr))/\yW W w'):=fun W g=>ja addr z W (T.below g)
 have F:yH (∀W,yW w W->yC 84 #[sV b,sV (ag addr),v] W fun e w'=>(∃c:Nat,e=rV (tV #[sV (e8 b (ag addr) j),i6 c]))/\yW W w'):=fun W g=>vt (h.below g) b _ (by rw[h32];decide) (T.below g)
 have C:yH (∀W,yW w W->yC 35 #[sV (e8 b (ag addr) j)] W (Co (e8 b (ag addr) j) W)):=fun W g=>JK W _ (Ut (vu _ _ _) (by decide)) (T.below g)
 obtain⟨a,cap,rfl,_⟩:=h.at_;have J:=h.len;clear h h32 T;unfold maxLen at z J;generalize e8 b (ag addr) j=VS at*;generalize ag addr=HA at*;generalize j.length=NP at*;obtain⟨o,i⟩:=yX (w.alloc (.cells #[i6 0,sV ⟨#[]⟩,sV ⟨#[]⟩,sV ⟨#[]⟩] 37))
 have f:yH (yW w o):=by rw[i];exact(Un _ _).alloc (Ug _) _
 have m:yH (gf o w.heap.size 37 (i6 0) (sV ⟨#[]⟩) (sV ⟨#[]⟩) (sV ⟨#[]⟩)):=by rw[i];exact gf.new _ _ _ _ _ _
 have r:yH (∀c:Nat,c≠0->j6 (fun _ _ _=>True) (rV (tV #[gV #[i6 0,sV ⟨#[]⟩,sV ⟨#[]⟩,sV ⟨#[]⟩],bV false,i6 c]))):=fun c k=>⟨mT,false,c,rfl,vl,fun h=>absurd h k,trivial⟩
 by_cases N:b.size=32
 ·have K:(b.size:Int)=32:=by omega
  by_cases h20:addr.size=20
  ·have I:(addr.size:Int)=20:=by omega
   go_enter func93,ntmps93
   go_wp2_with fail
   rw[<-i];clear i;refine(E.o _ f.o).mono ?_;rintro e w1 ⟨rfl,s⟩;have p:=aa (f.o.trans (s.mono f.o.size));have y:=aa (m.o.below s m.o.lt);clear s;go_wp2_with fail
   refine(F.o _ p.o).mono ?_;rintro e w2 ⟨⟨c,rfl⟩,t⟩;have l:=aa (p.o.trans (t.mono p.o.size));have q:=aa (y.o.below t y.o.lt);clear t;by_cases k:c=0
   ·subst k;go_wp2_with fail
    refine(C.o _ l.o).mono ?_;rintro e w3 ⟨⟨a3,x,c3,rfl,A,B,_⟩,u⟩;have D:=aa (l.o.trans (u.mono l.o.size));obtain⟨⟨k0,k1,k2,k3⟩,f0,f1,f2,f3⟩:=(q.o.below u q.o.lt).cells;have d:yH (j6 (fun _ _ _=>True) (rV (tV #[cE a3,bV x,i6 c3]))):=⟨a3,x,c3,rfl,A,B,trivial⟩
    obtain⟨n,G,L,H⟩:=a3;unfold cE at d⊢;clear u A B;go_wp2
    exact UB (v:=tV #[gV #[i6 n,sV G,sV L,sV H],bV x,i6 c3]) (by simp[results,results93,go_sem,k0,k1,k2,k3]) rfl ⟨d.o,jW D.o (Ug _) _ _ _ _⟩
   ·have M:((c:Int) != 0)=true:=by simp;omega
    obtain⟨⟨k0,k1,k2,k3⟩,f0,f1,f2,f3⟩:=q.o.cells;have d:=aa (r.o c k);clear k;go_wp2
    exact UB (v:=tV #[gV #[i6 0,sV ⟨#[]⟩,sV ⟨#[]⟩,sV ⟨#[]⟩],bV false,i6 c]) (by simp[results,results93,go_sem,k0,k1,k2,k3]) rfl ⟨d.o,jW l.o (Ug _) _ _ _ _⟩
  ·have I:¬(addr.size:Int)=20:=by omega
   obtain⟨⟨k0,k1,k2,k3⟩,f0,f1,f2,f3⟩:=m.o.cells;have d:=aa (r.o 2 (by decide));go_enter func93,ntmps93
   go_wp2
   (try rw[<-i])
   exact UB (v:=tV #[gV #[i6 0,sV ⟨#[]⟩,sV ⟨#[]⟩,sV ⟨#[]⟩],bV false,i6 2]) (by simp[results,results93,go_sem,k0,k1,k2,k3]) rfl ⟨d.o,by first|exact f.o|exact jW f.o (Ug _) _ _ _ _⟩
 ·have K:¬(b.size:Int)=32:=by omega
  obtain⟨⟨k0,k1,k2,k3⟩,f0,f1,f2,f3⟩:=m.o.cells;have d:=aa (r.o 2 (by decide));go_enter func93,ntmps93
  go_wp2
  (try rw[<-i])
  exact UB (v:=tV #[gV #[i6 0,sV ⟨#[]⟩,sV ⟨#[]⟩,sV ⟨#[]⟩],bV false,i6 2]) (by simp[results,results93,go_sem,k0,k1,k2,k3]) rfl ⟨d.o,by first|exact f.o|exact jW f.o (Ug _) _ _ _ _⟩
def La{w v u I i}(h:nE w v I)(p:nE w u i)(B addr slot:yB)(hk:addr.size<=maxLen)(F:slot.size<=maxLen)(T:aB w):
 yC 94 #[sV B,sV addr,sV slot,v,u] w fun e w'=>JL e/\yW w w':=by
 have h32:(ag slot).size=32:=dz _;have U:=aa (Cx h B addr hk T);have P:yH (∀W,yW w W->yC 16 #[sV slot] W fun e w'=>e=rV (sV (ag slot))/\yW W w'):=fun W l=>ja slot F W (T.below l)
 have V:yH (∀f W,yW w W->yC 84 #[sV f,sV (ag slot),u] W fun e w'=>(∃(c:Nat) (x:yB),e=rV (tV #[sV x,i6 c])/\x.size<=160)/\yW W w'):=fun f W l=>(vt (p.below l) f _ (by rw[h32];decide) (T.below l)).mono fun _ _ ⟨⟨c,h1⟩,h2⟩=>⟨⟨c,_,h1,vu _ _ _⟩,h2⟩
 have O:yH (∀x W,x.size<=160->yW w W->yC 126 #[sV x] W fun e w'=>JL e/\yW W w'):=fun x W q l=>(DI W x (Ut q (by decide))).mono fun _ _ ⟨⟨v,c,h1,h2,_⟩,h3⟩=>⟨⟨v,c,h1,h2⟩,h3⟩
 obtain⟨a,cap,rfl,_⟩:=h.at_;obtain⟨a',D,rfl,_⟩:=p.at_;have G:=p.len;have N:yH (∀W,yC 127 #[lV a' i.length D] W fun e w'=>e=rV (tV #[sV ⟨#[]⟩,i6 (if 0<i.length then 12 else 0)])/\w'=W):=fun W=>Pu W a' _ D G
 have M:yH (∃c:Nat,(if 0<i.length then(12:Int) else 0)=c):=by
  by_cases h0:0<i.length
  ·exact⟨12,by rw[Uj h0];rfl⟩
  ·exact⟨0,by rw[Ui h0];rfl⟩
 clear h p h32 T G;unfold maxLen at F;generalize ag slot=HT at*;generalize (if 0<i.length then(12:Int) else 0)=NC at*;generalize I.length=NP at*;generalize i.length=NQ at*;obtain⟨nc,A0⟩:=M.o;subst A0;by_cases h32:slot.size=32
 ·have Y:(slot.size:Int)=32:=by omega
  go_enter func94,ntmps94
  go_wp2_with fail
  refine U.m ?_;rintro e w2 ⟨⟨a3,th,c,rfl,A1,hz,_⟩,z⟩;obtain⟨n,t,f,y⟩:=a3;unfold cE;obtain⟨d,g⟩:=yX (w2.alloc (.cells #[i6 n,sV t,sV f,sV y] 37))
  have b:yH (yW w d):=by rw[g];exact z.alloc z.size _
  have k:yH (gf d w2.heap.size 37 (i6 n) (sV t) (sV f) (sV y)):=by rw[g];exact gf.new _ _ _ _ _ _
  obtain⟨⟨k0,k1,k2,k3⟩,_⟩:=k.o.cells;clear z A1 hz;by_cases m:c=0
  ·subst m;cases th with
   |false=>
    go_wp2_with fail
    (try rw[<-g])
    refine(N.o _).mono ?_;rintro e K ⟨rfl,A2⟩;subst A2;go_wp2
    go_ret2
    (try rw[<-g])
    exact⟨⟨⟨#[]⟩,nc,rfl,by decide⟩,b.o⟩
   |true=>
    have Q:yH (yC 16 #[sV slot] d.drew fun e w'=>e=rV (sV HT)/\yW d w'):=(P.o d.drew ⟨b.o.os,b.o.tape,b.o.output,b.o.size,b.o.block⟩).mono fun _ _ ⟨h1,h2⟩=>⟨h1,⟨h2.os,h2.tape,h2.output,h2.size,h2.block⟩⟩
    go_upto_region 8 with fail
    rw[<-g];clear g;go_cut [14,15] (fun X sv K=>∃(c:Nat) (x:yB),X=i6 c/\sv=sV x/\yH (x.size<=160)/\yH (yW w K))
    case first=>
     go_region_held3 (fun w'=>w'.cell? ⟨w2.heap.size,2,none⟩=some (sV f)) (go_keep) (first| (go_at_call 16;refine Q.m ?_;rintro e J ⟨rfl,o⟩;obtain⟨⟨n0,n1,n2,n3⟩,_⟩:=(k.o.below o k.o.lt).cells;have r:yH (yW w J):=b.o.trans (o.mono b.o.size);have C:yH (gf J w2.heap.size 37 (i6 n) (sV t) (sV f) (sV y)):=k.o.below o k.o.lt;clear o) | (go_at_call 84;refine(V.o _ _ r.o).mono ?_;rintro e wb ⟨⟨c,x,rfl,q⟩,A⟩;obtain⟨⟨p0,p1,p2,p3⟩,_⟩:=(C.o.below A C.o.lt).cells;have j:yH (yW w wb):=r.o.trans (A.mono r.o.size);have s:yH (x.size<=160):=q;clear A q))
     all_goals
      go_wp2
      go_meet
      exact⟨c,x,rfl,rfl,s,j⟩
    case rest=>
     obtain⟨c,x,rfl,rfl,s,j⟩:=hcut;by_cases m:c=0
     ·subst m;have R:=aa (O.o x wc s.o j.o);go_wp2_with fail
      refine R.m ?_;rintro e w6 ⟨⟨v6,c6,rfl,H⟩,E⟩;have L:=aa (j.o.trans (E.mono j.o.size));have S:=aa H;clear E H;go_wp2
      go_ret2
      exact⟨⟨v6,c6,rfl,S.o⟩,L.o⟩
     ·have Z:((c:Int) != 0)=true:=by simp;omega
      clear m;go_wp2
      go_ret2
      exact⟨⟨⟨#[]⟩,c,rfl,by decide⟩,j.o⟩
  ·have Z:((c:Int) != 0)=true:=by simp;omega
   clear m;go_wp2
   go_ret2
   (try rw[<-g])
   exact⟨⟨⟨#[]⟩,c,rfl,by decide⟩,b.o⟩
 ·have Y:¬(slot.size:Int)=32:=by omega
  go_enter func94,ntmps94
  go_wp2
  go_ret2
  exact⟨⟨⟨#[]⟩,2,rfl,by decide⟩,Un _ _⟩
def sJ.nil{A P a Z K d b w}(h:SC A P K d b w)(c:Nat)(f:Z c [] [])(e:∀X r,P X r->a X r):sJ A a Z K d b (rV (tV #[lV none 0 0,lV none 0 0,i6 c])) w:=⟨_,_,c,[],[],[],[],rfl,vS _,vS _,f,h.ev e⟩
def SC.o6{A P K b b1 a w}(h:SC A P K b (b1++a) w):SC A P K b a w:=h.drop (fun _ ht=>ht) fun _ hb=>UP _ hb
def JS(A:fm)(m:Mp)(a b addr slot:yB)(c:Nat)(cs d:List yB):Prop:=(addr.size≠20->c=2)/\(addr.size=20->slot.size=32->A.k.ok->c=0/\(∀L,uV m L->cs=(aQ bj (aR L 1) a).map ae)/\d=(aQ bj (aR (aY m a).ss 1) b).map ae)
def EG{A m K j l w}(h:SC A (Wm A m) K j l w)(addr slot:yB)(hk:addr.size<=maxLen)(hl:slot.size<=maxLen)(hN:A.N+K+1000<4000000000):
 yC 92 #[pV (qA A.sp),sV addr,sV slot] w fun e w'=>sJ A (Wm A m) (JS A m (ag addr) (ag slot) addr slot) (K+800) j l e w'/\True:=by
 obtain⟨X,_,p,h⟩:=h.nB;obtain⟨x,hx⟩:=yX ((aY m (ag addr)).ss)
 have h32:(ag addr).size=32:=dz _;have A4:(ag slot).size=32:=dz _;have D4:=aa (h.sum addr hk);have B7:yH (∀W,SC A (aj X) K j l W->yC 20 #[pV (qA A.sp),sV (ag addr)] W fun e w'=>j6 (jM A X (ag addr)) e/\SC A (aj X) (K+250) j l w'):=fun W p=>uT p _ (by rw[h32];decide)
 have D1:yH (∀r W,r.size=32->(A.k.ok->r=cY x)->SC A (aj X) (K+250) j l W->yC 125 #[pV (qA A.sp),sV (ag addr),sV r] W fun e w'=>∃i b,e=rV (pV (qA i))/\jF X (ag addr) x i b/\i≠A.tw/\SC A (aj b) (K+250+1) (i::j) l w'):=fun r W U T B=>B.slotsOf _ r (by rw[h32];decide) U (by omega) x fun d ho=>by rw[T d,hx];exact((p d).rH _).2 ho
 have D3:yH (∀i b W,SC A (aj b) (K+250+1) (i::j) l W->yC 16 #[sV slot] W fun e w'=>e=rV (sV (ag slot))/\SC A (aj b) (K+250+1) (i::j) l w'):=fun i b W p=>p.sum slot hl
 have C6:yH (∀i b W,SC A (aj b) (K+250+1) (i::j) l W->yC 22 #[pV (qA i),sV (ag slot)] W (sI A (aj b) (lU A b i (ag slot)) (K+250+1+250) (i::j) l)):=fun i b W p=>p.mq (.inr (Uk ..)) _ (by rw[A4];decide)
 have A9:yH (∀A2 b W,SC A (aj b) (K+501) j A2 W->yC 22 #[pV (qA A.tw),sV (ag addr)] W (sI A (aj b) (lU A b A.tw (ag addr)) (K+501+250) j A2)):=fun A2 b W p=>p.mq (.inl rfl) _ (by rw[h32];decide)
 obtain⟨R,H⟩:=yX (sJ A (Wm A m) (JS A m (ag addr) (ag slot) addr slot) (K+800) j l)
 have B0:yH (¬(addr.size=20/\slot.size=32)->R (rV (tV #[lV none 0 0,lV none 0 0,i6 (2:Nat)])) w):=fun q=>by
  rw[H];exact sJ.nil (h.mono (by omega)) 2 ⟨fun _=>rfl,fun h1 h2=>(q ⟨h1,h2⟩).elim⟩ fun Y _ S=>by rw[show Y=X from S];exact p
 have C5:yH (∀(c:Nat) P W,addr.size=20->(A.k.ok->c=0)->c≠0->SC A P (K+800) j l W->R (rV (tV #[lV none 0 0,lV none 0 0,i6 c])) W):=fun c P W h20 q h0 B=>by
  rw[H];exact sJ.nil B c ⟨fun h=>absurd h20 h,fun _ _ d=>absurd (q d) h0⟩ fun _ _ _ d=>absurd (q d) h0
 have B9:yH (∀u cs f W,addr.size=20->(A.k.ok->false=(m (ag addr)).isSome)->lU A X A.tw (ag addr) 0 cs->gO A.w.heap.size f u cs->SC A (aj X) (K+800) j (f++([]++l)) W->R (rV (tV #[u,lV none 0 0,i6 (0:Nat)])) W):=fun u cs f W h20 q z U B=>by
  rw[H];refine⟨u,_,0,cs,[],f,[],rfl,U,vS _,⟨fun h=>absurd h20 h,fun _ _ d=>⟨rfl,fun L Q=>?_,?_⟩⟩,B.ev fun Y _ S=>by rw[show Y=X from S];exact p⟩
  ·obtain⟨_,h2,h3⟩:=z d;rw[h3,wm h2 Q.1 (fun k=>((p d).dJ k).trans (Q.2 k).symm) (by rw[h32];decide)]
  ·have q:=q d;cases hm:m (ag addr) with
   |none=>
    have e:aY m (ag addr)=lP:=by unfold aY;rw[hm];rfl
    rw[e,p8 (jV (m:=lP.ss) o9 1).all (by rw[A4];decide)];rfl
   |some a=>rw[hm] at q;cases q
 have C1:yH (∀(i:Nat) b u v cs t f s W,addr.size=20->jF X (ag addr) x i b->i≠A.tw->(A.k.ok->true=(m (ag addr)).isSome)->lU A b i (ag slot) 0 t->lU A b A.tw (ag addr) 0 cs->gO A.w.heap.size f u cs->gO A.w.heap.size s v t->SC A (aj b) (K+800) j (f++(s++l)) W->R (rV (tV #[u,v,i6 (0:Nat)])) W):=fun i b u v cs t f s W h20 s1 s2 s3 z1 z2 r1 r2 B=>by
  rw[H];rw[hx] at s1;have A3:A.k.ok->Wd A.k A.ps A.tw b m gK/\b.g i=(aY m (ag addr)).ss:=fun d=>by
   obtain⟨o1,o2,o3⟩:=(p d).open_ s1 s2;exact⟨o1.full o2 o3 (s3 d).symm,o3⟩
  refine⟨u,v,0,cs,t,f,s,rfl,r1,r2,⟨fun h=>absurd h20 h,fun _ _ d=>⟨rfl,fun L Q=>?_,?_⟩⟩,B.ev fun Y _ S d=>by rw[show Y=b from S];exact(A3 d).1⟩
  ·obtain⟨_,h2,h3⟩:=z2 d;rw[h3,wm h2 Q.1 (fun k=>((A3 d).1.dJ k).trans (Q.2 k).symm) (by rw[h32];decide)]
  ·rw[(z1 d).2.2,(A3 d).2]
 have B8:yH (∀a E c,jM A X (ag addr) a E c->A.k.ok->c=0/\a.root=cY x/\E=(m (ag addr)).isSome):=fun a E c z d=>by
  obtain⟨e1,e2,e3⟩:=(p d).acc (z d);exact⟨e3,by rw[e1,hx];rfl,e2⟩
 rw[<-H];clear h h32 A4 p hx H;unfold maxLen at hk hl;generalize ag addr=HA at*;generalize ag slot=HT at*;by_cases h20:addr.size=20
 ·have D6:(addr.size:Int)=20:=by omega
  by_cases D8:slot.size=32
  ·have D9:(slot.size:Int)=32:=by omega
   go_enter func92,ntmps92
   go_wp2_with fail
   refine D4.m ?_;rintro e w1 ⟨rfl,B1⟩;have C7:=aa B1;clear B1;go_wp2_with fail
   refine(B7.o _ C7.o).mono ?_;rintro e w2 ⟨⟨a,E,c,rfl,D7,z,B6⟩,B2⟩;have T:=B8.o a E c B6;clear B6;have C:=C5.o;have Z:yH (∀(c:Nat) P W,(A.k.ok->c=0)->c≠0->SC A P (K+800) j l W->R (rV (tV #[lV none 0 0,lV none 0 0,i6 c])) W):=fun c P W=>C c P W h20
   clear C;obtain⟨n,F,r,G⟩:=a;simp only at z T;have HQ:=aa T;clear T;have A1:yH (SC A (aj X) (K+250) j l (w2.alloc (.cells #[i6 n,sV F,sV r,sV G] 37))):=(B2.box #[i6 n,sV F,sV r,sV G] 37).unbox;have D0:yH (SC A (aj X) (K+800) j l (w2.alloc (.cells #[i6 n,sV F,sV r,sV G] 37))):=A1.o.mono (by omega);unfold cE;clear B2 D7;by_cases hc:c=0
   ·subst hc;have A8:=(z rfl).1;clear z;cases E with
    |false=>
     have A0:yH (SC A (aj X) (K+501) j l (w2.alloc (.cells #[i6 n,sV F,sV r,sV G] 37))):=A1.o.mono (by omega);obtain⟨d0,d1⟩:=A0.o.cells;have C:=B9.o;have C0:yH (∀u cs f W,lU A X A.tw HA 0 cs->gO A.w.heap.size f u cs->SC A (aj X) (K+800) j (f++([]++l)) W->R (rV (tV #[u,lV none 0 0,i6 (0:Nat)])) W):=fun u cs f W=>C u cs f W h20 fun d=>(HQ.o d).2.2
     clear A8 C;go_wp2_with fail
     refine(A9.o _ _ _ A0.o).mono ?_;rintro e w5 ⟨u,c,cs,f,rfl,V,y,I⟩;have M:yH (c=0->R (rV (tV #[u,lV none 0 0,i6 (0:Nat)])) w5):=fun h0=>C0.o u cs f w5 (by rw[<-h0];exact y) V (I.mono (by omega))
     have O:yH (c≠0->R (rV (tV #[lV none 0 0,lV none 0 0,i6 c])) w5):=fun h0=>Z.o c _ w5 (fun d=>(y d).1) h0 (I.o6.mono (by omega))
     clear V I y d0 d1;by_cases D:c=0
     ·subst D;have o:=M.o rfl;have o:=aa o;go_wp2
      go_ret3
      exact⟨o.o,trivial⟩
     ·have A7:((c:Int) != 0)=true:=by simp;omega
      have o:=O.o D;have o:=aa o;clear D;go_wp2
      go_ret3
      exact⟨o.o,trivial⟩
    |true=>
     have D2:yH (yC 125 #[pV (qA A.sp),sV HA,sV r] (w2.alloc (.cells #[i6 n,sV F,sV r,sV G] 37)) fun e w'=>∃i b,e=rV (pV (qA i))/\jF X HA x i b/\i≠A.tw/\SC A (aj b) (K+250+1) (i::j) l w'):=D1.o r _ A8 (fun d=>(HQ.o d).2.1) A1.o;have D5:yH (A.k.ok->true=(m HA).isSome):=fun d=>(HQ.o d).2.2
     clear A8;go_wp2_with fail
     refine D2.m ?_;rintro e w3 ⟨i,b,rfl,s1,s2,B3⟩;have C:=C1.o i b;have C2:yH (∀u v cs t f s W,lU A b i HT 0 t->lU A b A.tw HA 0 cs->gO A.w.heap.size f u cs->gO A.w.heap.size s v t->SC A (aj b) (K+800) j (f++(s++l)) W->R (rV (tV #[u,v,i6 (0:Nat)])) W):=fun u v cs t f s W=>C u v cs t f s W h20 s1 s2 D5.o
     clear C s1 s2;have A0:yH (SC A (aj b) (K+250+1) (i::j) l w3):=B3;clear B3;go_wp2_with fail
     refine(D3.o _ _ _ A0.o).mono ?_;rintro e w4 ⟨rfl,B4⟩;have C8:=aa B4;clear B4;go_wp2_with fail
     refine(C6.o _ _ _ C8.o).mono ?_;rintro e w5 ⟨v,c,t,s,rfl,B5,y,I⟩;have M:=aa I.np;have J:=C2.o;have C3:yH (c=0->∀u cs f W,lU A b A.tw HA 0 cs->gO A.w.heap.size f u cs->SC A (aj b) (K+800) j (f++(s++l)) W->R (rV (tV #[u,v,i6 (0:Nat)])) W):=fun h0 u cs f W z U B=>J u v cs t f s W (by rw[<-h0];exact y) z U B5 B
     have O:yH (c≠0->R (rV (tV #[lV none 0 0,lV none 0 0,i6 c])) w5):=fun h0=>Z.o c _ w5 (fun d=>(y d).1) h0 (M.o.o6.mono (by omega))
     clear B5 I y J;by_cases D:c=0
     ·subst D;have J:=C3.o rfl;have C4:=aa J;clear J;obtain⟨d0,d1⟩:=M.o.cells;go_wp2_with fail
      refine(A9.o _ _ _ M.o).mono ?_;rintro e w6 ⟨u,c,cs,f,rfl,V,y,A5⟩;have O:yH (c=0->R (rV (tV #[u,v,i6 (0:Nat)])) w6):=fun h0=>C4.o u cs f w6 (by rw[<-h0];exact y) V (A5.mono (by omega))
      have C9:yH (c≠0->R (rV (tV #[lV none 0 0,lV none 0 0,i6 c])) w6):=fun h0=>Z.o c _ w6 (fun d=>(y d).1) h0 (A5.o6.o6.mono (by omega))
      clear V A5 d0 d1 y;by_cases A6:c=0
      ·subst A6;have o:=O.o rfl;have o:=aa o;go_wp2
       go_ret3
       exact⟨o.o,trivial⟩
      ·have A7:((c:Int) != 0)=true:=by simp;omega
       have o:=C9.o A6;have o:=aa o;clear A6;go_wp2
       go_ret3
       exact⟨o.o,trivial⟩
     ·have A7:((c:Int) != 0)=true:=by simp;omega
      have o:=O.o D;have o:=aa o;clear D;go_wp2
      go_ret3
      exact⟨o.o,trivial⟩
   ·have A7:((c:Int) != 0)=true:=by simp;omega
    have o:yH (R (rV (tV #[lV none 0 0,lV none 0 0,i6 c])) (w2.alloc (.cells #[i6 n,sV F,sV r,sV G] 37))):=Z.o c _ _ (fun d=>(HQ.o d).1) hc D0.o;clear hc z;go_wp2
    go_ret3
    exact⟨o.o,trivial⟩
  ·have D9:¬(slot.size:Int)=32:=by omega
   have o:yH (R (rV (tV #[lV none 0 0,lV none 0 0,i6 (2:Nat)])) w):=B0.o fun h=>D8 h.2
   go_enter func92,ntmps92
   go_wp2
   go_ret3
   exact⟨o.o,trivial⟩
 ·have D6:¬(addr.size:Int)=20:=by omega
  have o:yH (R (rV (tV #[lV none 0 0,lV none 0 0,i6 (2:Nat)])) w):=B0.o fun h=>h20 h.1
  go_enter func92,ntmps92
  go_wp2
  go_ret3
  exact⟨o.o,trivial⟩
def Ki:zeroCells63=#[pV none,pV none]++jj fun _=>lV none 0 0:=by kernel_rfl
def Mz(x y a b)(s:Array Value):((#[x,y]++s).setIfInBounds 0 a).setIfInBounds 1 b=#[a,b]++s:=by
 apply Array.ext';simp
def MM(w b d)(P:Nat->World->Prop)(f:yH (yC 17 #[pV b,sV d] w fun e w'=>∃a,e=rV (tV #[pV (qA a),i6 0])/\P a w')):
 yC 8 #[pV b,sV d] w fun e w'=>∃a w1,P a w1/\e=rV (tV #[pV (qA w1.heap.size),i6 0])/\w'=w1.alloc (.cells (#[pV b,pV (qA a)]++jj fun _=>lV none 0 0) 63):=by
 go_enter func8,ntmps8
 go_wp2_with fail
 refine f.m ?_;rintro e w1 ⟨a,rfl,c⟩;have g:=aa c;clear c;go_wp2
 go_ret2
 refine⟨a,w1,g.o,rfl,?_⟩;rw[Ki,Mz]
def zd{l w sb A v}(hs:fv w sb A v)(L:∀x,cy sb A x->l x=pr sb 0)(T:aB w)(l3:∀k,k<3->l k=0)(a:yB)(I:a.size=32)(k:Kn)(x)(h:k.ok->dI v k.B (bP a.data.toList) x):
 yC 8 #[pV (qA sb),sV a] w fun e w'=>∃sp tw l',e=rV (tV #[pV (qA sp),i6 0])/\w.heap.size<=sp/\Mv (fun _=>False) l l' w w'/\SX l' w' sp sb tw [tw] 1 A v k (fun X r=>X=⟨fun _=>x,fun _=>none⟩/\r=a):=by
 have J:ae a.data.toList=a:=by unfold ae;simp
 have s:a.data.toList.length=32:=by rw[<-I];simp
 have C:=sL w (qA sb) a.data.toList s T;rw[J] at C;refine(MM w (qA sb) a (fun b w1=>∃u,w.heap.size<=b/\fF w1 b (qA sb) u/\At w1 (bP a.data.toList) (fun x=>w.heap.size<=x/\x≠b) (pV u)/\yW w w1) (C.mono fun _ _ ⟨b,u,h1,h2,h3,h4,h5⟩=>⟨b,h1,u,h2,h3,h4,h5⟩)).mono ?_;rintro e w' ⟨b,w1,⟨u,h1,h2,h3,h4⟩,n,rfl⟩;have F:=h4.size;have N:=T.size;have D:=h2.lt;have O:sb<w.heap.size:=hs.st.eM sb (.inl rfl);have q:yW w1 (w1.alloc (.cells (#[pV (qA sb),pV (qA b)]++jj fun _=>lV none 0 0) 63)):=(Un _ _).alloc (Ug _) _;have i:=h4.trans (q.mono F);obtain⟨l',z⟩:∃l':Nat->Nat,l'=fun k=>if k<w.heap.size then l k else if k<w1.heap.size then pr w1.heap.size (b+1) else pr w1.heap.size 0:=⟨_,rfl⟩
 have lo:∀k,k<w.heap.size->l' k=l k:=fun k p=>by rw[z];simp[p]
 have G:∀k,w.heap.size<=k->k<w1.heap.size->l' k=pr w1.heap.size (b+1):=fun k h1 h2=>by rw[z];simp[VK.2 h1,h2]
 have K:∀k,w1.heap.size<=k->l' k=pr w1.heap.size 0:=fun k h1=>by rw[z];simp[VK.2 h1,show ¬k<w.heap.size by omega]
 have m:Mv (fun _=>False) l l' w (w1.alloc (.cells (#[pV (qA sb),pV (qA b)]++jj fun _=>lV none 0 0) 63)):=⟨i.os,i.tape,i.output,i.size,lo,fun k p _=>i.block k p⟩
 have H:eX (w1.alloc (.cells (#[pV (qA sb),pV (qA b)]++jj fun _=>lV none 0 0) 63)) b (qA sb) (fun x=>(w.heap.size<=x/\x≠b)/\x<w1.heap.size) (bP a.data.toList):=
  ⟨⟨u,h2.kept (q.block b D),h3.cut.below q⟩,qZ s,fun x h=>⟨by omega,h.1.2,by have:=q.size;omega⟩⟩
 refine⟨w1.heap.size,b,l',n,F,m,⟨⟨fun _=>lV none 0 0,fun _=>[],fun _=>bP a.data.toList,fun _ x=>(w.heap.size<=x/\x≠b)/\x<w1.heap.size,⟨fun _=>x,fun _=>none⟩,?_,?_,⟨fun _ _=>List.Pairwise.nil,?_,(fun c j e _ n=>by simp at n),fun M b _=>h M⟩,rfl,?_⟩,hs.kept fun x h=>i.block x (hs.st.eM x h),fun x h=>(lo x (hs.st.eM x h)).trans (L x h),T.below i,fun k p=>(lo k (by omega)).trans (l3 k p),by omega⟩⟩
 ·exact
   {ai:=⟨UG w1 _,fun _ _=>U8 _ _ _ _,fun c d g _ _ o=>by simp[Value.ownBlock] at o,fun c g _ o=>by simp[Value.ownBlock] at o⟩
    jA:=K _ (Ug _)
    jB:=fun c g _ o=>by simp[Value.ownBlock] at o
    ie:=fun c k e _ n=>by simp at n
    gI:=fun c k d j e f _ _ n=>by simp at n
    dJ:=Uo.2 rfl
    lO:=by simp
    gy:=fun x h=>by
     rw[Uo.1 h];exact⟨H,by unfold bP;split<;>trivial,G _ h1 D,fun y E=>G y E.1.1 E.2⟩}
 ·show cS (gh v) (bP a.data.toList)+1+0<=1;rw[zM];exact Ug _
 ·funext y
  show none=nU (fun _=>[]) y;unfold nU;split<;>rfl
 ·show ae (bQ (bP a.data.toList))=a;unfold bP;split
  ·next e=>rw[<-gA a,e];rfl
  ·rw[nQ (t:=.unread a.data.toList) trivial];show ae (if a.data.toList=[] then _ else a.data.toList)=a;rw[Ui (fun e=>by rw[e] at s;cases s),gA]
def zB{c:yL}{d}(b:c.length<=4096):∀x∈iO c d,x.length<=4096:=fun x a=>by
 unfold iO at a
 split at a
 ·rw[Uo.1 a];exact b
 ·cases a
def PJ:∀(t) (d:Bool),aO t->∀c∈cf t d,c.length<=4096:=by
 intro t;induction t with
 |nil=>intro d _ c a;cases a
 |unread h=>intro d _ c a;cases a
 |leaf h p v=>intro d b;exact zB (b.ow trivial).2
 |ext h p k ih=>
  intro d b c a;rcases UA.1 a with a|a
  ·exact ih false b.2.2.2.2 c a
  ·exact zB (b.ow trivial).2 c a
 |branch h v ks ih=>
  intro d b c a;rcases UA.1 a with a|a
  ·let⟨i,hi,a⟩:=List.mem_flatMap.1 a;exact ih i false (b.2.2 i (Vq.1 hi)) c a
  ·exact zB (b.ow trivial).2 c a
def Jb{l a w sb k S t p d}(n:eX w k (qA sb) S t)(q:bK t)(s:∀x,S x->l x≠a)(y:l k≠a)(hs:fv w sb p d)(j:∀x,cy sb p x->l x=a)(T:aB w)(o:Fits d (cf t true)):
 yC 78 #[pV (qA k)] w fun e w'=>e=rV (sV (ae (bQ t)))/\∃l' f,Mv (fun x=>x=a) l l' w w'/\fv w' sb f (aT d (cf t true))/\∀x,cy sb f x->l' x=a:=by
 have h3:=T.size;refine(Uc n q hs.st (fun g=>y (j _ g)) (fun x i g=>s x i (j _ g)) hs.m3 h3 (Ug _) T o).mono ?_;rintro e w' ⟨v,r⟩;let⟨l',f,m,h1,h2,h4⟩:=Du j r (hs.st.eM sb (.inl rfl));refine⟨v,l',f,m,⟨h1,o _ fun _ h=>h,fun h z b=>?_,fun x i=>?_⟩,h2⟩
 ·rcases wT (cf t true) d h with⟨h5,_⟩|⟨c,u,h5,_⟩
  ·rw[h5] at b;exact hs.sm h z b
  ·rw[h5] at b;cases b
   rw[aN];exact PJ t true n.ok.aK c u
 ·rcases h4 x i with h5|h5
  ·exact hs.m3 x h5
  ·omega
def OU{a h}(c:ah a h≠none):(others a h).length+1<=a.length:=by
 induction a with
 |nil=>exact absurd rfl c
 |cons p a ih=>
  by_cases e:p.1=h
  ·have b:(p.1.toList == h.toList)=true:=by rw[dV];exact Uw e
   unfold others;rw[List.filter_cons_of_neg (by rw[b];simp),UJ];exact Nat.succ_le_succ (List.length_filter_le _ _)
  ·have b:(p.1.toList == h.toList)=false:=by rw[dV];exact Uv e
   have d:ah a h≠none:=fun h0=>c (by unfold ah;rw[Ui (by rw[b];simp)];exact h0)
   have:=ih d;unfold others at this⊢;rw[List.filter_cons_of_pos (by rw[b];rfl),UJ,UJ];omega
def Qr(a h t):(fp a h t).length=(others a h).length+1:=by
 have h2:=tO (others a h) h;unfold fp;simp only[Uq,UN,Uu,UJ,List.length_nil];omega
def Qq(a c):(∀d,gh (fp a (ag (ae c)) (ae c)) d=true->gh a d=true)/\gh (fp a (ag (ae c)) (ae c)) c=false/\(fp a (ag (ae c)) (ae c)).length<=a.length+(if gh a c=true then 1 else 0):=by
 refine⟨fun d b=>?_,?_,?_⟩
 ·unfold gh at b⊢;rw[uf] at b;split at b
  ·cases b
  ·exact b
 ·unfold gh;rw[uf,Uj rfl];rfl
 ·rw[Qr];have h1:=oW a (ag (ae c));split
  ·omega
  ·next hn=>
   have:ah a (ag (ae c))≠none:=fun h=>hn (by unfold gh;rw[h];rfl)
   have:=OU this;omega
def uL{P Q}(h:∀d,Q d=true->P d=true):∀(l:List yL),l.countP Q<=l.countP P
 | []=>Ug _
 |c::l=>by
  have b:=uL h l
  rw[List.countP_cons,List.countP_cons]
  by_cases a:Q c=true
  ·rw[Uj a,Uj (h c a)];omega
  ·rw[Ui a];omega
def Ja{P Q}(h:∀d,Q d=true->P d=true){c}(h1:P c=true)(h2:Q c=false):∀(l:List yL),c∈l->l.countP Q+1<=l.countP P
 | [],hc=>by cases hc
 |d::l,hc=>by
  rw[List.countP_cons,List.countP_cons]
  by_cases e:d=c
  ·subst e
   have:=uL h l
   rw[Uj h1,Ui (by rw[h2];simp)];omega
  ·have f:=Ja h h1 h2 l ((UC.1 hc).resolve_left fun b=>e b.symm)
   by_cases a:Q d=true
   ·rw[Uj a,Uj (h d a)];omega
   ·rw[Ui a];omega
def gB(a:List (yB×yB))(b:Nat->Nd)(D:List Nat):Nat:=a.length+dy (gg a b) D
def wv(f:Nat->Nd)(D:List Nat)(g:Nat)(n:g∈D):∀(l:List yL) (b),(∀c∈l,c∈cf (f g) true)->gB (aT b l) f D<=gB b f D/\∀d,gh (aT b l) d=true->gh b d=true
 | [],b,_=>⟨Ug _,fun _ h=>h⟩
 |c::l,b,hl=>by
  let⟨h1,h2⟩:=wv f D g n l (fp b (ag (ae c)) (ae c)) fun d i=>hl d (Ul _ i)
  let⟨k1,k2,k3⟩:=Qq b c
  refine⟨Ut h1 ?_,fun d i=>k1 d (h2 d i)⟩
  unfold gB
  have j:∀x,gg (fp b (ag (ae c)) (ae c)) f x<=gg b f x:=fun x=>Nat.succ_le_succ (uL k1 _)
  have p:=tv j D
  by_cases k:gh b c=true
  ·rw[Uj k] at k3
   have q:gg (fp b (ag (ae c)) (ae c)) f g+1<=gg b f g:=Nat.succ_le_succ (Ja k1 k k2 _ (hl c (Uk ..)))
   have key:∀A:List Nat,g∈A->dy (gg (fp b (ag (ae c)) (ae c)) f) A+1<=dy (gg b f) A:=by
    intro A m;induction A with
    |nil=>cases m
    |cons a r ih=>
     show gg _ f a+dy _ r+1<=gg b f a+dy _ r;by_cases e:a=g
     ·subst e;have:=tv j r;omega
     ·have:=ih ((UC.1 m).resolve_left fun o=>e o.symm);have:=j a;omega
   have:=key D n;omega
  ·rw[Ui k] at k3;omega
def Oa{c D b}(d:b∈D){a}(h:gB a c D<4000000000000):Fits a (cf (c b) true):=fun l' e=>by
 have:=(wv c D b d l' a e).1
 unfold gB at this h
 omega
def Cm(l:Nat->Nat)(w:World)(g sb h:Nat)(D:List Nat)(i:Nat->Value)(f:Nat->List bH)(a:Nat->Nd)(e:Nat->Nat->Prop)(b:List (yB×yB))(A:List Nat)(w':World):Prop:=∃l' us' ps' L,ps'=aT b L/\(∀x∈A,∀c∈cf (a x) true,c∈L)/\Mv (fun x=>x=pr sb 0) l l' w w'/\jX l' w' g sb h D i f a e/\fv w' sb us' ps'/\(∀x,cy sb us' x->l' x=pr sb 0)/\aB w'/\(∀k,k<3->l' k=0)/\gB ps' a D<=gB b a D/\∀d,gh ps' d=true->gh b d=true
def Cm.one{l w w1 j sb z a D B y f s q A}(h:Cm l w j sb z D B y f s q A w1)(N:j≠sb)(n:a∈D)(Q:gB q f D<4000000000000):
 yC 78 #[pV (qA a)] w1 fun e w'=>(∃r:yB,e=rV (sV r)/\r=ae (bQ (f a)))/\Cm l w j sb z D B y f s q (a::A) w':=by
 let⟨l',R,O,L,C,E,m,t,hs,K,T,l3,H,J⟩:=h;have i:=t.gy a n;have p:∀b,pr j b≠pr sb 0:=fun b e=>N (fS e).1
 have v:=wv f D a n (cf (f a) true) O fun _ h=>h
 refine(Jb i.tr i.loose (fun x g=>by rw[i.lS x g];exact p _) (by rw[i.lt];exact p _) hs K T (Oa n (by omega))).mono ?_;rintro e w' ⟨G,l2,P,m2,I,M⟩;refine⟨⟨_,G,rfl⟩,l2,P,_,L++cf (f a) true,by rw[wX,<-C],fun x g c u=>?_,m.trans m2,t.move m2 (fun b e=>p b e),I,M,T.mv m2 (fun k o e=>by rw[l3 k o] at e;have:=iu sb 0;omega),fun k o=>(m2.bt k (by have:=T.size;omega)).trans (l3 k o),Ut v.1 H,fun d F=>J d (v.2 d F)⟩;rcases UC.1 g with rfl|g
 ·exact UP _ u
 ·exact UR _ (E x g c u)
def Cm.cells{l w w1 b sb f D n e k g j A}(h:Cm l w b sb f D n e k g j A w1):w1.cell? ⟨b,1,none⟩=some (pV (qA f))/\∀c,c<256->∃a cap,xT w1 b c a cap (e c):=by
 let⟨l',p,o,L,_,_,m,d,_⟩:=h;refine⟨by rw[Ur w1 b 1 _ _ _ d.ai.ai];exact Dw _ _ _,fun c i=>?_⟩;let⟨a,cap,_,S⟩:=d.ai.lK c i;exact⟨a,cap,S⟩
def Ub(a:Nat->List bH)(D A:List Nat)(c k:Nat):Prop:=A.Nodup/\(∀x∈A,x∈D)/\∀x∈A,∃c' k' e,(c'<c\/(c'=c/\k'<k))/\c'<256/\(a c')[k']? =some e/\e.2=some ⟨x,0,none⟩
structure oJ(sh:Nat->List bH)(D A:List Nat)(c k:Nat):Prop where
 done:Ub sh D A c k
 all:∀c' k' e x,(c'<c\/(c'=c/\k'<k))->c'<256->(sh c')[k']? =some e->e.2=some ⟨x,0,none⟩->x∈A
def MQ(w:World)(v y:Nat)(b:Nat->List bH)(C:List Nat->World->Prop)(D:List Nat)(F:World->Prop)(Q:yB->Prop)
 (N:∀c,c<256->(b c).length<4000000000)
 (O:yH (C [] w))
 (z:yH (∀A W,C A W->yc W v 1 (pV (qA y))/\∀c,c<256->∃a cap,xT W v c a cap (b c)))
 (T:yH (∀(A:List Nat) (c k:Nat) (e:bH),c<256->(b c)[k]? =some e->oJ b D A c k->∃d,e.2=some ⟨d,0,none⟩/\oJ b D (d::A) c (k+1)/\∀W,C A W->yC 78 #[pV (qA d)] W fun e w'=>(∃r:yB,e=rV (sV r))/\C (d::A) w'))
 (Y:yH (∀A W,oJ b D A 256 0->C A W->yC 78 #[pV (qA y)] W fun e w'=>(∃r:yB,e=rV (sV r)/\Q r)/\F w')):
 yC 89 #[pV (qA v)] w fun e w'=>(∃r:yB,e=rV (sV r)/\Q r)/\F w':=by
 have Z:=aa N;have S:yH (oJ b D [] 0 0):=⟨⟨List.nodup_nil,(fun x l=>absurd l Vs),fun x l=>absurd l Vs⟩,fun i k' e x h=>by omega⟩
 have A0:yH (∀A c k,oJ b D A c k->(b c).length<=k->oJ b D A (c+1) 0):=fun A c k h hl=>⟨⟨h.done.1,h.done.2.1,fun x l=>by
  obtain⟨i,k',e,hk,r⟩:=h.done.2.2 x l;exact⟨i,k',e,by omega,r⟩⟩,fun i k' e x h1 h2 h3 h4=>h.all i k' e x (by
  by_cases q:i=c
  ·subst q;have:=(Ux.1 h3).1;omega
  ·omega) h2 h3 h4⟩
 clear N;go_enter func89,ntmps89
 go_wp2
 go_loopg [3] 256 (fun g r wr=>∃c:Nat,g=256 - c/\c<=256/\r=i6 c/\∃A,yH (oJ b D A c 0)/\yH (C A wr))
 case atStart=>exact⟨0,rfl,by omega,rfl,[],S,O⟩
 case round=>
  obtain⟨c,j,hc,rfl,A,B,n⟩:=hrel;have U:=aa j;clear j;by_cases t:c<256
  ·have A3:(c:Int)<256:=by omega
   have A4:=Z.o c t;generalize wr=WR at*;generalize gk=GK at*;go_wp2
   go_loopg [4] (b c).length (fun g r wr=>∃k:Nat,g=(b c).length - k/\k<=(b c).length/\r=i6 k/\∃A,yH (oJ b D A c k)/\yH (C A wr))
   case atStart=>exact⟨0,rfl,by omega,rfl,A,B,n⟩
   case round=>
    obtain⟨k,j,hk,rfl,f,E,o⟩:=hrel;have V:=aa j;clear j;obtain⟨_,s⟩:=z.o f wr o.o;obtain⟨a,cap,m⟩:=s c t;have x0:=m.cell;by_cases M:k<(b c).length
    ·have u:(b c)[k]? =some ((b c)[k]'M):=Uh M;obtain⟨g,rfl,y0,y1⟩:=m.at_ k _ u;obtain⟨d,H,L,K⟩:=T.o f c k _ t u E.o;rw[H] at y1;have p:=aa L;have R:=aa (K wr o.o);have A1:(k:Int)<((b c).length:Int):=by omega
     clear u H L K m s y0;go_wp2_with fail
     refine R.m ?_;rintro e w3 ⟨⟨r,rfl⟩,I⟩;have P:=aa I;clear I x0 y1;go_wp2
     go_roundg ((b c).length - (k+1))
     case measure=>have:=V.o;omega
     case rel=>exact⟨k+1,rfl,by omega,by go_num,_,p,P⟩
    ·obtain rfl:k=(b c).length:=by omega
     have A1:¬((b c).length:Int)<((b c).length:Int):=by omega
     have p:=aa (A0.o f c _ E.o (Ug _));clear m s;go_wp2
     go_roundg (256 - (c+1))
     case measure=>have:=U.o;omega
     case rel=>exact⟨c+1,rfl,by omega,by go_num,f,p,o⟩
  ·obtain rfl:c=256:=by omega
   obtain⟨x1,_⟩:=z.o A wr n.o;have X:=aa (Y.o A wr B.o n.o);go_wp2_with fail
   refine X.m ?_;rintro e w3 ⟨⟨r,rfl,h32⟩,J⟩;have G:yH (Q r/\F w3):=⟨h32,J⟩
   clear h32 J;go_wp2
   go_ret
   exact⟨⟨r,rfl,G.o.1⟩,G.o.2⟩
def oE(m:List (yB×yB))(c:yL):Prop:=∃p∈m,c∈aQ bj (aR m 1) p.1
def KS(W:yL->Prop):∀(t) (d f:Nat),aA t d->bL t->(∀x,aw x->aM t x≠[]->x.length+1<=f/\∀c∈dS f t x d,W c)->gX W t:=by
 intro t;induction t with
 |nil=>intro d f _ _ _;trivial
 |unread h=>intro d f _ h;exact h.elim
 |leaf h p v=>
  intro d f a j g o;let⟨h1,h2⟩:=g p a.aK.2.1 (by rw[lr,Uj rfl];exact a.bB);cases f with
  |zero=>omega
  |succ f=>
   refine h2 _ ?_;show _∈(if(Nd.leaf h p v).isNil=true then [] else dm _ d++_);rw[Ui (by simp[Nd.isNil])];refine UR _ ?_;unfold dm;rw[Uj (.inr o)];exact Uo.2 rfl
 |ext h p k ih=>
  intro d f a j g;have u:=fq a;have y:k.some:=by
   have:=a.bB.2.1;cases k with
   |nil=>exact this.elim
   | _=>trivial
  let⟨x0,r,n⟩:=ri k _ u j y;have s:∀x,aw x->aM k x≠[]->x.length+1+p.length<=f/\∀c∈dS f (.ext h p k) (p++x) d,W c:=fun x q m=>by
   have:=g (p++x) (fun c b=>(UA.1 b).elim (a.aK.2.1 c) (q c)) (by rw[lu];exact m);rw[Uq] at this;exact⟨by omega,this.2⟩
  have A:p.length≠0:=fun e=>a.bB.1 (UH.1 e)
  cases f with
  |zero=>have:=(s x0 r n).1;omega
  |succ f=>
   have w:∀x,dS (f+1) (.ext h p k) (p++x) d=dm (.ext h p k) d++dS f k x (d+p.length):=fun x=>by
    show(if(Nd.ext h p k).isNil=true then [] else dm _ d++dS f (ay (.ext h p k) (p++x) d).1 (ay (.ext h p k) (p++x) d).2.1 (ay (.ext h p k) (p++x) d).2.2.1)=_;rw[Ui (by simp[Nd.isNil])];have e:ay (.ext h p k) (p++x) d=(k,x,d+p.length,true):=by
     show(if aF p (p++x)=p.length then _ else _)=_;rw[Uj (vN p x),List.drop_left]
    rw[e]
   refine⟨fun o=>?_,ih (d+p.length) f u j fun x q m=>?_⟩
   ·refine(s x0 r n).2 _ ?_;rw[w];refine UR _ ?_;unfold dm;rw[Uj (.inr o)];exact Uo.2 rfl
   ·let⟨h1,h2⟩:=s x q m;refine⟨by omega,fun c b=>h2 c ?_⟩;rw[w];exact UP _ b
 |branch h v ks ih=>
  intro d f a j g;let⟨x0,r,n⟩:=ri (.branch h v ks) d a j trivial;have z:1<=f:=by have:=(g x0 r n).1;omega
  cases f with
  |zero=>omega
  |succ f=>
   refine⟨fun o=>?_,fun i hi=>ih i (d+1) f (dA a i hi) (j i hi) fun x q m=>?_⟩
   ·refine(g x0 r n).2 _ ?_;show _∈(if(Nd.branch h v ks).isNil=true then [] else dm _ d++_);rw[Ui (by simp[Nd.isNil])];refine UR _ ?_;unfold dm;rw[Uj (.inr o)];exact Uo.2 rfl
   ·have b:(UInt8.ofNat i).toNat=i:=UInt8.toNat_ofNat_of_lt' (by show i<256;omega);let⟨h1,h2⟩:=g (UInt8.ofNat i::x) (fun c l=>by
     rcases UC.1 l with rfl|l
     ·rw[b];exact hi
     ·exact q c l) (by show aM (ks (UInt8.ofNat i).toNat) x≠[];rw[b];exact m)
    rw[UJ] at h1;refine⟨by omega,fun c l=>h2 c ?_⟩;show c∈(if(Nd.branch h v ks).isNil=true then [] else dm _ d++dS f (ks (UInt8.ofNat i).toNat) x (d+1));rw[Ui (by simp[Nd.isNil]),b];exact UP _ l
def Ln{m}(h:cT m):gX (oE m) (aR m 1)/\((aR m 1).read->oE m (aR m 1).code):=by
 have f:=jV h 1;have g:=xJ m 1;have i:∀x,aw x->aM (aR m 1) x≠[]->∃p∈m,x=aD p.1:=fun x d b=>by
  rw[f.find x d] at b;refine Vn fun n=>b (wV fun p a e=>n ⟨p,a,e.symm⟩)
 have j:∀p∈m,aQ bj (aR m 1) p.1=dS 81 (aR m 1) (aD p.1) 0:=fun p a=>p8 g (h.size p a).1
 refine⟨KS _ _ 0 81 f.ok g fun x d b=>?_,fun k=>?_⟩
 ·obtain⟨p,a,rfl⟩:=i x d b;refine⟨by rw[g6];have:=(h.size p a).1;omega,fun c l=>⟨p,a,?_⟩⟩;rw[j p a];exact l
 ·have hs:(aR m 1).some:=by cases hb:aR m 1<;>rw[hb] at k<;>first|exact k.elim|trivial
  let⟨x,d,b⟩:=ri _ 0 f.ok g hs;obtain⟨p,a,rfl⟩:=i x d b;refine⟨p,a,?_⟩;rw[j p a];show _∈(if(aR m 1).isNil=true then [] else dm _ 0++_);rw[Ui (by rw[(gM _).2 hs];simp)];refine UR _ ?_;unfold dm;rw[Uj (.inl rfl)];exact Uo.2 rfl
def gX.both{Q R}:∀{t},gX Q t->gX R t->gX (fun c=>Q c/\R c) t:=by
 intro t;induction t with
 |nil=>intro _ _;trivial
 |unread _=>intro _ _;trivial
 |leaf h p v=>exact fun h1 h2 a=>⟨h1 a,h2 a⟩
 |ext h p k ih=>exact fun h1 h2=>⟨fun a=>⟨h1.1 a,h2.1 a⟩,ih h1.2 h2.2⟩
 |branch h v ks ih=>exact fun h1 h2=>⟨fun a=>⟨h1.1 a,h2.1 a⟩,fun i hi=>ih i (h1.2 i hi) (h2.2 i hi)⟩
def EV{Q}:∀{t F},aO t->cW t->Part Q t F->t.hash=F.hash->gX (fun c=>c∈cf t false\/Q c) F:=by
 have j:∀{n F:Nd},aO n->n.read->n.hash=fX n.code->Part Q n F->n.hash=F.hash->F.hash≠[]->F.code∈iO n.code false:=fun {n F} d hr hh b g e=>by
  have h32:32<=n.code.length:=by rw[<-g,hh] at e;exact(Hv e).2
  rw[<-b.code d hr];unfold iO;rw[Uj (.inr h32)];exact Uo.2 rfl
 intro t;induction t with
 |nil=>intro F _ _ h _;rw[show F=.nil from h];trivial
 |unread x=>intro F _ _ h _;exact h.2.2.2.mono fun c a=>.inr a
 |leaf h p v=>
  intro F d f b g;obtain⟨l,rfl⟩:=id b;exact fun e=>.inl (j d trivial f b g e)
 |ext h p k ih=>
  intro F d f b g;obtain⟨l,m,rfl,h1,h2⟩:=id b;refine⟨fun e=>.inl (UP _ (j d trivial f.1 b g e)),(ih d.2.2.2.2 f.2 h1 h2).mono fun c a=>?_⟩;rcases a with a|a
  ·exact .inl (UR _ a)
  ·exact .inr a
 |branch h v ks ih=>
  intro F d f b g;obtain⟨l,o,rfl,h1⟩:=id b;refine⟨fun e=>.inl (UP _ (j d trivial f.1 b g e)),fun i hi=>(ih i (d.2.2 i hi) (f.2 i hi) (h1 i hi).1 (h1 i hi).2).mono fun c a=>?_⟩;rcases a with a|a
  ·exact .inl (UR _ (List.mem_flatMap.2 ⟨i,Vq.2 hi,a⟩))
  ·exact .inr a
def Oq{Q t F}(e:aO t)(j:bK t)(d:Part Q t F):gX (fun c=>c∈cf t true\/Q c) F/\(F.read->F.code∈cf t true\/Q F.code):=by
 have f:t.read->F.code∈iO t.code true:=fun l=>by
  rw[<-d.code e l];unfold iO;rw[Uj (.inl rfl)];exact Uo.2 rfl
 cases t with
 |nil=>rw[show F=.nil from d];exact⟨trivial,fun h=>h.elim⟩
 |unread x=>exact⟨d.2.2.2.mono fun c a=>.inr a,fun _=>.inr d.2.2.1⟩
 |leaf h p v=>
  have b:=f trivial;obtain⟨g,rfl⟩:=id d;exact⟨fun _=>.inl b,fun _=>.inl b⟩
 |ext h p k=>
  have b:=f trivial;obtain⟨g,m,rfl,h1,h2⟩:=id d;refine⟨⟨fun _=>.inl (UP _ b),(EV e.2.2.2.2 j h1 h2).mono fun c a=>?_⟩,fun _=>.inl (UP _ b)⟩;rcases a with a|a
  ·exact .inl (UR _ a)
  ·exact .inr a
 |branch h v ks=>
  have b:=f trivial;obtain⟨g,n,rfl,h1⟩:=id d;refine⟨⟨fun _=>.inl (UP _ b),fun i hi=>(EV (e.2.2 i hi) (j i hi) (h1 i hi).1 (h1 i hi).2).mono fun c a=>?_⟩,fun _=>.inl (UP _ b)⟩;rcases a with a|a
  ·exact .inl (UR _ (List.mem_flatMap.2 ⟨i,Vq.2 hi,a⟩))
  ·exact .inr a
def LD{Q R F c}(d:aO F)(e:bL F)(a:Part Q F c)(j:gX R F)(m:F.read->R F.code):gX R c:=by
 have f:F.read->R c.code:=fun l=>by rw[<-a.code d l];exact m l
 cases F with
 |nil=>rw[show c=.nil from a];trivial
 |unread _=>exact e.elim
 |leaf h p v=>
  have b:=f trivial;obtain⟨g,rfl⟩:=id a;exact fun _=>b
 |ext h p k=>
  have b:=f trivial;obtain⟨g,n,rfl,h1,h2⟩:=id a;exact⟨fun _=>b,h1.texts d.2.2.2.2 e h2 j.2⟩
 |branch h v ks=>
  have b:=f trivial;obtain⟨g,o,rfl,h1⟩:=id a;exact⟨fun _=>b,fun i hi=>(h1 i hi).1.texts (d.2.2 i hi) (e i hi) (h1 i hi).2 (j.2 i hi)⟩
def Fq{G t u}(h:eI G t=false)(c:G (ag t)=some u)(b:ag u=ag t):u=t:=by
 have a:(!(u.toList == t.toList) && ((ag u).toList == (ag t).toList))=false:=by
  unfold eI at h;rw[c] at h;exact h
 rw[b] at a;simp only[dV,decide_true,Bool.and_true] at a;simpa using a
def Bv{l n}(h:bY l n=false)(i j:Nat)(x y)(hi:i<n)(c:j<i)(f:l[i]? =some x)(g:l[j]? =some y)(b:ag x=ag y):x=y:=by
 induction n with
 |zero=>exact absurd hi (Nat.not_lt_zero _)
 |succ n ih=>
  have a:(bY l n || (match l[n]? with|some x=>gE l x n|none=>false))=false:=h;rw[Bool.or_eq_false_iff] at a;by_cases e:i=n
  ·have h2:=a.2;rw[<-e,f] at h2;have h3:((l.take i).any fun y=>((ag x).toList == (ag y).toList) && !(x.toList == y.toList))=false:=h2;rw[List.any_eq_false] at h3;have d:y∈l.take i:=by
    refine UQ (i:=j) ?_;rw[Vv,Uj c];exact g
   have h4:=h3 y d;rw[b] at h4;simp only[dV,decide_true,Bool.true_and] at h4;simpa using h4
  ·exact ih a.1 (by omega)
def SF{F:Nd}(b:F.read):F.code≠[128]:=by
 have key:∀a:yL,gZ a≠[128]:=fun a e=>by
  unfold gZ cV at e;split at e
  ·next hb=>
   injection e with e1 e2;have:(UInt8.ofNat (192+a.length)).toNat=128:=by rw[e1];rfl
   rw[UInt8.toNat_ofNat_of_lt' (by show 192+a.length<256;omega)] at this;omega
  ·have:=congrArg List.length e;simp only[Uq,UJ,List.length_nil] at this;omega
 cases F with
 |nil=>exact b.elim
 |unread _=>exact b.elim
 |leaf h p v=>exact fun e=>key _ (by rw[<-kI 5];exact e)
 |ext h p k=>exact fun e=>key _ (by rw[<-kI 5];exact e)
 |branch h v ks=>exact fun e=>key _ (by rw[<-kI 5];exact e)
def El{F}(b:aO F)(a:F.read):bQ F=fe F.code:=by
 have hs:F.some:=by cases F<;>first|exact a.elim|trivial
 rw[nQ hs];by_cases e:F.hash=[]
 ·rw[Uj e]
 ·rw[Ui e];rcases b.Hu a with h|h
  ·unfold fX at h;split at h
   ·exact h
   ·exact absurd h e
  ·exact h
def dI.laid{a L B t m}(h:dI a B t m)(d:∀c,B c->eI (ah (aT a L)) (ae c)=false):dI (aT a L) B t m:=by
 let⟨h0,F,h1,h2⟩:=h;refine⟨h0,F,h1,h2.mono fun c b=>⟨b.1,?_⟩⟩;rcases wT L a (ag (ae c)) with⟨e,_⟩|⟨f,_,e1,e2⟩
 ·rw[e];exact b.2
 ·rw[Fq (d c b.1) e1 e2] at e1;exact e1
def dI.again{a L B d t m}(h:dI a B t m)(o:aA t 0)(p:bK t)(r:∀c∈cf t true,c∈L)(n:∀c,B c->eI (ah (aT a L)) (ae c)=false)(k:∀c,oE m c->d c/\eI (ah (aT a L)) (ae c)=false)(q:m≠[]->cY m≠ae bM):dI (aT a L) d (bP (cY m).data.toList) m:=by
 let⟨h0,F,h1,h2⟩:=h.laid n;have b:=jV h0 1;let⟨w1,w2⟩:=Ln h0;let⟨r1,r2⟩:=Oq o.aK p h2;have g:Part (fun _=>True) F (aR m 1):=h1.one b _;have r3:=LD h1.ok.aK h1.all g r1 r2;have l:∀c,(c∈cf t true\/QB (aT a L) B c)/\oE m c->QB (aT a L) d c:=fun c f=>by
  refine⟨(k c f.2).1,?_⟩;rcases f.1 with h|h
  ·rcases wT L a (ag (ae c)) with⟨_,e⟩|⟨u,_,e1,e2⟩
   ·exact absurd rfl (e c (r c h))
   ·rw[Fq (k c f.2).2 e1 e2] at e1;exact e1
  ·exact h.2
 refine⟨h0,aR m 1,b,?_⟩;unfold cY;rw[nC];by_cases hs:(aR m 1).some
 ·have i:=b.all.read hs;have j:=h1.all.read (g.same.2 hs);have s:bQ (aR m 1)≠bM:=fun e=>q (fun e0=>by rw[e0] at hs;exact hs) (by unfold cY;rw[e])
  unfold bP;rw[Ui s];exact⟨i,El b.ok.aK i,l _ ⟨by have:=r2 j;rw[g.code h1.ok.aK j] at this;exact this,w2 i⟩,(r3.both w1).mono l⟩
 ·have e1:aR m 1=.nil:=by cases hb:aR m 1<;>rw[hb] at hs<;>first|rfl|exact absurd trivial hs
  rw[e1];unfold bP;rw[Uj (show bQ .nil=bM from rfl)];rfl
def sO(k:Kn)(a:List (yB×yB))(b:Nat)(X:Gh)(L:List yL):Prop:=k.ok->∀tb,(tb=b\/∃h,X.o h=some tb)->∃t,aA t 0/\bK t/\dI a k.B t (X.g tb)/\∀c∈cf t true,c∈L
def kO.store{k k':Kn}{a X g D e f L}(h:kO k a X g D e f)(i:k'.B=k.B)(b:k'.ok->k.ok/\∀c,k.B c->eI (ah (aT a L)) (ae c)=false):kO k' (aT a L) X g D e f:=
 ⟨h.fB,h.o,h.tw,fun d l j=>by rw[i];exact(h.iG (b d).1 l j).laid (b d).2⟩
def SX.Sx{l w v sb f D N P a k X r}(h:SX l w v sb f D N P a k (fun Y s=>Y=X/\s=r))(Z:N<4000000000)(hn:a.length+N<4000000000000):
 yC 89 #[pV (qA v)] w fun e w'=>(∃s:yB,e=rV (sV s)/\s=r)/\∃l' G N' L,Mv (fun x=>x=pr sb 0) l l' w w'/\(∀k':Kn,k'.B=k.B->(k'.ok->k.ok/\∀c,k.B c->eI (ah (aT a L)) (ae c)=false)->SX l' w' v sb f D N' G (aT a L) k' (fun Y s=>Y=X/\s=r))/\(aT a L).length+N'<=a.length+N/\(∀d,gh (aT a L) d=true->gh a d=true)/\sO k a f X L:=by
 obtain⟨Q,H,p,K,X,i,A6,I,rfl,rfl⟩:=h.st;have O:gB a p D<4000000000000:=by unfold gB;omega
 refine MQ w v f H (Cm l w v sb f D Q H p K a) D (fun w'=>∃l' G N' L,Mv (fun x=>x=pr sb 0) l l' w w'/\(∀k':Kn,k'.B=k.B->(k'.ok->k.ok/\∀c,k.B c->eI (ah (aT a L)) (ae c)=false)->SX l' w' v sb f D N' G (aT a L) k' (fun Y s=>Y=X/\s=ae (bQ (p f))))/\(aT a L).length+N'<=a.length+N/\(∀d,gh (aT a L) d=true->gh a d=true)/\sO k a f X L) (fun s=>s=ae (bQ (p f))) (fun c E=>Nat.lt_of_le_of_lt (Ut (i.sd a c E) A6) Z) ⟨l,P,a,[],rfl,(fun x g=>absurd g Vs),Mv.refl _ _ _,i,h.jw,h.ls,h.bz,h.l3,Ug _,fun _ h=>h⟩ (fun A W C=>C.cells) ?_ ?_
 ·intro A c k e E u n;let⟨b,h1,h2⟩:=i.ie c k e E u;have A4:b∉A:=fun hm=>by
   let⟨t,k',z,A3,A0,A1,h3⟩:=n.done.2.2 b hm;have:=i.gI t k' c k z e A0 E A1 u (by rw[h3,h1]);omega
  have S:oJ H D (b::A) c (k+1):=⟨⟨List.nodup_cons.2 ⟨A4,n.done.1⟩,(fun x g=>by rcases UC.1 g with rfl|g;exact h2;exact n.done.2.1 x g),fun x g=>by
   rcases UC.1 g with rfl|g
   ·exact⟨c,k,e,.inr ⟨rfl,by omega⟩,E,u,h1⟩
   ·let⟨t,k',z,A3,r⟩:=n.done.2.2 x g;exact⟨t,k',z,by omega,r⟩⟩,fun t k' z x q1 q2 q3 q4=>by
   by_cases q:t=c/\k'=k
   ·obtain⟨rfl,rfl⟩:=q;rw[u] at q3;cases q3
    rw[h1] at q4;cases q4
    exact Uk ..
   ·exact Ul _ (n.all t k' z x (by omega) q2 q3 q4)⟩
  exact⟨b,h1,S,fun W C=>(C.one h.ne h2 O).mono fun _ _ ⟨⟨r,h1,_⟩,h2⟩=>⟨⟨r,h1⟩,h2⟩⟩
 ·intro A W n C;refine(C.one h.ne i.dJ O).mono ?_;rintro e w' ⟨u,l',G,A9,L,rfl,V,m,U,hs,ls,T,l3,A2,A8⟩;refine⟨u,l',G,dy (gg (aT a L) p) D,L,m,fun k' R A5=>⟨⟨Q,H,p,K,X,U,Ug _,I.store R A5,rfl,rfl⟩,hs,ls,T,l3,h.ne⟩,?_,A8,fun ok b A7=>?_⟩
  ·unfold gB at A2;omega
  ·have J:b∈D/\b∈f::A:=by
    rcases A7 with rfl|⟨y,F⟩
    ·exact⟨i.dJ,Uk ..⟩
    ·rw[I.o] at F;unfold nU at F;split at F
     ·next h0=>
      let⟨j,e0,a1,_,a3⟩:=zG F;let⟨t0,b1,b2⟩:=i.ie _ j e0 (y[0]'h0).toNat_lt a1;unfold mg at a3;rw[b1] at a3;have a3:=a3;subst a3;exact⟨b2,Ul _ (n.all _ j e0 _ (.inl (y[0]'h0).toNat_lt) (y[0]'h0).toNat_lt a1 b1)⟩
     ·cases F
   have M:=i.gy b J.1;exact⟨p b,M.tr.ok,M.loose,I.iG ok b J.1,V b J.2⟩
def SX.store{l l' w w' g sb j D N C i a L}{k k':Kn}{P}(h:SX l w g sb j D N C a k P)(m:Mv (fun x=>x=pr sb 0) l l' w w')(hs:fv w' sb i (aT a L))(y:∀x,cy sb i x->l' x=pr sb 0)(v:∀d,gh (aT a L) d=true->gh a d=true)(o:k'.B=k.B)(t:k'.ok->k.ok/\∀c,k.B c->eI (ah (aT a L)) (ae c)=false):SX l' w' g sb j D N i (aT a L) k' P:=by
 let⟨E,z,A,n,X,q,u,p,r⟩:=h.st;have s:∀b,pr g b≠pr sb 0:=fun b e=>h.ne (fS e).1
 have h0:∀k,k<3->l k≠pr sb 0:=fun k f e=>by rw[h.l3 k f] at e;have:=iu sb 0;omega
 exact⟨⟨E,z,A,n,X,q.move m s,Ut (tv (fun x=>Nat.succ_le_succ (uL v _)) D) u,p.store o t,r⟩,hs,y,h.bz.mv m h0,fun k f=>(m.bt k (by have:=h.bz.size;omega)).trans (h.l3 k f),h.ne⟩
structure aH where
 addr:yB
 n:Int
 aI:yB
 code:yB
 sa:Option Addr
 sc:Nat
 az:List (yB×yB)
def aH.sv(h:aH):Value:=lV h.sa h.az.length h.sc
def iR(h:aH):Value:=gV #[sV h.addr,iV .i64 h.n,sV h.aI,sV h.code,h.sv]
def g9(hs:List aH):List Value:=hs.flatMap fun h=>[sV h.addr,iV .i64 h.n,sV h.aI,sV h.code,h.sv]
structure jK(w:World)(h:aH):Prop where
 addr:h.addr.size<=1073741824
 n:Rg h.n
 aI:h.aI.size<=1073741824
 code:h.code.size<=1073741824
 at_:eH w h.sv h.az
 len:h.az.length<4000000000
 small:∀p∈h.az,p.1.size<=1073741824/\p.2.size<=1073741824
def gw(w:World)(v:Value)(hs:List aH):Prop:=w.ownsRow 3 148 5 v hs.length (g9 hs)/\∀h∈hs,jK w h
def jK.below{w w' h}(k:jK w h)(a:yW w w'):jK w' h:=⟨k.addr,k.n,k.aI,k.code,k.at_.below a,k.len,k.small⟩
def gw.below{w w' v hs}(h:gw w v hs)(a:yW w w'):gw w' v hs:=⟨cM h.1 fun g b=>a.block g (h.1.lt g b).2,fun x c=>(h.2 x c).below a⟩
def Hr(a b:List aH):g9 (a++b)=g9 a++g9 b:=by simp[g9]
def Hq:∀(hs:List aH) (k:Nat) (h:aH),hs[k]? =some h->(g9 hs)[k*5]? =some (sV h.addr)/\(g9 hs)[k*5+1]? =some (i6 h.n)/\(g9 hs)[k*5+2]? =some (sV h.aI)/\(g9 hs)[k*5+3]? =some (sV h.code)/\(g9 hs)[k*5+4]? =some h.sv
 | [],k,h,e=>by simp at e
 |q::t,0,h,e=>by simp at e;subst e;exact⟨rfl,rfl,rfl,rfl,rfl⟩
 |q::t,k+1,h,e=>by
  have:=Hq t k h (by simpa using e)
  refine⟨?_,?_,?_,?_,?_⟩
  ·rw[show(k+1)*5=k*5+5 by omega];exact this.1
  ·rw[show(k+1)*5+1=k*5+1+5 by omega];exact this.2.1
  ·rw[show(k+1)*5+2=k*5+2+5 by omega];exact this.2.2.1
  ·rw[show(k+1)*5+3=k*5+3+5 by omega];exact this.2.2.2.1
  ·rw[show(k+1)*5+4=k*5+4+5 by omega];exact this.2.2.2.2
def gw.form{w v hs}(h:gw w v hs):∃a cap,v=lV a hs.length cap:=by
 let⟨a,cap,e,_⟩:=dM h.1;exact⟨a,cap,e⟩
def gw.at_{w a n cap hs}(h:gw w (lV a n cap) hs)(k:Nat)(x:aH)(b:hs[k]? =some x):
 ∃g,a=some ⟨g,0,none⟩/\g<w.heap.size/\yc w g (k*5) (sV x.addr)/\yc w g (k*5+1) (i6 x.n)/\yc w g (k*5+2) (sV x.aI)/\yc w g (k*5+3) (sV x.code)/\yc w g (k*5+4) x.sv:=by
 let⟨a',c,e,_,_,f⟩:=dM h.1;cases e
 have d:=(Ux.1 b).1;rcases f with⟨_,h0,_⟩|⟨g,rfl⟩
 ·omega
 ·let⟨p0,p1,p2,p3,p4⟩:=Hq hs k x b;exact⟨g,rfl,(h.1.lt g rfl).2,fc h.1 rfl _ _ p0,fc h.1 rfl _ _ p1,fc h.1 rfl _ _ p2,fc h.1 rfl _ _ p3,fc h.1 rfl _ _ p4⟩
def kQ(e:Ending):Prop:=∃b:Bool,e=rV (bV b)
def Gr(t:yB)(g:t.size<=maxLen)(w):yC 97 #[sV t] w fun e w'=>e=rV (bV (bF t))/\w'=w:=by
 have b:yH (∀h:0<t.size,bF t=(decide (t.size<=32) && decide ((t[0]'h).toNat≠0))):=fun h=>by unfold bF;rw[dif_pos h]
 have c:yH (¬0<t.size->bF t=true):=fun h=>by unfold bF;rw[dif_neg h]
 generalize bF t=B at*;unfold maxLen at g;by_cases h32:t.size<=32
 ·have d:(t.size:Int)<=32:=by omega
  by_cases h0:0<t.size
  ·have f:t.toList.isEmpty=false:=by rw[iv];omega
   have i:(0:Int)<(t.size:Int):=by omega
   have a:yH (B=(((t[0]'h0).toNat:Int) != 0)):=by
    rw[b.o h0,Uw h32,Bool.true_and];by_cases e:(t[0]'h0).toNat=0
    ·rw[Uv (by simpa using e),e];rfl
    ·rw[Uw e];exact(show(((t[0]'h0).toNat:Int) != 0)=true by simpa using e).symm
   cases hz:(((t[0]'h0).toNat:Int) != 0)<;>rw[hz] at a<;>
    (go_enter func97,ntmps97;go_wp2_with fail;go_ret;exact⟨by rw[a.o];rfl,rfl⟩)
  ·have f:t.toList.isEmpty=true:=by rw[g7];omega
   have a:=aa (c.o h0);go_enter func97,ntmps97
   go_wp2
   go_ret
   exact⟨by rw[a.o];rfl,rfl⟩
 ·have d:¬(t.size:Int)<=32:=by omega
  have a:yH (B=false):=by rw[b.o (by omega),Uv h32];rfl
  go_enter func97,ntmps97
  go_wp2
  go_ret
  exact⟨by rw[a.o];rfl,rfl⟩
def jt(W:World)(n:Nat)(t:TypeId)(x0 x1 x2 x3 x4:Value):Prop:=W.heap[n]? =some (.cells #[x0,x1,x2,x3,x4] t (0,0))
def jt.new(w:World)(t x0 x1 x2 x3 x4):jt (w.alloc (.cells #[x0,x1,x2,x3,x4] t)) w.heap.size t x0 x1 x2 x3 x4:=UG w _
def jt.below{w W n m t x0 x1 x2 x3 x4}(h:jt w n t x0 x1 x2 x3 x4)(a:Below m w W)(b:n<m):jt W n t x0 x1 x2 x3 x4:=(a.block n b).trans h
def jt.cells{W n t x0 x1 x2 x3 x4}(h:jt W n t x0 x1 x2 x3 x4):(W.cell? ⟨n,0,none⟩=some x0/\W.cell? ⟨n,1,none⟩=some x1/\W.cell? ⟨n,2,none⟩=some x2/\W.cell? ⟨n,3,none⟩=some x3/\W.cell? ⟨n,4,none⟩=some x4)/\W.frozen? ⟨n,0,none⟩=false/\W.frozen? ⟨n,1,none⟩=false/\W.frozen? ⟨n,2,none⟩=false/\W.frozen? ⟨n,3,none⟩=false/\W.frozen? ⟨n,4,none⟩=false:=by
 refine⟨⟨?_,?_,?_,?_,?_⟩,US W n 0 _ _ h,US W n 1 _ _ h,US W n 2 _ _ h,US W n 3 _ _ h,US W n 4 _ _ h⟩
 ·rw[Ur W n 0 _ _ _ h];rfl
 ·rw[Ur W n 1 _ _ _ h];rfl
 ·rw[Ur W n 2 _ _ _ h];rfl
 ·rw[Ur W n 3 _ _ _ h];rfl
 ·rw[Ur W n 4 _ _ _ h];rfl
def jt.lt{W n t x0 x1 x2 x3 x4}(h:jt W n t x0 x1 x2 x3 x4):n<W.heap.size:=(Um.1 h).1
def JA{b n w w1}(h:Below b w w1)(a:b<=n)(x0 x1 x2 x3 x4):Below b w (((((w1.setCell ⟨n,0,none⟩ x0).setCell ⟨n,1,none⟩ x1).setCell ⟨n,2,none⟩ x2).setCell ⟨n,3,none⟩ x3).setCell ⟨n,4,none⟩ x4):=
 ((((h.setCell a _).setCell a _).setCell a _).setCell a _).setCell a _
def dH:List aH->yB->Option aH
 | [],_=>none
 |h::t,a=>if h.addr=a then some h else dH t a
def lz(a:yB):aH:=⟨a,0,⟨#[]⟩,cZ,none,0,[]⟩
def bT(hs:List aH)(a:yB):aH×Bool:=match dH hs a with
 |some h=>(h,true)
 |none=>(lz a,false)
def RH(hs:List aH)(a)(k:Nat)(h:aH)(b:hs[k]? =some h)(d:h.addr≠a):dH (hs.drop k) a=dH (hs.drop (k+1)) a:=by
 have c:=(Ux.1 b).1;rw[UZ c,(Ux.1 b).2];conv=>lhs;unfold dH
 rw[Ui d]
def RI(hs:List aH)(a)(k:Nat)(h:aH)(b:hs[k]? =some h)(c:h.addr=a):dH (hs.drop k) a=some h:=by
 have d:=(Ux.1 b).1;rw[UZ d,(Ux.1 b).2];unfold dH;rw[Uj c]
def GH(w v)(hs:List aH)(addr:yB)(H:gw w v hs)(X:hs.length<4000000000)(T:aB w):
 yC 86 #[v,sV addr] w fun e w'=>e=rV (tV #[iR (bT hs addr).1,bV (bT hs addr).2])/\yW w w':=by
 obtain⟨a,cap,rfl⟩:=H.form;obtain⟨b,i⟩:=yX (w.alloc (.cells #[sV ⟨#[]⟩,i6 0,sV ⟨#[]⟩,sV ⟨#[]⟩,lV none 0 0] 148))
 have f:yH (yW w b):=by rw[i];exact(Un _ _).alloc (Ug _) _
 have l:yH (jt b w.heap.size 148 (sV ⟨#[]⟩) (i6 0) (sV ⟨#[]⟩) (sV ⟨#[]⟩) (lV none 0 0)):=by rw[i];exact jt.new _ _ _ _ _ _ _
 have D:=aa (H.below f.o);have E:yH (∀W,yW w W->yC 124 #[] W fun e w'=>e=rV (sV cZ)/\yW W w'):=fun W I=>Aq W (T.below I)
 have u:yH (∀k (_:k<hs.length),∃x g,hs[k]? =some x/\a=some ⟨g,0,none⟩/\yc b g (k*5) (sV x.addr)/\yc b g (k*5+1) (i6 x.n)/\yc b g (k*5+2) (sV x.aI)/\yc b g (k*5+3) (sV x.code)/\yc b g (k*5+4) x.sv):=fun k t=>by
  have c:hs[k]? =some hs[k]:=Uh t;obtain⟨g,e,_,r⟩:=D.o.at_ k _ c;exact⟨_,g,c,e,r⟩
 have A:yH (dH hs addr=dH (hs.drop 0) addr):=rfl;have G:yH (∀x,dH hs addr=some x->bT hs addr=(x,true)):=fun x e=>by unfold bT;rw[e]
 have F:yH (dH hs addr=none->bT hs addr=(lz addr,false)):=fun e=>by unfold bT;rw[e]
 have z:yH (iR (lz addr)=gV #[sV addr,i6 0,sV ⟨#[]⟩,sV cZ,lV none 0 0]):=rfl;clear H T;generalize hN:hs.length=N at*;generalize cZ=NC at*;go_enter func86,ntmps86
 go_wp2
 rw[<-i];clear i;go_loopg [6] N (fun g r wr=>∃k:Nat,g=N - k/\k<=N/\r=i6 k/\yH (dH hs addr=dH (hs.drop k) addr)/\wr=b)
 case atStart=>exact⟨0,rfl,by omega,rfl,A,rfl⟩
 case round=>
  obtain⟨k,s,t,rfl,h,L⟩:=hrel;subst L;have C:=aa s;clear s;by_cases K:k<N
  ·obtain⟨x,g,c,rfl,c0,c1,c2,c3,c4⟩:=u.o k K;have J:(k:Int)<(N:Int):=by omega
   by_cases d:x.addr=addr
   ·have q:dH hs addr=some x:=by rw[h.o,RI hs addr k x c d]
    have j:=aa (G.o x q);have o:(x.addr.toList == addr.toList)=true:=by rw[dV];exact Uw d
    obtain⟨⟨k0,k1,k2,k3,k4⟩,f0,f1,f2,f3,f4⟩:=l.o.cells;obtain⟨M,R,O,P,S,U,Q⟩:=x;simp only[aH.sv] at c0 c1 c2 c3 c4 o;clear c d q h;have V:w.heap.size<wr.heap.size:=UE wr _ k0;go_wp2
    exact UB (v:=tV #[gV #[sV M,i6 R,sV O,sV P,lV S Q.length U],bV true]) (by simp[results,results86,go_sem,k0,k1,k2,k3,k4]) rfl ⟨by rw[j.o];rfl,JA f.o (Ug _) _ _ _ _ _⟩
   ·have B:yH (dH hs addr=dH (hs.drop (k+1)) addr):=by rw[h.o];exact RH hs addr k x c d
    have o:(x.addr.toList == addr.toList)=false:=by rw[dV];exact Uv d
    clear c d c1 c2 c3 c4;go_wp2
    go_roundg (N - (k+1))
    case measure=>have:=C.o;omega
    case rel=>exact⟨k+1,rfl,by omega,by go_num,B,rfl⟩
  ·obtain rfl:k=N:=by omega
   have J:¬(k:Int)<(k:Int):=by omega
   have p:dH hs addr=none:=by rw[h.o,<-hN,List.drop_length];rfl
   have j:=aa (F.o p);clear p;go_wp2_with fail
   refine(E.o _ f.o).mono ?_;rintro e w2 ⟨rfl,m⟩;have y:=aa (f.o.trans (m.mono f.o.size));obtain⟨⟨k0,k1,k2,k3,k4⟩,f0,f1,f2,f3,f4⟩:=(l.o.below m l.o.lt).cells;clear m;go_wp2
   exact UB (v:=tV #[gV #[sV addr,i6 0,sV ⟨#[]⟩,sV NC,lV none 0 0],bV false]) (by simp[results,results86,go_sem,k0,k1,k2,k3,k4]) rfl ⟨by rw[j.o,z.o],JA y.o (Ug _) _ _ _ _ _⟩
def Jl{l}(h:bY l l.length=false){x y}(b:x∈l)(c:y∈l)(e:ag x=ag y):x=y:=by
 let⟨i,hi⟩:=List.getElem?_of_mem b;let⟨j,a⟩:=List.getElem?_of_mem c;have d:=(Ux.1 hi).1;have f:=(Ux.1 a).1;rcases Nat.lt_trichotomy i j with q|q|q
 ·exact(Bv h j i y x f q a hi e.symm).symm
 ·subst q;rw[hi] at a;exact Option.some.inj a
 ·exact Bv h i j x y d q hi a e
def iX(a:List yB):Prop:=∀x∈a,∀y∈a,ag x=ag y->x=y
def ct(a:List (yB×yB)):List (yB×yB):=a.map fun p=>(ag p.1,fg p.2)
def dU(h:aH):Ac:=⟨h.n.toNat,h.aI,h.code,ct h.az⟩
def bG:List aH->Mp
 | [],_=>none
 |h::t,y=>if ag h.addr=y then some (dU h) else bG t y
abbrev pP(h:aH):Prop:=h.n=0/\h.aI.size=0/\h.code=cZ/\h.az.length=0
structure iz(seen:List yB)(h:aH):Prop where
 len:h.addr.size=20
 addr:h.addr∈seen
 n:0<=h.n/\h.n<9223372036854775808
 aI:bF h.aI=true
 code:h.code.size=32
 once:(h.az.map (·.1)).Nodup
 slot:∀p∈h.az,p.1.size=32/\p.1∈seen/\bF p.2=true/\p.2.size≠0
 full:cY (ct h.az)=ae bM->h.az=[]
structure iM(seen:List yB)(hs:List aH):Prop where
 each:∀h∈hs,iz seen h/\¬pP h
 once:(hs.map (·.addr)).Nodup
def iz.more{b c h}(k:iz b h)(hs:∀x∈b,x∈c):iz c h:=⟨k.len,hs _ k.addr,k.n,k.aI,k.code,k.once,fun p a=>⟨(k.slot p a).1,hs _ (k.slot p a).2.1,(k.slot p a).2.2⟩,k.full⟩
def iM.more{b c hs}(k:iM b hs)(h:∀x∈b,x∈c):iM c hs:=⟨fun x a=>⟨(k.each x a).1.more h,(k.each x a).2⟩,k.once⟩
def DL{d}(hi:iX d):∀{b:List (yB×yB)},(b.map (·.1)).Nodup->(∀p∈b,p.1∈d)->((ct b).map (·.1)).Nodup
 | [],_,_=>List.nodup_nil
 |p::t,h,hs=>by
  let⟨h1,h2⟩:=List.nodup_cons.1 h
  refine List.nodup_cons.2 ⟨fun f=>?_,DL hi h2 fun q a=>hs q (Ul _ a)⟩
  let⟨q,a,e⟩:=UO.1 f
  obtain⟨r,c,rfl⟩:=UO.1 a
  have:=hi _ (hs r (Ul _ c)) _ (hs p (Uk ..)) e
  exact h1 (UO.2 ⟨r,c,this⟩)
def DM{c}(hi:iX c){b:List (yB×yB)}(e:(b.map (·.1)).Nodup)(slot:∀p∈b,p.1.size=32/\p.1∈c/\bF p.2=true/\p.2.size≠0):cT (ct b):=by
 refine⟨DL hi e fun p a=>(slot p a).2.1,fun p a=>?_⟩;obtain⟨q,d,rfl⟩:=UO.1 a;let⟨c1,c2,_⟩:=qG (mH (slot q d).2.2.1);exact⟨by show(ag q.1).size<=40;rw[show(ag q.1).size=32 from dz _];decide,c1,c2⟩
def iz.map{a}(hi:iX a){h}(k:iz a h):cT (ct h.az):=DM hi k.once k.slot
def iz.fit{a}(hi:iX a){h}(k:iz a h):nH (eo (dU h)):=⟨by show h.n.toNat<_;have:=k.n;omega,k.aI,vT (k.map hi),k.code⟩
def iz.none{b h}(k:iz b h):mI (eo (dU h))=true↔pP h:=by
 rw[rW];constructor
 ·intro e;injection e with e1 e2 e3 e4;have c:=k.n.1;have e1:h.n.toNat=0:=e1;have e2:h.aI=⟨#[]⟩:=e2;exact⟨by omega,by rw[e2];rfl,e4,by rw[k.full e3];rfl⟩
 ·rintro ⟨h1,h2,h3,h4⟩;have hs:h.az=[]:=UH.1 h4;have a:h.aI=⟨#[]⟩:=by
   have:h.aI.data.toList=[]:=UH.1 (by simpa using h2);rw[<-gA h.aI,this];rfl
  show(⟨h.n.toNat,h.aI,cY (ct h.az),h.code⟩:Acc)=gC;rw[h1,a,h3,hs];rfl
def Hd{a}(hi:iX a){addr}(b:addr∈a):∀{hs},(∀h∈hs,h.addr∈a)->bG hs (ag addr)=(dH hs addr).map dU
 | [],_=>rfl
 |h::t,hh=>by
  show(if ag h.addr=ag addr then some (dU h) else bG t (ag addr))=(if h.addr=addr then some h else dH t addr).map dU
  rw[Hd hi b fun x c=>hh x (Ul _ c)]
  by_cases e:h.addr=addr
  ·rw[Uj e,Uj (by rw[e])];rfl
  ·rw[Ui e,Ui (fun q=>e (hi _ (hh h (Uk ..)) _ b q))]
def dv(hs:List aH)(a:yB):List aH:=hs.filter fun h=>!(h.addr.toList == a.toList)
def Hc{b}(hi:iX b){addr}(c:addr∈b)(y):∀{hs} (L:List aH),(∀h∈hs,h.addr∈b)->bG (dv hs addr++L) y=if y=ag addr then bG L y else(bG hs y).or (bG L y)
 | [],L,_=>by
  show bG L y=_
  split<;>rfl
 |h::t,L,hh=>by
  have a:=Hc hi c y (hs:=t) L fun x d=>hh x (Ul _ d)
  unfold dv at a⊢
  rw[List.filter_cons,dV]
  by_cases e:h.addr=addr
  ·rw[Uw e,Ui (by simp),a]
   split
   ·rfl
   ·next hn=>
    show _=(if ag h.addr=y then some (dU h) else bG t y).or _
    rw[Ui (fun q=>hn (by rw[<-q,e]))]
  ·rw[Uv e,Uj (by rfl)]
   show(if ag h.addr=y then some (dU h) else bG _ y)=if y=ag addr then bG L y else(if ag h.addr=y then some (dU h) else bG t y).or _
   by_cases q:ag h.addr=y
   ·rw[Uj q,Uj q,Ui (fun q2=>e (hi _ (hh h (Uk ..)) _ c (q.trans q2)))];rfl
   ·rw[Ui q,Ui q];exact a
def ng (hs:List aH) (h:aH):List aH:=dv hs h.addr++(if pP h then [] else [h])
def AE{c}(hi:iX c){hs}(k:iM c hs){x}(b:iz c x):bG (ng hs x)=cQ (bG hs) (ag x.addr) (dU x):=by
 funext y
 unfold ng;rw[Hc hi b.addr y _ fun h d=>(k.each h d).1.addr];unfold cQ;by_cases a:pP x
 ·rw[Uj a,Uj (b.none.2 a)];by_cases e:y=ag x.addr
  ·rw[Uj e,Uj e];rfl
  ·rw[Ui e,Ui e];cases bG hs y<;>rfl
 ·rw[Ui a,Ui (fun q=>a (b.none.1 q))];by_cases e:y=ag x.addr
  ·rw[Uj e,Uj e];show(if ag x.addr=y then some (dU x) else none)=_;rw[Uj e.symm]
  ·rw[Ui e,Ui e];show(bG hs y).or (if ag x.addr=y then some (dU x) else none)=_;rw[Ui (fun q=>e q.symm)];cases bG hs y<;>rfl
def iM.place{d hs}(k:iM d hs){x}(l:iz d x):iM d (ng hs x):=by
 unfold ng;have h1:∀y∈dv hs x.addr,iz d y/\¬pP y:=fun y c=>k.each y (List.mem_filter.1 c).1
 have j:(dv hs x.addr).Sublist hs:=List.filter_sublist;have h2:((dv hs x.addr).map (·.addr)).Nodup:=k.once.sublist (j.map _);by_cases f:pP x
 ·rw[Uj f,UU];exact⟨h1,h2⟩
 ·rw[Ui f];refine⟨fun y c=>?_,?_⟩
  ·rcases UA.1 c with c|c
   ·exact h1 y c
   ·rw[Uo.1 c];exact⟨l,f⟩
  ·rw[Vl,List.nodup_append];refine⟨h2,by simp,fun a i b g e=>?_⟩;simp only[List.map_cons,List.map_nil,Uo] at g;obtain⟨z,m,rfl⟩:=UO.1 i;have h:=(List.mem_filter.1 m).2;rw[dV,e,g,Uw rfl] at h;cases h
def DN{a}(hi:iX a){k}(c:k∈a):∀{b},(∀p∈b,p.1∈a)->ah (ct b) (ag k)=(ah b k).map fg
 | [],_=>rfl
 |p::t,hs=>by
  show(if((ag p.1).toList == (ag k).toList) then some (fg p.2) else ah (ct t) (ag k))=(if(p.1.toList == k.toList) then some p.2 else ah t k).map fg
  rw[dV,dV,DN hi c fun q d=>hs q (Ul _ d)]
  by_cases e:p.1=k
  ·rw[Uw e,Uw (by rw[e]),Uj rfl,Uj rfl];rfl
  ·rw[Uv e,Uv (fun q=>e (hi _ (hs p (Uk ..)) _ c q)),Ui (by simp),Ui (by simp)]
def Mk{b}(hi:iX b){h}(x:iz b h){k}(d:k∈b){v c}(hs:iU (bD (ct h.az) (ag k)) v c):v=bD h.az k/\c=0:=by
 unfold bD at hs⊢;rw[DN hi d fun p a=>(x.slot p a).2.1] at hs;cases hl:ah h.az k with
 |none=>rw[hl] at hs;exact hs.1 rfl
 |some u=>
  rw[hl] at hs;have e:∀{t:List (yB×yB)},ah t k=some u->∃p∈t,p.2=u:=by
   intro t;induction t with
   |nil=>intro h;cases h
   |cons p t ih=>
    intro h;have h:(if(p.1.toList == k.toList) then some p.2 else ah t k)=some u:=h;split at h
    ·exact⟨p,Uk ..,Option.some.inj h⟩
    ·let⟨q,h1,h2⟩:=ih h;exact⟨q,Ul _ h1,h2⟩
  obtain⟨p,a,rfl⟩:=e hl;let⟨_,_,h3,h4⟩:=x.slot p a;exact hs.2 p.2 rfl h3 h4
def Mj{b}(hi:iX b){a}(hs:∀p∈a,p.1∈b){k}(c:k∈b){v:yB}(g:v.size<=32):ct (aL a k v)=aL (ct a) (ag k) (if v.size=0 then⟨#[]⟩ else fg v):=by
 have d:others (ct a) (ag k)=ct (others a k):=by
  unfold others ct;rw[List.filter_map];congr 1;refine List.filter_congr fun p f=>?_
  show(!((ag p.1).toList == (ag k).toList))= !(p.1.toList == k.toList);rw[dV,dV];by_cases e:p.1=k
  ·rw[Uw e,Uw (by rw[e])]
  ·rw[Uv e,Uv (fun q=>e (hi _ (hs p f) _ c q))]
 unfold aL;rw[d];by_cases h0:v.size=0
 ·rw[Uj h0,Uj h0,Uj (show(⟨#[]⟩:yB).size=0 from rfl),UU,UU]
 ·rw[Ui h0,Ui h0,Ui (by have:=(qG g).1;omega)];unfold ct;rw[Vl];rfl
def KF{c:List (yB×yB)}(h:(c.map (·.1)).Nodup)(k v):((aL c k v).map (·.1)).Nodup:=by
 unfold aL;have g:(others c k).Sublist c:=List.filter_sublist;have h2:((others c k).map (·.1)).Nodup:=h.sublist (g.map _);split
 ·rw[UU];exact h2
 ·rw[Vl,List.nodup_append];refine⟨h2,by simp,fun a f b d e=>?_⟩;simp only[List.map_cons,List.map_nil,Uo] at d;obtain⟨z,i,rfl⟩:=UO.1 f;exact zE c k z i (e.trans d)
def gN(hs:List aH)(c:yL):Prop:=oE (hs.map fun h=>(ag h.addr,ir (eo (dU h)))) c\/∃h∈hs,oE (ct h.az) c
def Q9:(yP.info? 148).map (fun i=>(i.zero,i.size,i.bytes))=some (some (gV #[sV ⟨#[]⟩,i6 0,sV ⟨#[]⟩,sV ⟨#[]⟩,lV none 0 0]),5,80):=by kernel_rfl
def Fj(hs:List aH)(a):(dv hs a).length<=hs.length:=List.length_filter_le _ _
def OV(hs:List aH)(a)(k:Nat)(h:aH)(b:hs[k]? =some h):dv (hs.take (k+1)) a=dv (hs.take k) a++(if(h.addr.toList == a.toList) then [] else [h]):=by
 unfold dv;rw[VF,b,VO];cases hh:(h.addr.toList == a.toList)<;>simp[hh]
def IB(w:World)(x0 x1 x2 x3 x4 t){n}(b:n=w.heap.size):∀j u,[x0,x1,x2,x3,x4][j]? =some u->(w.alloc (.cells #[x0,x1,x2,x3,x4] t)).cell? ((⟨n,0,none⟩:Addr).add j)=some u:=by
 subst b;intro j u c;have a:(⟨w.heap.size,0,none⟩:Addr).add j=⟨w.heap.size,j,none⟩:=by unfold Addr.add;split<;>simp_all
 rw[a,Ur _ _ j _ _ _ (UG w (.cells #[x0,x1,x2,x3,x4] t))];simpa using c
def BU(w:World)(hs:List aH)(h:aH)(e:Ending)(w':World):Prop:=(∃(b:Value) (a:List aH),e=rV b/\w'.ownsRow w.heap.size 148 5 b a.length (g9 a)/\a=ng hs h)/\yW w w'
def Qz(w v)(hs:List aH)(h:aH)(H:gw w v hs)(hn:hs.length<4000000000)(hl:h.az.length<4000000000)(T:aB w):
 yC 129 #[v,iR h] w fun e w'=>BU w hs h e w'/\True:=by
 obtain⟨a,cap,rfl⟩:=H.form;obtain⟨b,d,c,f,n,o,m⟩:=h;simp only at hl;obtain⟨R,P⟩:=yX (BU w hs ⟨b,d,c,f,n,o,m⟩)
 have C2:yH ((d=0/\c.size=0/\f=cZ/\m.length=0)->∀p W,W.ownsRow w.heap.size 148 5 p (dv hs b).length (g9 (dv hs b))->yW w W->R (rV p) W):=fun q p W h1 h2=>by rw[P];exact⟨⟨p,_,rfl,h1,by unfold ng;rw[Uj (show pP ⟨b,d,c,f,n,o,m⟩ from q),UU]⟩,h2⟩
 have C4:yH (¬(d=0/\c.size=0/\f=cZ/\m.length=0)->∀p W,W.ownsRow w.heap.size 148 5 p (dv hs b++[(⟨b,d,c,f,n,o,m⟩:aH)]).length (g9 (dv hs b++[(⟨b,d,c,f,n,o,m⟩:aH)]))->yW w W->R (rV p) W):=fun q p W h1 h2=>by rw[P];exact⟨⟨p,_,rfl,h1,by unfold ng;rw[Ui (show ¬pP ⟨b,d,c,f,n,o,m⟩ from q)]⟩,h2⟩
 have B7:yH (g9 (dv hs b++[(⟨b,d,c,f,n,o,m⟩:aH)])=g9 (dv hs b)++[sV b,i6 d,sV c,sV f,lV n m.length o]):=Hr _ _;rw[<-P];clear P;unfold iR aH.sv;simp only;obtain⟨j,B⟩:=yX (w.alloc (.cells #[sV b,i6 d,sV c,sV f,lV n m.length o] 148))
 have A1:yH (yW w j):=by rw[B];exact(Un _ _).alloc (Ug _) _
 have C6:yH (j.heap.size=w.heap.size+1):=by rw[B];show _=_;simp
 have O:yH (jt j w.heap.size 148 (sV b) (i6 d) (sV c) (sV f) (lV n m.length o)):=by rw[B];exact jt.new _ _ _ _ _ _ _
 have HH:=aa (H.below A1.o);have C0:yH (∀W,yW w W->yC 124 #[] W fun e w'=>e=rV (sV cZ)/\yW W w'):=fun W s=>Aq W (T.below s)
 have HA:yH (∀k (_:k<hs.length),∃t K G I L M J g,a=some ⟨g,0,none⟩/\(∀W,yW j W->yc W g (k*5) (sV t)/\yc W g (k*5+1) (i6 K)/\yc W g (k*5+2) (sV G)/\yc W g (k*5+3) (sV I)/\yc W g (k*5+4) (lV L J M))/\dv (hs.take (k+1)) b=dv (hs.take k) b++(if(t.toList == b.toList) then [] else [hs.getD k (lz b)])/\g9 [hs.getD k (lz b)]=[sV t,i6 K,sV G,sV I,lV L J M]):=fun k E=>by
  have hx:hs[k]? =some hs[k]:=Uh E;obtain⟨g,e,_,c0,c1,c2,c3,c4⟩:=HH.o.at_ k _ hx;have A6:hs.getD k (lz b)=hs[k]:=by rw[Up,hx];rfl
  refine⟨_,_,_,_,hs[k].sa,hs[k].sc,hs[k].az.length,g,e,fun W s=>⟨eg s c0,eg s c1,eg s c2,eg s c3,eg s c4⟩,?_,?_⟩
  ·rw[A6];exact OV hs b k _ hx
  ·rw[A6];rfl
 have HE:yH (dv (hs.take hs.length) b=dv hs b):=by show _=_;rw[VM]
 have B8:yH (∀k,(dv (hs.take k) b).length<=k):=fun k=>Ut (Fj _ _) (by rw[UN];omega)
 have B9:yH ((dv hs b).length<=hs.length):=Fj _ _;obtain⟨i0,A9,B2,B3,B4⟩:=Vp Q9;clear H T;generalize hs.length=N at*;generalize cZ=NC at*;generalize m.length=A at*;go_enter func129,ntmps129
 go_wp2
 rw[<-B];clear B;go_loopg [5,6] N (fun g v r wr=>∃i:Nat,g=N - i/\i<=N/\r=i6 i/\yH (wr.ownsRow (w.heap.size+1) 148 5 v (dv (hs.take i) b).length (g9 (dv (hs.take i) b)))/\yH (yW j wr))
 case atStart=>exact⟨0,rfl,by omega,rfl,U8 _ _ _ _,Un _ _⟩
 case round=>
  obtain⟨i,Q,hi,rfl,y,l⟩:=hrel;have HG:=aa Q;clear Q;have D4:=l.o.size;have D9:=C6.o;obtain⟨⟨k0,k1,k2,k3,k4⟩,_⟩:=(O.o.below l.o O.o.lt).cells;by_cases D1:i<N
  ·obtain⟨t,K,G,I,L,M,J,g,rfl,Z,u,A0⟩:=HA.o i D1;obtain⟨c0,c1,c2,c3,c4⟩:=Z wr l.o;have D0:(i:Int)<(N:Int):=by omega
   have D7:=B8.o i;cases hls:(t.toList == b.toList)
   ·rw[hls] at u;have X:yH (dv (hs.take (i+1)) b=dv (hs.take i) b++[hs.getD i (lz b)]):=u;have B6:yH (g9 [hs.getD i (lz b)]=[sV t,i6 K,sV G,sV I,lV L J M]):=A0;have A3:=aa y.o.drew;have S:yH (yW j wr.drew):=⟨l.o.os,l.o.tape,l.o.output,l.o.size,l.o.block⟩
    clear u A0 Z k1 k2 k3 k4;generalize dv (hs.take i) b=os at*;go_upto_region 5 with fail
    go_region
    go_wp2_with (at_builtin;refine U0 _ rfl (.tmp 22) (.tmp 27) 106 rfl (w.heap.size+1) 148 i0 (gV #[sV ⟨#[]⟩,i6 0,sV ⟨#[]⟩,sV ⟨#[]⟩,lV none 0 0]) 5 80 underlying106 A9 B2 B3 B4 rfl (by decide) _ os.length (g9 os) rfl (A3.o.alloc _) ⟨wr.heap.size,0,none⟩ 1 1 [sV t,i6 K,sV G,sV I,lV L J M] rfl rfl (IB _ _ _ _ _ _ _ rfl) ?c2 (by omega) ?c3 ?c4 ?c5 _ rfl ?c6)
    case c2=>first|exact⟨rfl,rfl,rfl,rfl,rfl⟩| (intro v F;simp at F;rcases F with rfl|rfl|rfl|rfl|rfl<;>rfl)
    case c3=>unfold maxLen;omega
    case c4=>omega
    case c5=>first|omega| (simp;omega)
    intro g2 Y w2 B0 A7 C7 D2;have z:yH (w2.ownsRow (w.heap.size+1) 148 5 (lV (qA g2) (os.length+1) Y) (dv (hs.take (i+1)) b).length (g9 (dv (hs.take (i+1)) b))):=by
     show World.ownsRow _ _ _ _ _ _ _;rw[X.o,Hr,B6.o,Uq];exact B0
    have x:yH (yW j w2):=(S.o.alloc D4 _).grown A7 (by simp;omega) (fun k E=>by have:=(A3.o.lt k E).1;omega);clear B0 A7 C7 D2;go_wp2
    go_roundg (N - (i+1))
    case measure=>have:=HG.o;omega
    case rel=>exact⟨i+1,rfl,by omega,by go_num,z,x⟩
   ·rw[hls] at u;have X:yH (dv (hs.take (i+1)) b=dv (hs.take i) b):=by rw[u];show _=_;simp
    have C1:yH (wr.drew.ownsRow (w.heap.size+1) 148 5 u5 (dv (hs.take (i+1)) b).length (g9 (dv (hs.take (i+1)) b))):=by rw[X.o];exact y.o.drew
    have S:yH (yW j wr.drew):=⟨l.o.os,l.o.tape,l.o.output,l.o.size,l.o.block⟩
    clear u A0 Z k1 k2 k3 k4;go_upto_region 5 with fail
    go_region
    go_wp2
    go_roundg (N - (i+1))
    case measure=>have:=HG.o;omega
    case rel=>exact⟨i+1,rfl,by omega,by go_num,C1,S⟩
  ·obtain rfl:i=N:=by omega
   have D0:¬(i:Int)<(i:Int):=by omega
   rw[HE.o] at y;have D8:=B9.o;have U:=aa (A1.o.trans (l.o.mono (by omega)));generalize dv hs b=os at*;go_wp2_with fail
   refine(C0.o _ U.o).mono ?_;rintro e w2 ⟨rfl,C⟩;have x:=aa (U.o.trans (C.mono U.o.size));have z:yH (w2.ownsRow (w.heap.size+1) 148 5 u5 os.length (g9 os)):=cM y.o fun g Q=>C.block g (y.o.lt g Q).2
   have C3:yH ((d=0/\c.size=0/\f=NC/\A=0)->R (rV u5) w2):=fun q=>C2.o q u5 w2 (nj z.o (by omega)) x.o
   have D5:=x.o.size;have D6:w.heap.size<w2.heap.size:=by have:=C.size;omega
   obtain⟨⟨m0,m1,m2,m3,m4⟩,_⟩:=((O.o.below l.o O.o.lt).below C (by show w.heap.size<wr.heap.size;omega)).cells;clear C k0 k1 k2 k3 k4;by_cases D:d=0/\c.size=0/\f=NC/\A=0
   ·have V:=aa (C3.o D);obtain⟨rfl,A5,rfl,rfl⟩:=D;have hE:c.toList.isEmpty=true:=by rw[g7];exact A5
    clear A5;go_wp2
    go_ret
    exact⟨V.o,trivial⟩
   ·have C9:(d == 0)=false\/(d=0/\c.toList.isEmpty=false)\/(d=0/\c.toList.isEmpty=true/\(f.toList == NC.toList)=false)\/(d=0/\c.toList.isEmpty=true/\(f.toList == NC.toList)=true/\((A:Int) == 0)=false):=by
     by_cases h1:d=0
     ·by_cases h2:c.size=0
      ·by_cases h3:f=NC
       ·refine .inr (.inr (.inr ⟨h1,by rw[g7];exact h2,by rw[dV];exact Uw h3,?_⟩));have:A≠0:=fun h4=>D ⟨h1,h2,h3,h4⟩
        simp;omega
       ·exact .inr (.inr (.inl ⟨h1,by rw[g7];exact h2,by rw[dV];exact Uv h3⟩))
      ·exact .inr (.inl ⟨h1,by rw[iv];exact h2⟩)
     ·exact .inl (by simpa using h1)
    have A4:=C4.o D;have C5:=aa A4;clear D A4;rcases C9 with h1|⟨rfl,h1⟩|⟨rfl,h1,h2⟩|⟨rfl,h1,h2,h4⟩;all_goals
     go_wp2_with (at_builtin;refine U0 _ rfl (.tmp 51) (.tmp 53) 106 rfl (w.heap.size+1) 148 i0 (gV #[sV ⟨#[]⟩,i6 0,sV ⟨#[]⟩,sV ⟨#[]⟩,lV none 0 0]) 5 80 underlying106 A9 B2 B3 B4 rfl (by decide) _ os.length (g9 os) rfl (z.o.alloc _) ⟨w2.heap.size,0,none⟩ 1 1 [sV b,_,sV c,sV f,lV n A o] rfl rfl (IB _ _ _ _ _ _ _ rfl) (by first|exact⟨rfl,rfl,rfl,rfl,rfl⟩| (intro v F;simp at F;rcases F with rfl|rfl|rfl|rfl|rfl<;>rfl)) (by omega) (by unfold maxLen;omega) (by omega) (by first|omega| (simp;omega)) _ rfl ?_)
     intro g2 Y w3 B1 A8 C8 D3;have A2:=nj (base':=w.heap.size) B1 (by omega);have B5:yH (yW w w3):=(x.o.alloc D5 _).grown A8 (by simp;omega) (fun k E=>by have:=(z.o.lt k E).1;omega);have V:=aa (C5.o _ w3 (by rw[B7.o,Uq];exact A2) B5.o);clear B1 A8 C8 D3 A2;go_wp2
     go_ret
     exact⟨V.o,trivial⟩
structure aV where
 rb:Nat
 sb:Nat
 sp:Nat
 tw:Nat
 tt:Nat
 D:List Nat
 N:Nat
 mv:Value
 m:List aH
 bv:Value
 base:List aH
 sv:Value
 seen:List yB
 yes:Bool
def oH(l:Nat->Nat)(v:Value)(hs:List aH):Prop:=(∀g,v.ownBlock=some g->l g=0)/\∀h∈hs,∀g,h.sv.ownBlock=some g->l g=0
def gw.mv{T l l' w w' v hs}(h:gw w v hs)(c:oH l v hs)(m:Mv T l l' w w')(h0:¬T 0):gw w' v hs/\oH l' v hs:=
 ⟨⟨cM h.1 fun g a=>m.kept (h.1.lt g a).2 (c.1 g a) h0,fun x b=>by
  have k:=h.2 x b
  exact⟨k.addr,k.n,k.aI,k.code,(k.at_.mv (c.2 x b) m h0).1,k.len,k.small⟩⟩,
  ⟨fun g a=>(m.bt g (h.1.lt g a).2).trans (c.1 g a),fun x b=>((h.2 x b).at_.mv (c.2 x b) m h0).2⟩⟩
structure iy(l:Nat->Nat)(w:World)(R:aV):Prop where
 ai:w.heap[R.rb]? =some (.cells #[pV (qA R.sb),pV (qA R.sp),R.mv,R.bv,R.sv,pV (qA R.tt)] 108 (0,0))
 lb:l R.rb=pr R.rb 0
 pm:gw w R.mv R.m
 lm:oH l R.mv R.m
 pb:gw w R.bv R.base
 lv:oH l R.bv R.base
 sn:w.ownsRow 3 9 1 R.sv R.seen.length (R.seen.map Value.string)
 ls:∀g,R.sv.ownBlock=some g->l g=pr R.rb 0
 sm:∀s∈R.seen,s.size<=1073741824
 tn:w.heap[R.tt]? =some (.cells #[bV R.yes] 105 (0,0))
 lt:l R.tt=pr R.tt 0
 nm:R.m.length<1000000000
 nb:R.base.length<1000000000
 ns:R.seen.length<1000000000
def iy.jm{l w R}(h:iy l w R):R.rb<w.heap.size:=(Um.1 h.ai).1
def iy.qj{l w R}(h:iy l w R):R.tt<w.heap.size:=(Um.1 h.tn).1
def iy.move{T l l' w w' R}(h:iy l w R)(m:Mv T l l' w w')(h0:¬T 0)(h1:¬T (pr R.rb 0))(h2:¬T (pr R.tt 0)):iy l' w' R:=
 {ai:=(m.kept h.jm h.lb h1).trans h.ai
  lb:=(m.bt _ h.jm).trans h.lb
  pm:=(h.pm.mv h.lm m h0).1
  lm:=(h.pm.mv h.lm m h0).2
  pb:=(h.pb.mv h.lv m h0).1
  lv:=(h.pb.mv h.lv m h0).2
  sn:=cM h.sn fun g a=>m.kept (h.sn.lt g a).2 (h.ls g a) h1
  ls:=fun g a=>(m.bt g (h.sn.lt g a).2).trans (h.ls g a)
  sm:=h.sm
  tn:=(m.kept h.qj h.lt h2).trans h.tn
  lt:=(m.bt _ h.qj).trans h.lt
  nm:=h.nm
  nb:=h.nb
  ns:=h.ns}
def iy.cells{l w R}(h:iy l w R):w.cell? ⟨R.rb,0,none⟩=some (pV (qA R.sb))/\w.cell? ⟨R.rb,1,none⟩=some (pV (qA R.sp))/\w.cell? ⟨R.rb,2,none⟩=some R.mv/\w.cell? ⟨R.rb,3,none⟩=some R.bv/\w.cell? ⟨R.rb,4,none⟩=some R.sv/\w.cell? ⟨R.rb,5,none⟩=some (pV (qA R.tt))/\w.cell? ⟨R.tt,0,none⟩=some (bV R.yes):=by
 refine⟨?_,?_,?_,?_,?_,?_,?_⟩
 ·rw[Ur w _ 0 _ _ _ h.ai];rfl
 ·rw[Ur w _ 1 _ _ _ h.ai];rfl
 ·rw[Ur w _ 2 _ _ _ h.ai];rfl
 ·rw[Ur w _ 3 _ _ _ h.ai];rfl
 ·rw[Ur w _ 4 _ _ _ h.ai];rfl
 ·rw[Ur w _ 5 _ _ _ h.ai];rfl
 ·rw[Ur w _ 0 _ _ _ h.tn];rfl
def aV.de(R:aV):Prop:=R.yes=false/\bY R.seen R.seen.length=false
def aV.kn(R:aV):Kn:=⟨R.de,gN R.base⟩
def aV.wk(R:aV)(a:List (yB×yB)):GP:=fun X _=>R.de->Wd R.kn a R.tw X (bG R.m) gK
def aV.de.inj{R:aV}(h:R.de):iX R.seen:=fun _ hx _ hy e=>Jl h.2 hx hy e
structure pK(l:Nat->Nat)(w:World)(R:aV)(us:Nat->Value)(ps:List (yB×yB))(P:GP):Prop where
 y:iy l w R
 x:SX l w R.sp R.sb R.tw R.D R.N us ps R.kn P
structure dh(l:Nat->Nat)(w:World)(R:aV)(us:Nat->Value)(ps:List (yB×yB)):Prop extends pK l w R us ps (R.wk ps) where
 k:R.de->iM R.seen R.m/\iM R.seen R.base
def pK.ne{l w R d c P}(h:pK l w R d c P):R.sp≠R.rb/\R.sp≠R.tt/\R.rb≠R.tt/\R.rb≠R.sb/\R.tt≠R.sb:=by
 let⟨j,g,i,f,X,a,_⟩:=h.x.st;have b1:=h.y.ai;have b2:=h.y.tn;have b3:=a.ai.ai;let⟨_,b,_⟩:=h.x.jw.st;have b4:=b.ai;refine⟨fun e=>?_,fun e=>?_,fun e=>?_,fun e=>?_,fun e=>?_⟩
 ·rw[e,b1] at b3;injection b3 with b3;injection b3 with _ b3;cases b3
 ·rw[e,b2] at b3;injection b3 with b3;injection b3 with _ b3;cases b3
 ·rw[e,b2] at b1;injection b1 with b1;injection b1 with _ b1;cases b1
 ·rw[e,b4] at b1;injection b1 with b1;injection b1 with _ b1;cases b1
 ·rw[e,b4] at b2;injection b2 with b2;injection b2 with _ b2;cases b2
def aV.arg(R:aV)(l:Nat->Nat)(w:World)(b:Nat->Value)(a:List (yB×yB)):fm:=⟨l,w,R.sp,R.sb,R.tw,R.D,R.N,b,a,R.kn⟩
def dh.start{l w R b a}(h:dh l w R b a):SC (R.arg l w b a) (Wm (R.arg l w b a) (bG R.m)) 0 [] [] w:=SC.start h.x
def dh.Kj{l w w' R b a P K e c}(h:dh l w R b a)(d:SC (R.arg l w b a) P K e c w'):∃l',Mv (Of R.sp) l l' w w'/\iy l' w' R:=by
 let⟨n1,n2,_⟩:=h.ne;let⟨l',f,m,_,_,g,_⟩:=d;exact⟨l',m,h.y.move m (mr _) (lN n1) (lN n2)⟩
def dh.after{l w w' R d b P K j e}(h:dh l w R d b)(f:SC (R.arg l w d b) P K j e w')(g:∀X r,P X r->R.wk b X r):∃l' c,Mv (Of R.sp) l l' w w'/\dh l' w' {R with D:=c,N:=R.N+K} d b:=by
 let⟨n1,n2,_⟩:=h.ne;let⟨l',c,m,_,_,i,_⟩:=f;have a:=h.y.move m (mr _) (lN n1) (lN n2);exact⟨l',c,m,⟨⟨⟨a.ai,a.lb,a.pm,a.lm,a.pb,a.lv,a.sn,a.ls,a.sm,a.tn,a.lt,a.nm,a.nb,a.ns⟩,i.ev g⟩,h.k⟩⟩
def dh.below{l w w' R c b}(h:dh l w R c b)(a:yW w w'):dh (gv l w.heap.size) w' R c b:=
 ⟨⟨h.y.move (Mv.below (fun _=>False) l a) id id id,h.x.below a⟩,h.k⟩
def dh.cells{l w w' R c b P K f d}(h:dh l w R c b)(e:SC (R.arg l w c b) P K f d w'):(yc w' R.rb 0 (pV (qA R.sb))/\yc w' R.rb 1 (pV (qA R.sp))/\yc w' R.rb 2 R.mv/\yc w' R.rb 3 R.bv/\yc w' R.rb 4 R.sv/\yc w' R.rb 5 (pV (qA R.tt))/\yc w' R.tt 0 (bV R.yes))/\gw w' R.mv R.m/\gw w' R.bv R.base/\gQ w' R.sv R.seen:=by
 let⟨l',m,a⟩:=h.Kj e;exact⟨a.cells,a.pm,a.pb,qd a.sn⟩
def zg{w:World}{rb i d c b}(c5:yc w rb 5 (pV (qA i)))(c4:yc w rb 4 c)(d0:yc w i 0 (bV d))(g:gQ w c b)(l:b.length<1000000000)(hs:∀s∈b,s.size<=1073741824)(T:aB w):
 yC 87 #[pV (qA rb)] w fun e w'=>e=rV (bV (d || bY b b.length))/\yW w w':=by
 have k:yH (yC 13 #[c] w fun e w'=>e=rV (bV (bY b b.length))/\yW w w'):=pk w c b g (by omega) (fun p h=>by have:=hs p h;unfold maxLen;omega) T;obtain⟨a,cap,rfl,_⟩:=g;clear T hs;generalize b.length=NS at*;generalize bY b NS=CK at*;cases d with
 |true=>
  go_enter func87,ntmps87
  go_wp2
  go_ret
  exact⟨rfl,Un _ _⟩
 |false=>
  go_enter func87,ntmps87
  go_wp2_with fail
  refine k.m ?_;rintro e w1 ⟨rfl,f⟩;have j:=aa f;clear f;go_wp2
  go_ret
  exact⟨rfl,j.o⟩
def Cb(A:fm)(e:Ending):Prop:=∃b:Bool,e=rV (bV b)/\(¬A.k.ok->b=true)
def dh.may{l w w' R b a P K f d}(h:dh l w R b a)(c:SC (R.arg l w b a) P K f d w'):yC 87 #[pV (qA R.rb)] w' fun e w2=>Cb (R.arg l w b a) e/\SC (R.arg l w b a) P K f d w2:=by
 let⟨⟨_,_,_,_,c4,c5,d0⟩,_,_,i⟩:=h.cells c;exact(zg c5 c4 d0 i h.y.ns h.y.sm c.bz).mono fun _ _ ⟨h1,h2⟩=>⟨⟨_,h1,fun g=>by
  cases hy:R.yes with
  |true=>rfl
  |false=>
   cases hc:bY R.seen R.seen.length with
   |true=>rfl
   |false=>exact absurd ⟨hy,hc⟩ g⟩,c.below h2⟩
structure xZ(A:fm)(rb tt:Nat)(mv bv sv:Value)(yes:Bool)(m base:List aH)(seen:List yB):Prop where
 cells:∀P K ts bx W,SC A P K ts bx W->(W.cell? ⟨rb,0,none⟩=some (pV (qA A.sb))/\W.cell? ⟨rb,1,none⟩=some (pV (qA A.sp))/\W.cell? ⟨rb,2,none⟩=some mv/\W.cell? ⟨rb,3,none⟩=some bv/\W.cell? ⟨rb,4,none⟩=some sv/\W.cell? ⟨rb,5,none⟩=some (pV (qA tt))/\W.cell? ⟨tt,0,none⟩=some (bV yes))/\gw W mv m/\gw W bv base/\gQ W sv seen
 may:∀P K ts bx W,SC A P K ts bx W->yC 87 #[pV (qA rb)] W fun e w2=>Cb A e/\SC A P K ts bx w2
 nm:m.length<1000000000
 nb:base.length<1000000000
def dh.facts{l w R b a}(h:dh l w R b a):xZ (R.arg l w b a) R.rb R.tt R.mv R.bv R.sv R.yes R.m R.base R.seen:=
 ⟨fun _ _ _ _ _ hS=>h.cells hS,fun _ _ _ _ _ hS=>h.may hS,h.y.nm,h.y.nb⟩
def Jw(W){a:yB}(b:a.size<=1073741824):jK W (lz a):=by
 refine⟨b,?_,?_,?_,eH.nil W,?_,fun p c=>absurd c Vs⟩
 ·show Rg 0;exact⟨by decide,by decide⟩
 ·show(⟨#[]⟩:yB).size<=_;decide
 ·show cZ.size<=_;rw[show cZ.size=32 from dz _];decide
 ·show 0<4000000000;decide
def qy{W v m}{addr:yB}(h:gw W v m)(a:addr.size<=1073741824):jK W (bT m addr).1:=by
 unfold bT;have key:∀(l:List aH) x,dH l addr=some x->x∈l:=by
  intro l;induction l with
  |nil=>intro x e;cases e
  |cons y t ih=>
   intro x e;unfold dH at e;split at e
   ·cases e;exact Uk ..
   ·exact Ul _ (ih x e)
 cases hf:dH m addr with
 |some x=>exact h.2 x (key m x hf)
 |none=>exact Jw W a
def SC.find{A P K c a W}(b:SC A P K c a W){v m}(h:gw W v m)(d:m.length<1000000000)(addr):yC 86 #[v,sV addr] W fun e w'=>e=rV (tV #[iR (bT m addr).1,bV (bT m addr).2])/\SC A P K c a w':=
 (GH W v m addr h (by omega) b.bz).mono fun _ _ ⟨h1,h2⟩=>⟨h1,b.below h2⟩
def Kf(A:fm)(M:Mp)(m:List aH)(addr slot:yB):Prop:=A.k.ok->addr.size=20->aY M (ag addr)=dU (bT m addr).1/\(M (ag addr)).isSome=(bT m addr).2/\0<=(bT m addr).1.n/\(slot.size≠0->slot.size=32/\∀v c,iU (bD (aY M (ag addr)).ss (ag slot)) v c->v=bD (bT m addr).1.az slot/\c=0)
def TG{A rb tt mv bv sv C9 m base C8 M}(F:xZ A rb tt mv bv sv C9 m base C8){K d j w}(U:SC A (Wm A M) K d j w)(addr slot:yB)(ha:addr.size<=1073741824)(D1:slot.size<=1073741824)(hP:Kf A M m addr slot)(hN:A.N+K+1000<4000000000):
 yC 50 #[pV (qA rb),sV addr,sV slot] w fun e w'=>e=rV (bV true)/\SC A (Wm A M) (K+800) d j w':=by
 have B7:yH (yC 10 #[pV (qA A.sp),sV addr] w fun e w'=>(j6 (Kh A M addr) e/\(addr.size≠20->∃v,e=rV (tV #[v,bV false,i6 2])))/\SC A (Wm A M) (K+250) d j w'):=TQ U addr (by unfold maxLen;omega);have C4:yH (∀f W,SC A (Wm A M) (K+250) d f W->yC 88 #[pV (qA A.sp),sV addr,sV slot] W fun e w'=>(∃(v:yB) (c:Nat),e=rV (tV #[sV v,i6 c])/\(addr.size=20->slot.size=32->A.k.ok->iU (bD (aY M (ag addr)).ss (ag slot)) v c))/\SC A (Wm A M) (K+800) d f w'):=fun f W o=>(TU o addr slot (by unfold maxLen;omega) (by unfold maxLen;omega) (by omega)).mono fun _ _ ⟨⟨v,c,h1,_,h3,h2⟩,_⟩=>⟨⟨v,c,h1,h3⟩,h2.mono (by omega)⟩
 have Z:yH (∀K' f W,SC A (Wm A M) K' d f W->yC 87 #[pV (qA rb)] W fun e w2=>Cb A e/\SC A (Wm A M) K' d f w2):=fun K' f W o=>F.may _ K' d f W o
 have R:yH (∀f W,SC A (Wm A M) (K+250) d f W->yC 86 #[mv,sV addr] W fun e w'=>e=rV (tV #[iR (bT m addr).1,bV (bT m addr).2])/\SC A (Wm A M) (K+250) d f w'):=fun f W o=>o.find (F.cells _ _ _ _ _ o).2.1 F.nm addr
 have Y:yH (∀K' f W,SC A (Wm A M) K' d f W->yC 77 #[(bT m addr).1.sv,sV slot] W fun e w'=>e=rV (sV (bD (bT m addr).1.az slot))/\w'=W):=fun K' f W o=>by
  have k:=qy (F.cells _ _ _ _ _ o).2.1 ha;exact og W _ _ slot k.at_ (by have:=k.len;omega)
 have Q:yH (∀K' f W,SC A (Wm A M) K' d f W->yc W rb 1 (pV (qA A.sp))/\yc W rb 2 mv):=fun K' f W o=>⟨(F.cells _ _ _ _ _ o).1.2.1,(F.cells _ _ _ _ _ o).1.2.2.1⟩
 obtain⟨c1,_⟩:=Q.o _ _ _ U;obtain⟨ma,mc,B3⟩:=(F.cells _ _ _ _ _ U).2.1.form;rw[B3] at R Q;have D0:=F.nm;have A7:yH (∀a i c,Kh A M addr a i c->addr.size=20->A.k.ok->c=0/\i=(bT m addr).2/\(a.n:Int)=(bT m addr).1.n/\a.aI=(bT m addr).1.aI/\a.code=(bT m addr).1.code):=fun a i c P h20 g=>by
  obtain⟨e1,e2,e3⟩:=P h20 g;obtain⟨p1,p2,p3,_⟩:=hP g h20;refine⟨e3,e2.trans p2,?_,?_,?_⟩
  ·rw[e1,p1];show((bT m addr).1.n.toNat:Int)=_;omega
  ·rw[e1,p1];rfl
  ·rw[e1,p1];rfl
 have A8:yH (∀v c,(addr.size=20->slot.size=32->A.k.ok->iU (bD (aY M (ag addr)).ss (ag slot)) v c)->slot.size≠0->addr.size=20->A.k.ok->c=0/\v=bD (bT m addr).1.az slot):=fun v c P h0 h20 g=>by
  obtain⟨_,_,_,p4⟩:=hP g h20;obtain⟨p5,p6⟩:=p4 h0;obtain⟨e1,e2⟩:=p6 v c (P h20 p5 g);exact⟨e2,e1⟩
 clear hP;generalize (bT m addr).2=g at*;generalize (bT m addr).1=h at*;obtain⟨E,l,p,t,x,y,xl⟩:=h;unfold iR aH.sv at R;unfold aH.sv at Y;simp only at R Y A7 A8;generalize bD xl slot=HV at*;generalize xl.length=XL at*;generalize m.length=MN at*;clear F U B3;go_enter func50,ntmps50
 go_wp2_with fail
 refine B7.m ?_;rintro e w1 ⟨⟨⟨a,i,c,rfl,C6,P,B6⟩,B4⟩,A9⟩;have z:yH (addr.size=20->A.k.ok->c=0/\i=g/\(a.n:Int)=l/\a.aI=p/\a.code=t):=A7.o a i c B6;have C0:yH (addr.size≠20->c=2/\i=false):=fun h=>by
  obtain⟨v,e⟩:=B4 h;injection e with e;injection e with e;have e1:=congrArg (fun q:Array Value=>q[2]?) e;have e2:=congrArg (fun q:Array Value=>q[1]?) e;simp at e1 e2;exact⟨by omega,e2⟩
 clear B6 B4;obtain⟨n,r,D,u⟩:=a;simp only at z;have H:=A9.box #[i6 n,sV r,sV D,sV u] 37;obtain⟨T,J⟩:=yX (w1.alloc (.cells #[i6 n,sV r,sV D,sV u] 37))
 rw[<-J] at H;have C2:yH (SC A (Wm A M) (K+250) d ((w1.heap.size,.cells #[i6 n,sV r,sV D,sV u] 37 (0,0))::j) T):=H;have C3:yH (SC A (Wm A M) (K+800) d j T):=H.unbox.mono (by omega);obtain⟨d1,d2⟩:=Q.o _ _ _ H;unfold cE;clear A9 H C6 P c1;by_cases h20:addr.size=20
 ·have C5:(addr.size:Int)=20:=by omega
  rw[J] at d1 d2;go_wp2_with fail
  rw[<-J];clear J d1 d2;refine(R.o _ _ C2.o).mono ?_;rintro e w3 ⟨rfl,B0⟩;have C:=B0.box #[sV E,i6 l,sV p,sV t,lV x XL y] 148;obtain⟨B,A3⟩:=yX (w3.alloc (.cells #[sV E,i6 l,sV p,sV t,lV x XL y] 148))
  rw[<-A3] at C;have A0:yH (SC A (Wm A M) (K+250) d ((w3.heap.size,.cells #[sV E,i6 l,sV p,sV t,lV x XL y] 148 (0,0))::(w1.heap.size,.cells #[i6 n,sV r,sV D,sV u] 37 (0,0))::j) B):=C;obtain⟨d1,d2⟩:=Q.o _ _ _ C;have B2:gf B w1.heap.size 37 (i6 n) (sV r) (sV D) (sV u):=(C.held _ (Ul _ (Uk ..))).1;have O:jt B w3.heap.size 148 (sV E) (i6 l) (sV p) (sV t) (lV x XL y):=C.at_;obtain⟨⟨k0,k1,k2,k3⟩,_⟩:=B2.cells;obtain⟨⟨p0,p1,p2,p3,p4⟩,_⟩:=O.cells;clear B0 C B2 O;go_upto_region 5 with fail
  rw[<-A3];clear A3;have z:=z.o h20;have z:yH (A.k.ok->c=0/\i=g/\(n:Int)=l/\r=p/\u=t):=z;go_cut [12] (fun v wx=>∃b:Bool,v=bV b/\yH (A.k.ok->b=true)/\wx=B)
  case first=>
   have A4:((c:Int) == 0)=false\/(((c:Int) == 0)=true/\(i == g)=false)\/(((c:Int) == 0)=true/\(i == g)=true/\((n:Int) == l)=false)\/(((c:Int) == 0)=true/\(i == g)=true/\((n:Int) == l)=true/\(r.toList == p.toList)=false)\/(((c:Int) == 0)=true/\(i == g)=true/\((n:Int) == l)=true/\(r.toList == p.toList)=true):=by
    cases ((c:Int) == 0)<;>cases (i == g)<;>cases ((n:Int) == l)<;>cases (r.toList == p.toList)<;>simp
   rcases A4 with h1|⟨h1,h2⟩|⟨h1,h2,h3⟩|⟨h1,h2,h3,h4⟩|⟨h1,h2,h3,h4⟩;all_goals
    go_wp2
    go_meet
    exact⟨_,rfl,(show A.k.ok->_=true from fun q=>by obtain⟨e1,e2,e3,e4,e5⟩:=z.o q;subst e1 e2 e3 e4 e5;first| (simp at h1;done) | (simp at h2;done) | (simp at h3;done) | (simp at h4;done) |simp),rfl⟩
  case rest=>
   obtain⟨b,rfl,A5,rfl⟩:=hcut;cases b with
   |false=>
    have G:yH (¬A.k.ok):=fun q=>by have:=A5.o q;cases this
    clear A5;go_wp2_with fail
    refine(Z.o _ _ _ A0.o).mono ?_;rintro e w5 ⟨⟨b5,rfl,B1⟩,s⟩;have B8:yH (b5=true):=B1 G.o;clear B1;have S:yH (SC A (Wm A M) (K+800) d j w5):=s.unbox.unbox.mono (by omega);clear s;go_wp2
    go_ret
    exact⟨by rw[B8.o];rfl,S.o⟩
   |true=>
    by_cases V:slot.size=0
    ·have hE:slot.toList.isEmpty=true:=by rw[g7];exact V
     have S:yH (SC A (Wm A M) (K+800) d j wc):=A0.o.unbox.unbox.mono (by omega);go_wp2
     go_ret
     exact⟨rfl,S.o⟩
    ·have hE:slot.toList.isEmpty=false:=by rw[iv];exact V
     have C1:yH (slot.size≠0):=V;clear V;go_wp2_with fail
     refine(C4.o _ _ A0.o).mono ?_;rintro e w5 ⟨⟨v5,c5,rfl,B5⟩,s⟩;have A6:yH (A.k.ok->c5=0/\v5=HV):=A8.o v5 c5 B5 C1.o h20;clear B5;have S:yH (SC A (Wm A M) (K+800) d ((w3.heap.size,.cells #[sV E,i6 l,sV p,sV t,lV x XL y] 148 (0,0))::(w1.heap.size,.cells #[i6 n,sV r,sV D,sV u] 37 (0,0))::j) w5):=s;have A1:yH (SC A (Wm A M) (K+800) d j w5):=s.unbox.unbox;have O:jt w5 w3.heap.size 148 (sV E) (i6 l) (sV p) (sV t) (lV x XL y):=s.at_;obtain⟨⟨q0,q1,q2,q3,q4⟩,_⟩:=O.cells;have B9:yH (yC 77 #[lV x XL y,sV slot] w5 fun e w'=>e=rV (sV HV)/\w'=w5):=Y.o _ _ _ s;clear s O k0 k1 k2 k3 p0 p1 p2 p3 p4 d1 d2;go_wp2_with fail
     refine B9.m ?_;rintro e wx ⟨rfl,C7⟩;subst C7;have A4:((c5:Int) == 0)=false\/(((c5:Int) == 0)=true/\(v5.toList == HV.toList)=false)\/(((c5:Int) == 0)=true/\(v5.toList == HV.toList)=true):=by
      cases ((c5:Int) == 0)<;>cases (v5.toList == HV.toList)<;>simp
     rcases A4 with h1|⟨h1,h2⟩|⟨h1,h2⟩
     ·have G:yH (¬A.k.ok):=fun q=>by obtain⟨e1,_⟩:=A6.o q;subst e1;simp at h1
      go_wp2_with fail
      refine(Z.o _ _ _ A1.o).mono ?_;rintro e w7 ⟨⟨b7,rfl,L⟩,I⟩;have X:yH (b7=true):=L G.o;clear L;have A2:yH (SC A (Wm A M) (K+800) d j w7):=I;clear I;go_wp2
      go_ret
      exact⟨by rw[X.o];rfl,A2.o⟩
     ·have G:yH (¬A.k.ok):=fun q=>by obtain⟨_,e2⟩:=A6.o q;subst e2;simp at h2
      go_wp2_with fail
      refine(Z.o _ _ _ A1.o).mono ?_;rintro e w7 ⟨⟨b7,rfl,L⟩,I⟩;have X:yH (b7=true):=L G.o;clear L;have A2:yH (SC A (Wm A M) (K+800) d j w7):=I;clear I;go_wp2
      go_ret
      exact⟨by rw[X.o];rfl,A2.o⟩
     ·go_wp2
      go_ret
      exact⟨rfl,A1.o⟩
 ·have C5:¬(addr.size:Int)=20:=by omega
  obtain⟨rfl,rfl⟩:=C0.o h20;clear d1 d2;go_wp2
  go_ret
  (try rw[<-J])
  exact⟨rfl,C3.o⟩
def qN.bt{l l' w b sb c t S}(h:qN l w b sb c t S)(d:∀k,k<w.heap.size->Of b (l k)->l' k=l k):qN l' w b sb c t S:=
 ⟨h.tr,h.loose,(d c h.tr.lt ⟨_,h.lt⟩).trans h.lt,fun x a=>(d x (h.tr.own x a).2.2 ⟨_,h.lS x a⟩).trans (h.lS x a)⟩
def jX.bt{l l' w e sb m D n i j f}(h:jX l w e sb m D n i j f)(d:∀k,k<w.heap.size->Of e (l k)->l' k=l k):jX l' w e sb m D n i j f:=
 {ai:=h.ai
  jA:=(d _ h.ai.lt ⟨_,h.jA⟩).trans h.jA
  jB:=fun c g a b=>(d g ((h.ai.own c a).lt g b).2 ⟨_,h.jB c g a b⟩).trans (h.jB c g a b)
  ie:=h.ie
  gI:=h.gI
  dJ:=h.dJ
  lO:=h.lO
  gy:=fun p o=>(h.gy p o).bt d}
def SX.bt{l l' w a sb d D N e c k P}(h:SX l w a sb d D N e c k P)(j:∀k,k<w.heap.size->Of a (l k)->l' k=l k)(h0:∀k,k<w.heap.size->l k=0->l' k=0)(hs:∀k,k<w.heap.size->l k=pr sb 0->l' k=pr sb 0):SX l' w a sb d D N e c k P:=by
 let⟨p,n,o,f,X,g,m⟩:=h.st;exact⟨⟨p,n,o,f,X,g.bt j,m⟩,h.jw,fun x b=>hs x (h.jw.st.eM x b) (h.ls x b),h.bz,fun k i=>h0 k (by have:=h.bz.size;omega) (h.l3 k i),h.ne⟩
def oH.bt{l l' w v hs}(h:oH l v hs)(H:gw w v hs)(h0:∀k,k<w.heap.size->l k=0->l' k=0):oH l' v hs:=
 ⟨fun g a=>h0 g (H.1.lt g a).2 (h.1 g a),fun x b g a=>h0 g ((H.2 x b).at_.lt g a).2 (h.2 x b g a)⟩
def iy.bt{l l' w R}(h:iy l w R)(h0:∀k,k<w.heap.size->l k=0->l' k=0)(h1:∀k,k<w.heap.size->l k=pr R.rb 0->l' k=pr R.rb 0)(h2:∀k,k<w.heap.size->l k=pr R.tt 0->l' k=pr R.tt 0):iy l' w R:=
 ⟨h.ai,h1 _ h.jm h.lb,h.pm,h.lm.bt h.pm h0,h.pb,h.lv.bt h.pb h0,h.sn,fun g a=>h1 g (h.sn.lt g a).2 (h.ls g a),h.sm,h.tn,h2 _ h.qj h.lt,h.nm,h.nb,h.ns⟩
def dh.JG{l w w' R us ps P K ts bx}(h:dh l w R us ps)(hS:SC (R.arg l w us ps) P K ts bx w'):∃l' D',Mv (Of R.sp) l l' w w'/\pK l' w' {R with D:=D',N:=R.N+K} us ps P/\∀b∈bx,l' b.1=0:=by
 let⟨n1,n2,_⟩:=h.ne;let⟨l',D',m,_,_,hx,h3⟩:=hS;have hy:=h.y.move m (mr _) (lN n1) (lN n2);let⟨L,hL⟩:=yX (nD (R.arg l w us ps))
 have A3:L=pr (R.sp+R.sb+1) 7:=hL;have A1:∀a b,b≠7->pr a b≠L:=fun a b hb e=>by rw[A3] at e;exact hb (fS e).2
 have A5:∀b,pr R.sp b≠L:=fun b e=>by rw[A3] at e;have:=(fS e).1;omega
 have A4:(0:Nat)≠L:=fun e=>by have:=iu (R.sp+R.sb+1) 7;omega
 let⟨l2,A2⟩:=yX (fun k=>if w.heap.size<=k/\l' k=L then 0 else l' k)
 have A0:∀k x,x≠L->l' k=x->l2 k=x:=fun k x hx e=>by rw[A2];simp only;rw[Ui (fun hh=>hx (e.symm.trans hh.2))];exact e
 have A6:∀k,k<w.heap.size->l2 k=l' k:=fun k hk=>by rw[A2];simp only;rw[Ui (fun hh=>by omega)]
 refine⟨l2,D',⟨m.os,m.tape,m.output,m.size,fun k hk=>(A6 k hk).trans (m.bt k hk),m.ai⟩,⟨?_,hx.bt (fun k _ ⟨b,e⟩=>(A0 k _ (A5 b) e).trans e.symm) (fun k _ e=>A0 k 0 A4 e) (fun k _ e=>A0 k _ (A1 _ 0 (by decide)) e)⟩,fun b hb=>?_⟩
 ·have:=hy.bt (l':=l2) (fun k _ e=>A0 k 0 A4 e) (fun k _ e=>A0 k _ (A1 _ 0 (by decide)) e) (fun k _ e=>A0 k _ (A1 _ 0 (by decide)) e);exact⟨this.ai,this.lb,this.pm,this.lm,this.pb,this.lv,this.sn,this.ls,this.sm,this.tn,this.lt,this.nm,this.nb,this.ns⟩
 ·let⟨_,b2,b3⟩:=h3 b hb;rw[A2];simp only;rw[Uj ⟨b3,by rw[b2,hL]⟩]
def pK.cQ{l w w1 R s r P}(h:pK l w R s r P)(o:yW w w1){d}{i:List aH}(q:w1.ownsRow w.heap.size 148 5 d i.length (g9 i))(f:∀x∈i,jK w x/\∀g,x.sv.ownBlock=some g->l g=0)(p:i.length<1000000000):
 ∃l',Mv (fun x=>x=pr R.rb 0) l l' w (w1.setCell ⟨R.rb,2,none⟩ d)/\pK l' (w1.setCell ⟨R.rb,2,none⟩ d) {R with mv:=d,m:=i} s r P:=by
 let⟨n1,n2,n3,n4,n5⟩:=h.ne;have h3:=h.x.bz.size;have a:pK (gv l w.heap.size) w1 R s r P:=⟨h.y.move (Mv.below (fun _=>False) l o) id id id,h.x.below o⟩
 have C:=h.y.jm;have e1:∀k,k≠R.rb->(w1.setCell ⟨R.rb,2,none⟩ d).heap[k]? =w1.heap[k]? :=fun k f=>UL _ _ _ k f
 have e2:(w1.setCell ⟨R.rb,2,none⟩ d).heap[R.rb]? =some (.cells #[pV (qA R.sb),pV (qA R.sp),d,R.bv,R.sv,pV (qA R.tt)] 108 (0,0)):=by
  rw[U7 w1 R.rb 2 _ _ (0,0) _ a.y.ai,Vk w1 R.rb _ _ _ _ a.y.ai];rfl
 have A:(w1.setCell ⟨R.rb,2,none⟩ d).heap.size=w1.heap.size:=by simp
 have m1:Mv (fun x=>x=pr R.rb 0) (gv l w.heap.size) (gv l w.heap.size) w1 (w1.setCell ⟨R.rb,2,none⟩ d):=⟨rfl,rfl,rfl,by rw[A];exact Ug _,fun _ _=>rfl,fun k f p=>e1 k fun e=>p (by rw[e];exact a.y.lb)⟩
 have p0:=iu R.rb 0;refine⟨gv l w.heap.size,((Mv.below (fun _=>False) l o).mono fun _ j=>j.elim).trans m1,⟨?_,a.x.move m1 (fun e=>by omega) (fun e=>n4 (fS e).1.symm) fun b e=>n1 (fS e).1⟩⟩;have t:=a.y.pb.mv a.y.lv m1 (fun e=>by omega);exact
  {ai:=e2
   lb:=a.y.lb
   pm:=⟨nj (cM q fun g c=>e1 g (by have:=(q.lt g c).1;omega)) (by omega),fun x j=>by
    have k:=(f x j).1;exact⟨k.addr,k.n,k.aI,k.code,cM (k.at_.below o) fun g c=>e1 g (fun e=>by
     have z:=(f x j).2 g c;rw[e,h.y.lb] at z;omega),k.len,k.small⟩⟩
   lm:=⟨fun g c=>ou (q.lt g c).1,fun x j g c=>(kH (((f x j).1.at_).lt g c).2).trans ((f x j).2 g c)⟩
   pb:=t.1
   lv:=t.2
   sn:=cM a.y.sn fun g c=>e1 g (fun e=>by
    subst e;rcases a.y.sn.2 with⟨h1,_⟩|⟨u,cap,B,h1,_,h2,_⟩
    ·rw[show({R with mv:=d,m:=i}:aV).sv=R.sv from rfl,h1] at c;simp[Value.ownBlock] at c
    ·have v:R.rb=u:=by
      rw[show({R with mv:=d,m:=i}:aV).sv=R.sv from rfl,h1] at c;simp[Value.ownBlock] at c;exact c.symm
     rw[<-v,a.y.ai] at h2;injection h2 with h2;injection h2 with _ h2;cases h2)
   ls:=a.y.ls
   sm:=a.y.sm
   tn:=(e1 _ (fun e=>n3 e.symm)).trans a.y.tn
   lt:=a.y.lt
   nm:=p
   nb:=a.y.nb
   ns:=a.y.ns}
def BF{l w R g f}(h:dh l w R g f){addr slot:yB}(i:addr∈R.seen)(hs:slot.size=0\/(slot.size=32/\slot∈R.seen)):Kf (R.arg l w g f) (bG R.m) R.m addr slot:=fun b h20=>by
 have b:R.de:=b
 have hi:=b.inj
 have e:=(h.k b).1
 have d:=Hd hi i (hs:=R.m) fun x a=>(e.each x a).1.addr
 have j:∀{m:List aH} {x:aH},dH m addr=some x->x∈m:=by
  intro m;induction m with
  |nil=>intro x h;cases h
  |cons y t ih=>
   intro x h;have h:(if y.addr=addr then some y else dH t addr)=some x:=h;split at h
   ·cases h;exact Uk ..
   ·exact Ul _ (ih h)
 unfold aY bT;cases hq:dH R.m addr with
 |none=>
  rw[d,hq];refine⟨rfl,rfl,Int.le_refl 0,fun h0=>⟨(hs.resolve_left h0).1,fun v c a=>?_⟩⟩;exact a.1 rfl
 |some x=>
  have a:=(e.each x (j hq)).1;rw[d,hq];exact⟨rfl,rfl,a.n.1,fun h0=>⟨(hs.resolve_left h0).1,fun v c o=>Mk hi a (hs.resolve_left h0).2 o⟩⟩
def By{a}{addr:yB}(h20:addr.size=20)(b:addr∈a):iz a (lz addr):=⟨h20,b,⟨Int.le_refl 0,show(0:Int)<_ by decide⟩,rfl,dz _,List.nodup_nil,(fun p c=>by cases c),fun _=>rfl⟩
def bA:List aH->Nat
 | []=>0
 |h::t=>1+h.az.length+bA t
def Rc(a b:List aH):bA (a++b)=bA a+bA b:=by
 induction a with
 |nil=>show bA b=0+bA b;omega
 |cons x t ih=>show 1+x.az.length+bA (t++b)=1+x.az.length+bA t+bA b;omega
def uv(a:List aH):a.length<=bA a:=by
 induction a with
 |nil=>exact Ug _
 |cons x t ih=>show t.length+1<=1+x.az.length+bA t;omega
def xv (a : ByteArray) : ∀ m : List aH, bA (dv m a) + (match dH m a with | some x => 1 + x.az.length | none => 0) ≤ bA m
  | [] => by show bA [] + 0 ≤ bA []; exact Nat.le_refl _
  | x :: t => by
    have ih := xv a t
    by_cases e : x.addr = a
    · have h1 : dv (x :: t) a = dv t a := by unfold dv; rw [List.filter_cons, if_neg]; rw [dV, decide_eq_true e]; decide
      have h2 : dH (x :: t) a = some x := by unfold dH; rw [if_pos e]
      rw [h1, h2]
      show bA (dv t a) + (1 + x.az.length) ≤ 1 + x.az.length + bA t
      have : bA (dv t a) ≤ bA t := by omega
      omega
    · have h1 : dv (x :: t) a = x :: dv t a := by unfold dv; rw [List.filter_cons, if_pos]; rw [dV, decide_eq_false e]; rfl
      have h2 : dH (x :: t) a = dH t a := by (conv => lhs; unfold dH); rw [if_neg e]
      rw [h1, h2]
      show 1 + x.az.length + bA (dv t a) + _ ≤ 1 + x.az.length + bA t
      omega
def Rb(m:List aH)(x:aH)(h:x.az.length<=(bT m x.addr).1.az.length+1):bA (dv m x.addr++[x])<=bA m+2:=by
 have h1:=xv x.addr m;rw[Rc];show _+(1+x.az.length+0)<=_;unfold bT at h;cases hf:dH m x.addr with
 |some y=>rw[hf] at h h1;simp only at h h1;omega
 |none=>rw[hf] at h h1;simp only[lz] at h h1;simp at h;omega
def RT(R:aV)(x:Nat):Prop:=Of R.sp x\/x=pr R.rb 0\/x=pr R.tt 0
structure kM(R R':aV):Prop where
 rb:R'.rb=R.rb
 sb:R'.sb=R.sb
 sp:R'.sp=R.sp
 tw:R'.tw=R.tw
 tt:R'.tt=R.tt
 base:R'.base=R.base
 seen:R'.seen=R.seen
 yes:R'.yes=false->R.yes=false
def kM.refl(R:aV):kM R R:=⟨rfl,rfl,rfl,rfl,rfl,rfl,rfl,id⟩
def kM.trans{R a b}(h:kM R a)(k:kM a b):kM R b:=⟨k.rb.trans h.rb,k.sb.trans h.sb,k.sp.trans h.sp,k.tw.trans h.tw,k.tt.trans h.tt,k.base.trans h.base,k.seen.trans h.seen,fun e=>h.yes (k.yes e)⟩
def RT.same{R a}(h:kM R a){x}(b:RT a x):RT R x:=by unfold RT at*;rw[h.sp,h.rb,h.tt] at b;exact b
def eY(l:Nat->Nat)(w:World)(R:aV)(b:Nat->Value)(a:List (yB×yB))(K:Nat)(w':World):Prop:=∃l' R',Mv (RT R) l l' w w'/\dh l' w' R' b a/\kM R R'/\R'.N<=R.N+K/\bA R'.m<=bA R.m+2
def dh.done{l w w' R c a P K K' g d}(h:dh l w R c a)(e:SC (R.arg l w c a) P K g d w')(j:K<=K')(f:∀X r,P X r->R.wk a X r):eY l w R c a K' w':=by
 let⟨l',i,m,b⟩:=h.after e f;exact⟨l',_,m.mono fun x b=>.inl b,b,⟨rfl,rfl,rfl,rfl,rfl,rfl,rfl,id⟩,by show R.N+K<=_;omega,by show bA R.m<=_;omega⟩
def OK{w:World}{base e b v n d}(h:w.ownsRow base e b v n d):∃a c,v=lV a n c:=by
 let⟨a,c,e,_⟩:=dM h;exact⟨a,c,e⟩
def pL(l:Nat->Nat)(w:World)(R:aV)(c:Nat->Value)(b:List (yB×yB))(K:Nat)(a:World):Prop:=∃l' R',Mv (RT R) l l' w a/\dh l' a R' c b/\kM R R'/\R'.N<=R.N+K/\bA R'.m<=bA R.m+2
def pL.asks{l w f R d c K}(h:pL l w R d c K f)(addr slot:yB)(j:addr.size<=1073741824)(o:slot.size<=1073741824)(g:addr∈R.seen)(n:slot.size=0\/(slot.size=32/\slot∈R.seen))(s:R.N+K+1000<4000000000):
 yC 50 #[pV (qA R.rb),sV addr,sV slot] f fun e w'=>e=rV (bV true)/\eY l w R d c (K+800) w':=by
 let⟨l',b,m,a,hs,t,p⟩:=h;have:=TG a.facts a.start addr slot j o (BF a (by rw[hs.seen];exact g) (by rw[hs.seen];exact n)) (by show b.N+0+1000<_;omega);rw[hs.rb] at this;refine this.mono ?_;rintro e w' ⟨k,i⟩;let⟨l3,r,m3,q⟩:=a.after i fun _ _ h=>h
 exact⟨k,l3,_,m.trans (m3.mono fun x a=>RT.same hs (.inl a)),q,⟨hs.rb,hs.sb,hs.sp,hs.tw,hs.tt,hs.base,hs.seen,hs.yes⟩,by show b.N+(0+800)<=_;omega,p⟩
structure lC(R:aV)(ps:List (yB×yB))(P:GP)(er want:Int)(x:aH):Prop where
 bad:want≠0->er=want/\∀X r,P X r->R.wk ps X r
 may:want=0->er≠0->¬R.de
 bB:want=0->er=0->(∀X r,P X r->R.de->Wd R.kn ps R.tw X (bG (ng R.m x)) gK)/\(R.de->iM R.seen (ng R.m x))
def vV{l w W R f d P K ts bx}(h:dh l w R f d)(Z:SC (R.arg l w f d) P K ts bx W)(B A:Int)(x:aH)(D:jK W x)(B7:∀g,x.sv.ownBlock=some g->(g<w.heap.size/\l g=0)\/∃o,(g,o)∈bx)(C:x.az.length<=(bT R.m x.addr).1.az.length+1)(hA:x.addr∈R.seen)(E:lC R d P B A x)(hN:R.N+K+2000<4000000000)(hm:bA R.m+2<1000000000):
 yC 96 #[pV (qA R.rb),i6 B,i6 A,iR x] W fun e w'=>e=rV (bV true)/\eY l w R f d (K+800) w':=by
 obtain⟨c,p,i,j,q,s,n⟩:=x;have v:=Z.box #[sV c,i6 p,sV i,sV j,lV q n.length s] 148;obtain⟨a,H⟩:=yX (W.alloc (.cells #[sV c,i6 p,sV i,sV j,lV q n.length s] 148))
 rw[<-H] at v;have F:yW W a:=by rw[H];exact(Un _ _).alloc (Ug _) _
 have B9:yH (A≠0->B=A/\eY l w R f d (K+800) a):=fun C=>⟨(E.bad C).1,h.done v (by omega) (E.bad C).2⟩
 have C0:yH (A=0->B≠0->yC 87 #[pV (qA R.rb)] a fun e w2=>e=rV (bV true)/\eY l w R f d (K+800) w2):=fun C he=>(h.may v).mono fun _ _ ⟨⟨b,h1,h3⟩,h2⟩=>⟨by rw[h1,h3 (E.may C he)],h.done h2 (by omega) fun _ _ _ I=>absurd I (E.may C he)⟩
 have Q:=h.cells v.drew;have O:=aa (Qz a.drew R.mv R.m _ Q.2.1 (by have:=h.y.nm;omega) D.len v.drew.bz);have A4:yH (A=0->B=0->∀e w2,BU a.drew R.m ⟨c,p,i,j,q,s,n⟩ e w2->∃(a':Option Addr) (z t:Nat),e=rV (lV a' z t)/\w2.cell? ⟨R.rb,2,none⟩=some R.mv/\w2.frozen? ⟨R.rb,2,none⟩=false/\jt w2 W.heap.size 148 (sV c) (i6 p) (sV i) (sV j) (lV q n.length s)/\W.heap.size≠R.rb/\yW a w2/\pL l w R f d K (w2.setCell ⟨R.rb,2,none⟩ (lV a' z t))/\((w2.setCell ⟨R.rb,2,none⟩ (lV a' z t)).cell? ⟨W.heap.size,0,none⟩=some (sV c))):=by
  rintro B5 B2 e w2 ⟨⟨v',M,rfl,U,A0⟩,hb⟩;have B1:M=dv R.m c\/M=dv R.m c++[⟨c,p,i,j,q,s,n⟩]:=by
   rw[A0];unfold ng;split
   ·exact .inl (UU _)
   ·exact .inr rfl
  obtain⟨a',t,rfl⟩:=OK U;obtain⟨l1,D1,m1,A1,C6⟩:=h.JG v.drew;have G:Below a.drew.heap.size a.drew w2:=hb;have D0:=Q.2.1;have C9:∀y∈M,jK a.drew y/\∀g,y.sv.ownBlock=some g->l1 g=0:=by
   have D3:∀y∈R.m,jK a.drew y/\∀g,y.sv.ownBlock=some g->l1 g=0:=fun y u=>⟨D0.2 y u,A1.y.lm.2 y u⟩
   have B4:∀y∈dv R.m c,jK a.drew y/\∀g,y.sv.ownBlock=some g->l1 g=0:=fun y u=>D3 y (List.mem_filter.1 u).1
   intro y u;rcases B1 with rfl|rfl
   ·exact B4 y u
   ·rcases UA.1 u with u|u
    ·exact B4 y u
    ·rw[Uo.1 u];refine⟨D.below ⟨F.os,F.tape,F.output,F.size,F.block⟩,fun g hg=>?_⟩;rcases B7 g hg with⟨g1,g2⟩|⟨o,U⟩
     ·exact(m1.bt g g1).trans g2
     ·exact C6 (g,o) (Ul _ U)
  have D5:bA M<=bA R.m+2:=by
   rcases B1 with rfl|rfl
   ·have:=xv c R.m;show bA (dv R.m c)<=_;omega
   ·exact Rb R.m ⟨c,p,i,j,q,s,n⟩ C
  have D7:=uv M;obtain⟨l2,m2,B6⟩:=A1.cQ G U C9 (by omega);have A7:yW a w2:=⟨G.os,G.tape,G.output,G.size,G.block⟩
  have D4:=h.y.jm;have D8:R.rb<W.heap.size:=by have:=Z.size;exact Us D4 this
  have D9:=F.size;have A5:jt w2 W.heap.size 148 (sV c) (i6 p) (sV i) (sV j) (lV q n.length s):=by
   have A8:a.heap[W.heap.size]? =some (.cells #[sV c,i6 p,sV i,sV j,lV q n.length s] 148 (0,0)):=v.at_;have D2:W.heap.size<a.heap.size:=(Um.1 A8).1;exact(A7.block _ D2).trans A8
  have C7:=A5.cells.1.1;have A9:w2.heap[R.rb]? =some (.cells #[pV (qA R.sb),pV (qA R.sp),R.mv,R.bv,R.sv,pV (qA R.tt)] 108 (0,0)):=(G.block _ (by show R.rb<a.heap.size;omega)).trans A1.y.ai;refine⟨a',_,t,rfl,?_,US w2 R.rb 2 _ _ A9,A5,by omega,A7,⟨l2,_,(m1.mono fun x D=>.inl D).trans (m2.mono fun x D=>.inr (.inl D)),⟨⟨B6.y,B6.x.ev fun X r hX I=>by have:=(E.bB B5 B2).1 X r hX I;rw[<-A0] at this;exact this⟩,fun I=>⟨by have:=(E.bB B5 B2).2 I;rw[<-A0] at this;exact this,(h.k I).2⟩⟩,⟨rfl,rfl,rfl,rfl,rfl,rfl,rfl,id⟩,Ug _,D5⟩,?_⟩
  ·rw[Ur w2 R.rb 2 _ _ _ A9];rfl
  ·rw[Uz (w:=w2) (UL _ _ _ _ (by show W.heap.size≠R.rb;omega))];exact C7
 have B8:yH (∀J,pL l w R f d K J->yC 50 #[pV (qA R.rb),sV c,sV ⟨#[]⟩] J fun e w'=>e=rV (bV true)/\eY l w R f d (K+800) w'):=fun J hm=>hm.asks c ⟨#[]⟩ D.addr (by decide) hA (.inl rfl) (by omega)
 obtain⟨⟨_,_,c2,_⟩,_⟩:=h.cells v;obtain⟨ma,mc,T⟩:=Q.2.1.form;have B0:jt a W.heap.size 148 (sV c) (i6 p) (sV i) (sV j) (lV q n.length s):=v.at_;obtain⟨⟨k0,k1,k2,k3,k4⟩,_⟩:=B0.cells;unfold iR aH.sv at O⊢;simp only at O⊢;rw[T] at O c2;have D6:=aa T;rw[T] at A4;clear h Z v Q D B7 C T B0 F E hA;generalize n.length=XL at*;generalize R.m.length=MN at*;by_cases V:A=0
 ·subst V;by_cases S:B=0
  ·subst S;have A3:=A4.o rfl rfl;have C5:=aa A3;clear A3;go_enter func96,ntmps96
   go_upto_region 5 with fail
   rw[<-H];clear H;go_cut [] (fun J=>yH (pL l w R f d K J)/\J.cell? ⟨W.heap.size,0,none⟩=some (sV c))
   case first=>
    go_region_with (go_at_call 129;refine O.m ?_;rintro e w2 ⟨hp,_⟩;obtain⟨a',z,t,rfl,q1,q2,q3,q4,q5,q6,q7⟩:=C5.o e w2 hp;obtain⟨⟨r0,r1,r2,r3,r4⟩,_⟩:=q3.cells;have C2:yH (pL l w R f d K (w2.setCell ⟨R.rb,2,none⟩ (lV a' z t))):=q6;have C3:yH ((w2.setCell ⟨R.rb,2,none⟩ (lV a' z t)).cell? ⟨W.heap.size,0,none⟩=some (sV c)):=q7;clear hp q3 q5 q6 q7)
    all_goals
     go_wp2
     go_meet
     exact⟨C2,C3.o⟩
   case rest=>
    obtain⟨HM,x0⟩:=hcut;go_wp2_with fail
    refine(B8.o _ HM.o).mono ?_;rintro e w5 ⟨rfl,L⟩;have Y:=aa L;clear L;go_wp2
    go_ret
    exact⟨rfl,Y.o⟩
  ·have C8:(B != 0)=true:=by simpa using S
   have A2:=C0.o rfl S;have C1:=aa A2;clear S A2;go_enter func96,ntmps96
   go_wp2_with fail
   rw[<-H];refine C1.m ?_;rintro e w5 ⟨rfl,L⟩;have Y:=aa L;clear L;go_wp2
   go_ret
   exact⟨rfl,Y.o⟩
 ·have C8:(A != 0)=true:=by simpa using V
  obtain⟨B3,A6⟩:=B9.o V;have h1:(B == A)=true:=by simpa using B3
  have C4:=aa A6;clear V B3 A6;go_enter func96,ntmps96
  go_wp2
  go_ret
  rw[<-H];exact⟨rfl,C4.o⟩
def Eo{l w W R d a K j i}(h:dh l w R d a)(D:SC (R.arg l w d a) (Wm (R.arg l w d a) (bG R.m)) K j i W)(addr:yB)(ha:addr.size<=1073741824)(o:Int)(A0:addr.size=20->o=0)(E:addr.size≠20->o=2)(x:addr∈R.seen)(hN:R.N+K+3000<4000000000)(hm:bA R.m+2<1000000000):
 yC 100 #[pV (qA R.rb),sV addr,i6 o] W fun e w'=>e=rV (bV true)/\eY l w R d a (K+1500) w':=by
 obtain⟨v,I⟩:=yX (Wm (R.arg l w d a) (bG R.m))
 obtain⟨p,C⟩:=yX (Wm (R.arg l w d a) (dO (bG R.m) addr true fun _=>lP))
 rw[<-I] at D;obtain⟨⟨_,_,c2,_⟩,H,_⟩:=h.cells D;obtain⟨ma,mc,Y⟩:=H.form;have B:=aa (D.find H h.y.nm addr);have A2:yH (∀W,SC (R.arg l w d a) v K j i W->yC 130 #[pV (qA R.sp),sV addr] W fun e w'=>(∃(b:Bool) (c:Nat),e=rV (tV #[bV b,i6 c])/\(addr.size≠20->b=false/\c=2)/\(addr.size=20->R.de->b=(bT R.m addr).2/\c=0))/\SC (R.arg l w d a) p (K+500) j i w'):=fun W s=>by
  rw[I] at s;rw[C];refine(MP s addr (by unfold maxLen;omega) (by show R.N+K+500<_;omega)).mono ?_;rintro e w' ⟨⟨b,c,h1,h2,h3,h4⟩,_⟩;refine⟨⟨b,c,h1,h2,fun h20 f=>?_⟩,h4⟩;obtain⟨e1,e2⟩:=h3 h20 f;exact⟨e1.trans (BF h x (slot:=⟨#[]⟩) (.inl rfl) f h20).2.1,e2⟩
 have A4:yH (∀W,¬R.de->SC (R.arg l w d a) p (K+500) j i W->yC 87 #[pV (qA R.rb)] W fun e w2=>e=rV (bV true)/\eY l w R d a (K+1500) w2):=fun W Z s=>(h.may s).mono fun _ _ ⟨⟨b,h1,h3⟩,h2⟩=>⟨by rw[h1,h3 Z],h.done h2 (by omega) fun _ _ _ f=>absurd f Z⟩
 have P:yH (∀W,SC (R.arg l w d a) p (K+500) j i W->yC 124 #[] W fun e w'=>e=rV (sV cZ)/\SC (R.arg l w d a) p (K+500) j i w'):=fun W s=>(Aq W s.bz).mono fun _ _ ⟨h1,h2⟩=>⟨h1,s.below h2⟩
 have A3:yH (∀(c:Nat) W,(addr.size≠20->c=2)->(addr.size=20->R.de->c=0)->SC (R.arg l w d a) p (K+500) j i W->yC 96 #[pV (qA R.rb),i6 c,i6 o,gV #[sV addr,i6 0,sV ⟨#[]⟩,sV cZ,lV none 0 0]] W fun e w'=>e=rV (bV true)/\eY l w R d a (K+1500) w'):=fun c W A6 A7 s=>(vV h s c o (lz addr) (Jw W ha) (fun g hg=>by simp[aH.sv,lz,Value.ownBlock] at hg) (by show 0<=_;omega) x (by
  have h20:o=0->addr.size=20:=fun e=>Vn fun q=>by have:=E q;omega
  have L:o≠0->addr.size≠20:=fun q e=>q (A0 e)
  refine⟨fun q=>⟨by rw[A6 (L q),E (L q)];rfl,fun X r n=>?_⟩,fun q1 q2 f=>q2 (by rw[A7 (h20 q1) f];rfl),fun q1 _=>⟨fun X r n f=>?_,fun f=>(h.k f).1.place (By (h20 q1) x)⟩⟩
  ·rw[C] at n;have n:R.de->Wd R.kn a R.tw X (dO (bG R.m) addr true fun _=>lP) gK:=n;unfold dO at n;rw[Ui (fun z=>L q z.1)] at n;exact n
  ·rw[C] at n;have n:R.de->Wd R.kn a R.tw X (dO (bG R.m) addr true fun _=>lP) gK:=n;unfold dO at n;rw[Uj ⟨h20 q1,rfl⟩] at n;rw[AE f.inj (h.k f).1 (By (h20 q1) x)];exact n f) (by omega) hm).mono fun _ _ ⟨h1,l',R',q1,q2,q3,q4,q5⟩=>⟨h1,l',R',q1,q2,q3,by omega,q5⟩
 have A1:yH (∀S K' W,SC (R.arg l w d a) S K' j i W->yc W R.rb 1 (pV (qA R.sp))):=fun S K' W s=>(h.cells s).1.2.1
 rw[Y] at c2 B;generalize (bT R.m addr).2=f at*;generalize (bT R.m addr).1=y at*;obtain⟨xa,xn,xb,xc,xp,xq,xl⟩:=y;unfold iR aH.sv at B;simp only at B;generalize xl.length=XL at*;generalize R.m.length=MN at*;generalize cZ=NC at*;clear h D H Y I C x;go_enter func100,ntmps100
 go_wp2_with fail
 refine B.m ?_;rintro e w1 ⟨rfl,T⟩;have Q:yH (SC (R.arg l w d a) v K j i (w1.alloc (.cells #[sV xa,i6 xn,sV xb,sV xc,lV xp XL xq] 148))):=T.below ((Un _ _).alloc (Ug _) _);have d1:=A1.o _ _ _ Q.o;clear T c2;go_wp2_with fail
 refine(A2.o _ Q.o).mono ?_;rintro e w3 ⟨⟨b,c,rfl,V,J⟩,U⟩;have M:=A3.o c;have O:yH (∀W,SC (R.arg l w d a) p (K+500) j i W->yC 96 #[pV (qA R.rb),i6 c,i6 o,gV #[sV addr,i6 0,sV ⟨#[]⟩,sV NC,lV none 0 0]] W fun e w'=>e=rV (bV true)/\eY l w R d a (K+1500) w'):=fun W=>M W (fun q=>(V q).2) (fun q f=>(J q f).2)
 have A5:yH (o=0->b≠f->¬R.de):=fun q1 q2 q3=>q2 (J (Vn fun q=>by have:=E q;omega) q3).1
 clear M V J A0 E;have F:=aa U;clear U d1;have A8:(o == 0)=false\/((o == 0)=true/\((c:Int) == 0)=false)\/((o == 0)=true/\((c:Int) == 0)=true):=by
  cases (o == 0)<;>cases ((c:Int) == 0)<;>simp
 rcases A8 with h1|⟨h1,h2⟩|⟨h1,h2⟩;case inr.inr=>cases b<;>cases f<;>(go_wp2_with fail;first
  | (refine(A4.o _ (A5.o (by simpa using h1) (by simp)) F.o).mono ?_;rintro e w5 ⟨rfl,t⟩;have u:yH (eY l w R d a (K+1500) w5):=t;clear t;go_wp2_with fail;go_ret;exact⟨rfl,u.o⟩)
  | (refine(P.o _ F.o).mono ?_;rintro e w4 ⟨rfl,A⟩;have G:yH (SC (R.arg l w d a) p (K+500) j i w4):=A;clear A;go_wp2_with fail;refine(O.o _ G.o).mono ?_;rintro e w5 ⟨rfl,t⟩;have u:yH (eY l w R d a (K+1500) w5):=t;clear t;go_wp2_with fail;go_ret;exact⟨rfl,u.o⟩))
 all_goals
  go_wp2_with fail
  refine(P.o _ F.o).mono ?_;rintro e w4 ⟨rfl,A⟩;have G:=aa A;clear A;go_wp2_with fail
  refine(O.o _ G.o).mono ?_;rintro e w5 ⟨rfl,t⟩;have u:=aa t;clear t;go_wp2
  go_ret
  exact⟨rfl,u.o⟩
def S9(n:Int)(D:Nat)(X:Int)(h0:0<=X)(h1:X<256)(a:0<=n->X=(D:Int))(wr:World):∃c:UInt8,Value.int .u8 X=iV .u8 (c.toNat:Int)/\yH (0<=n->c.toNat=D)/\wr=wr:=by
 refine⟨UInt8.ofNat X.toNat,?_,?_,rfl⟩
 ·have h2:X.toNat<256:=by omega
  rw[UInt8.toNat_ofNat_of_lt' h2];congr 1;omega
 ·show 0<=n->_;intro b;have h2:X.toNat<256:=by omega
  rw[UInt8.toNat_ofNat_of_lt' h2,a b];omega
def lB(n:Int)(k:Nat)(l:yL):Prop:=0<=n->bX l=n.toNat / 256 ^ (8 - k)/\(l≠[]->(l.getD 0 0).toNat≠0)
def lB.next{n:Int}{k l}(h:lB n k l)(f:k<8){c:UInt8}(b:0<=n->c.toNat=n.toNat / 256 ^ (7 - k) % 256)(h0:c.toNat≠0\/l≠[]):lB n (k+1) (l++[c]):=fun d=>by
 let⟨h1,h2⟩:=h d
 have b:=b d
 have e:n.toNat / 256 ^ (8 - k)=n.toNat / 256 ^ (7 - k) / 256:=by rw[Nat.div_div_eq_div_mul,<-Nat.pow_succ];congr 2;omega
 refine⟨?_,fun _=>?_⟩
 ·rw[zH,h1,e,b,show 8 - (k+1)=7 - k by omega];omega
 ·cases l with
  |nil=>show c.toNat≠0;exact h0.resolve_right fun q=>q rfl
  |cons a t=>exact h2 (by simp)
def lB.skip{n:Int}{k l}(h:lB n k l)(f:k<8){c:UInt8}(a:0<=n->c.toNat=n.toNat / 256 ^ (7 - k) % 256)(h0:c.toNat=0)(d:l=[]):lB n (k+1) l:=fun b=>by
 let⟨h1,h2⟩:=h b
 have a:=a b
 have e:n.toNat / 256 ^ (8 - k)=n.toNat / 256 ^ (7 - k) / 256:=by rw[Nat.div_div_eq_div_mul,<-Nat.pow_succ];congr 2;omega
 refine⟨?_,h2⟩
 subst d
 have h1:0=n.toNat / 256 ^ (8 - k):=h1
 rw[show 8 - (k+1)=7 - k by omega]
 show 0=_
 omega
def lB.done{n:Int}{l}(h:lB n 8 l)(b:0<=n)(a:l.length<=8):ae l=ae (bS 8 n.toNat):=by
 let⟨h1,h2⟩:=h b;have h3:=Bo 8 l a h2;rw[<-h3,show be l=bX l from rfl,h1];simp
def Sp{w:World}{base g cap n l}(h:w.ownsRow base 5 1 (lV (qA g) n cap) n (b9 l)):(convert 34 9 (lV (qA g) n cap)).run yP w=.ok (sV (ae l)) w:=by
 have a:l.length=n:=by have:=h.1;simpa [b9] using this
 have:=VA (P:=yP) w 34 5 underlying34 underlying5 g 0 n cap (l.map (fun c=>(c.toNat:Int))) (by simpa using a) (fun i hi=>by
  have:=fc h (g:=g) rfl i (iV .u8 (l[i].toNat:Int)) (by unfold b9;rw[UK,Uh (by omega)];rfl);rw[Vj,this,Up,UK,Uh (by omega)];rfl) 9 underlying9
 rw[this,oN]
def sU(m:List (yB×yB))(b:Bool):Prop:=cT (ct m)->b=false->cY (ct m)=ae bM->m=[]
def JZ(m:List (yB×yB))(e:Ending):Prop:=∃b:Bool,e=rV (bV b)/\sU m b
def Db{L}(h:cT L){i p}(a:L[i]? =some p):aL (L.take i) p.1 p.2=L.take (i+1):=by
 have d:=(Ux.1 a).1;have f:L[i]=p:=(Ux.1 a).2;unfold aL;have k:=(h.size p (UQ a)).2.1;rw[Ui (by omega),VF,a];congr 1;refine oV _ _ fun q g=>?_
 rw[dV,Uv];intro e;let⟨j,c,b⟩:=List.mem_iff_getElem.1 g;rw[UN] at c;rw[List.getElem_take] at b;have:=List.pairwise_iff_getElem.1 h.once j i (by simp;omega) (by simpa using d) (by omega);simp only[List.getElem_map] at this;rw[b,f] at this;exact this e
def yt{L t}(h:cT L)(a:fu L t)(g:L≠[]):t.some/\((ag (ae t.code)=ag ⟨#[128]⟩->ae t.code=⟨#[128]⟩)->cY L≠ae bM):=by
 have hs:t.some:=by
  cases t with
  |nil=>
   cases L with
   |nil=>exact absurd rfl g
   |cons p r=>
    have h1:=a.find (aD p.1) (b8 _);rw[Gf h (Uk ..)] at h1;have h2:=(h.size p (Uk ..)).2.1;have h3:p.2.data.toList=[]:=h1.symm;have h4:p.2.data.toList.length=p.2.size:=by simp
    rw[h3] at h4;simp at h4;omega
  | _=>trivial
 refine⟨hs,fun f e=>?_⟩;have c:=jV h 1;have d:=a.all.read hs;have e1:bQ t=bM:=by
  rw[(a.one c (fun _=>True)).root a.ok.aK c.ok.aK];have:=congrArg (fun b:yB=>b.data.toList) e;unfold cY at this;simpa [nC] using this
 rw[El a.ok.aK d] at e1;have e2:ag (ae t.code)=ag ⟨#[128]⟩:=by
  have:=congrArg ae e1;unfold bM at this;rw[mX,mX] at this;exact this
 have:=f e2;refine SF d ?_;have:=congrArg (fun b:yB=>b.data.toList) this;simpa [nC] using this
def QK(w v m)(y:eH w v m)(hn:m.length<4000000000)(A9:∀p∈m,p.1.size<=1073741824/\p.2.size<=1073741824)(T:aB w):
 yC 102 #[v] w fun e w'=>JZ m e/\yW w w':=by
 have h3:=T.size;obtain⟨a,cap,rfl⟩:=y.form;have C5:yH (yC 6 #[] w fun e w'=>e=rV (pV (qA w.heap.size))/\yH (gG 3 w' w.heap.size (fun _=>lV none 0 0) [])/\yH (yW w w')/\w.heap.size<w'.heap.size):=(tN 3 w).mono fun e w' ⟨h1,h2,h3⟩=>⟨h1,h2,h3,h2.eM _ (.inl rfl)⟩
 have B6:yH (∀W,yW w W->yC 7 #[] W fun e w'=>e=rV (sV (ae bM))/\yW W w'):=fun W o=>ph W (T.below o)
 have D0:yH (∀W,yW w W->yC 17 #[pV (qA w.heap.size),sV (ae bM)] W fun e w'=>∃b u,e=rV (tV #[pV (qA b),i6 0])/\W.heap.size<=b/\fF w' b (qA w.heap.size) u/\At w' .nil (fun x=>W.heap.size<=x/\x≠b) (pV u)/\yW W w'):=fun W o=>by
  have:=sL W (qA w.heap.size) bM (kE _) (T.below o);have e:bP bM=.nil:=by unfold bP;rw[Uj rfl]
  rw[e] at this;exact this
 have HA:yH (∀k (_:k<m.length),∃p q g,a=some ⟨g,0,none⟩/\(∀W,yW w W->yc W g (k*2) (sV p)/\yc W g (k*2+1) (sV q))/\p.size<=1073741824/\q.size<=1073741824/\m[k]? =some (p,q)):=fun k z=>by
  have s:m[k]? =some m[k]:=Uh z;obtain⟨g,e,_,c,d⟩:=y.at_ k _ s;obtain⟨s1,s2⟩:=A9 _ (Vc z);exact⟨_,_,g,e,fun W o=>⟨eg o c,eg o d⟩,s1,s2,s⟩
 have D6:yH (∀p W,p.size<=1073741824->yW w W->yC 16 #[sV p] W fun e w'=>(∃h:yB,e=rV (sV h)/\h.size=32/\h=ag p)/\yW W w'):=fun p W s o=>(ja p (by unfold maxLen;omega) W (T.below o)).mono fun _ _ ⟨h1,h2⟩=>⟨⟨_,h1,dz _,rfl⟩,h2⟩
 have B4:yH (∀q W,q.size<=1073741824->yW w W->yC 128 #[sV q] W fun e w'=>(∃h:yB,e=rV (sV h)/\h.size<=4096/\h=fg q)/\yW W w'):=fun q W Z o=>(Jc W q (by omega)).mono fun _ _ ⟨h1,h2⟩=>⟨⟨_,h1,RY _,rfl⟩,h2⟩
 have D3:yH (∀b W key value (i:Nat),(∃t,Own (fun x=>x<w.heap.size) W w.heap.size b t/\(cT (ct m)->fu ((ct m).take i) t))->(ct m)[i]? =some (key,value)->yW w W->key.size<=4096->value.size<=4096->yC 30 #[pV (qA b),sV key,sV value] W fun e w'=>(∃c,e=rV (i6 c))/\(∃t,Own (fun x=>x<w.heap.size) w' w.heap.size b t/\(cT (ct m)->fu ((ct m).take (i+1)) t))/\yW w w'):=fun b W key value i ⟨t,hO,A⟩ hi o z hv=>
  (hO.put (T.below o) key value (by unfold maxLen;omega) (by unfold maxLen;omega)).mono fun _ _ ⟨h1,h2,h3⟩=>⟨⟨_,h1⟩,⟨_,h2,fun y=>by
   have H:=y.size _ (UQ hi);rw[<-Db y hi];exact CG (A y) key value H.1 H.2.1 H.2.2⟩,o.trans (h3.below o.size)⟩
 have D2:yH (∀b W key,(∃t,Own (fun x=>x<w.heap.size) W w.heap.size b t/\(cT (ct m)->fu (ct m) t))->yW w W->key.size<=40->m≠[]->yC 22 #[pV (qA b),sV key] W fun e w'=>(∃(a:Option Addr) (c n:Nat) (i:Int),e=rV (tV #[lV a n c,i6 i])/\(0<n->∃g x,a=some ⟨g,0,none⟩/\yc w' g 0 (sV x)/\x.size<=4096/\sU m (bY [⟨#[128]⟩,x] 2))/\n<=81/\(n=0->sU m false))/\yW w w'):=fun b W key ⟨t,hO,A⟩ o z hne=>by
  have A7:ct m≠[]:=fun e=>hne (List.map_eq_nil_iff.1 e)
  have B0:cT (ct m)->aQ (ah []) t key=t.code::dS 80 (ay t (aD key) 0).1 (ay t (aD key) 0).2.1 (ay t (aD key) 0).2.2.1:=fun y=>by
   have hs:=(yt y (A y) A7).1;rw[p8 (A y).all z];show(if t.isNil=true then [] else dm t 0++_)=_;rw[Ui (by rw[(gM _).2 hs];simp)];unfold dm;rw[Uj (.inl rfl)];rfl
  have hK:aA t 0:=by obtain⟨S,vs,h1,_⟩:=hO;exact h1.ok
  obtain⟨f1,f2⟩:=wj (G:=ah []) hK key;refine(hO.prove (T.below o) key (by unfold maxLen;omega)).mono ?_;rintro e w' ⟨⟨u,he,D⟩,_,z⟩;obtain⟨a,c,hu,_,_,hf⟩:=dM D;subst hu;refine⟨⟨a,c,_,_,he,fun L=>?_,f1,fun h0 y=>?_⟩,o.trans (z.below o.size)⟩;rotate_left
  ·rw[B0 y] at h0;cases h0
  rcases hf with⟨_,h0,_⟩|⟨g,rfl⟩
  ·omega
  ·have Q:(aQ (ah []) t key)[0]? =some ((aQ (ah []) t key)[0]'L):=Uh L;refine⟨g,ae ((aQ (ah []) t key)[0]'L),rfl,fc D rfl 0 _ (by unfold kT;rw[UK,Q];rfl),?_,fun y F e=>?_⟩
   ·rw[aN];exact f2 _ (Vc L)
   ·have e0:(aQ (ah []) t key)[0]'L=t.code:=by
     have h9:(aQ (ah []) t key)[0]? =some t.code:=by rw[B0 y];rfl
     exact Option.some.inj (Q.symm.trans h9)
    rw[e0] at F;exact absurd e ((yt y (A y) A7).2 fun e2=>Bv F 1 0 (ae t.code) ⟨#[128]⟩ (by decide) (by decide) rfl rfl e2)
 have B3:yH (∀W u (l:List yB),yW w W->gQ W u l->l.length<=100->(∀p∈l,p.size<=4096)->yC 13 #[u] W fun e w'=>e=rV (bV (bY l l.length))/\yW W w'):=fun W u l o hu hl hs=>pk W u l hu (by omega) (fun p s=>by have:=hs p s;unfold maxLen;omega) (T.below o)
 have D5:yH (∀(i:Nat) p q,m[i]? =some (p,q)->(ct m)[i]? =some (ag p,fg q)):=fun i p q h=>by unfold ct;rw[UK,h];rfl
 have D8:yH ((ct m).take m.length=ct m):=by show _=_;rw[<-UM (f:=fun p:yB×yB=>(ag p.1,fg p.2))];exact VM
 have C4:yH (m.length≠0->m≠[]):=fun h e=>h (by rw[e];rfl)
 have B7:yH (m.length=0->sU m false):=fun h _ _ _=>UH.1 h
 clear y A9 T;generalize m.length=N at*;by_cases h0:N=0
 ·subst h0;go_enter func102,ntmps102
  go_wp2
  go_ret
  exact⟨⟨false,rfl,B7.o (by trivial)⟩,Un _ _⟩
 ·have E4:((N:Int) == 0)=false:=by simp;omega
  have C3:=aa (C4.o h0);clear h0;go_enter func102,ntmps102
  go_wp2_with fail
  refine C5.m ?_;rintro e w1 ⟨rfl,V,M,E3⟩;go_wp2_with fail
  refine(B6.o w1 M.o).mono ?_;rintro e w2 ⟨rfl,P⟩;have R:=aa (M.o.trans (P.mono M.o.size));have D1:yH (gG 3 w2 w.heap.size (fun _=>lV none 0 0) []):=V.o.kept fun k z=>P.block k (V.o.eM k z)
  have A8:w.heap.size<w2.heap.size:=by have:=P.size;omega
  clear P V;go_wp2_with fail
  refine(D0.o w2 R.o).mono ?_;rintro e w3 ⟨b,u,rfl,h1,h2,h4,X⟩;have B1:=aa (R.o.trans (X.mono R.o.size));have C6:yH (∃t,Own (fun x=>x<w.heap.size) w3 w.heap.size b t/\(cT (ct m)->fu ((ct m).take 0) t)):=⟨_,Fh h3 D1.o A8 h1 h2 h4 X,fun _=>vE⟩
  clear h1 h2 h4 X M E3 A8;go_wp2
  go_loopg [7,8] N (fun g kv r wr=>∃(i:Nat) (key:yB),g=N - i/\i<=N/\key.size<=32/\kv=sV key/\r=i6 i/\yH (∃t,Own (fun x=>x<w.heap.size) wr w.heap.size b t/\(cT (ct m)->fu ((ct m).take i) t))/\yH (yW w wr))
  case atStart=>exact⟨0,⟨#[]⟩,rfl,by omega,by decide,rfl,rfl,C6,B1⟩
  case round=>
   obtain⟨i,key,hg,hi,E6,rfl,rfl,HO,I⟩:=hrel;have HG:=aa hg;clear hg;by_cases E1:i<N
   ·obtain⟨p,q,g,rfl,F,s,Z,A6⟩:=HA.o i E1;have C2:=aa (D5.o i p q A6);clear A6;obtain⟨c0,c1⟩:=F wr I.o;have E0:(i:Int)<(N:Int):=by omega
    have B9:=aa F;have D7:=aa (D6.o p wr s I.o);have HQ:=aa Z;clear F s Z c1;go_wp2_with fail
    refine D7.m ?_;rintro e w4 ⟨⟨z,rfl,E5,A5⟩,E⟩;have C1:=aa A5;clear A5;have C:=aa (I.o.trans (E.mono I.o.size));have C7:yH (∃t,Own (fun x=>x<w.heap.size) w4 w.heap.size b t/\(cT (ct m)->fu ((ct m).take i) t)):=by obtain⟨t,D,A⟩:=HO.o;exact⟨t,D.below E,A⟩
    obtain⟨_,c1⟩:=B9.o w4 C.o;clear E c0;go_wp2_with fail
    refine(B4.o q _ HQ.o C.o).mono ?_;rintro e w5 ⟨⟨cq,rfl,D9,A2⟩,Y⟩;have B2:=aa A2;clear A2;have J:=aa (C.o.trans (Y.mono C.o.size));have C8:yH (∃t,Own (fun x=>x<w.heap.size) w5 w.heap.size b t/\(cT (ct m)->fu ((ct m).take i) t)):=by obtain⟨t,D,A⟩:=C7.o;exact⟨t,D.below Y,A⟩
    clear Y c1;go_wp2_with fail
    refine(D3.o b _ z cq i C8.o (by rw[C2.o,C1.o,B2.o]) J.o (by omega) D9).mono ?_;rintro e w6 ⟨⟨c6,rfl⟩,A0,K⟩;have C9:=aa A0;have U:=aa K;clear A0 K;go_wp2
    go_roundg (N - (i+1))
    case measure=>have:=HG.o;omega
    case rel=>exact⟨i+1,z,rfl,by omega,by omega,rfl,by go_num,C9,U⟩
   ·obtain rfl:i=N:=by omega
    have E0:¬(i:Int)<(i:Int):=by omega
    have D4:=aa (D2.o b wr key (by obtain⟨t,D,A⟩:=HO.o;rw[D8.o] at A;exact⟨t,D,A⟩) I.o (by omega) C3.o);go_wp2_with fail
    refine D4.m ?_;rintro e w4 ⟨⟨a4,c4,n4,i4,rfl,h4,E7,A3⟩,E⟩;have B8:=aa A3;clear A3;have C:=aa E;clear E;by_cases H:n4=0
    ·subst H;clear h4;go_wp2
     go_ret
     exact⟨⟨false,rfl,B8.o (by trivial)⟩,C.o⟩
    ·have E8:((n4:Int) == 0)=false:=by simp;omega
     have E9:(0:Int)<(n4:Int):=by omega
     obtain⟨g,x,rfl,cx,Q,A4⟩:=h4 (by omega);have C0:=aa A4;clear A4;obtain⟨B,O⟩:=yX (w4.alloc (.cells #[sV ⟨#[128]⟩,sV x] 9))
     have J:yH (yW w B):=by rw[O];exact C.o.alloc C.o.size _
     have A1:gQ B (lV (qA w4.heap.size) 2 2) [⟨#[128]⟩,x]:=by
      refine⟨_,2,rfl,.inr ⟨w4.heap.size,0,rfl,fun j p s=>?_⟩⟩;have E2:B.heap[w4.heap.size]? =some (.cells #[sV ⟨#[128]⟩,sV x] 9 (0,0)):=by rw[O];exact UG w4 _
      rw[Vj,Ur B w4.heap.size j _ _ _ E2];match j with
      | 0=>simp at s;subst s;rfl
      | 1=>simp at s;subst s;rfl
      |j+2=>simp at s
     have B5:yH (yC 13 #[lV (qA w4.heap.size) 2 2] B fun e w'=>e=rV (bV (bY [⟨#[128]⟩,x] 2))/\yW B w'):=B3.o B _ [⟨#[128]⟩,x] J.o A1 (by show 2<=100;decide) (fun p s=>by
      rcases UC.1 s with rfl|s
      ·decide
      ·rw[Uo.1 s];exact Q)
     generalize bY [⟨#[128]⟩,x] 2=CK at*;clear A1 h4 H;go_wp2_with fail
     rw[<-O];clear O;refine B5.m ?_;rintro e w6 ⟨rfl,K⟩;have U:=aa (J.o.trans (K.mono J.o.size));clear K;go_wp2
     go_ret
     exact⟨⟨CK,rfl,C0.o⟩,U.o⟩
def SC.fC{A P K c a w}(h:SC A P K c a w){g}(b:g<A.w.heap.size)(h0:A.l g=0):w.heap[g]? =A.w.heap[g]? :=by
 let⟨l',d,m,_⟩:=h;exact m.kept b h0 (mr _)
def SX.kn{l w c sb d D N e b}{k k':Kn}{P}(h:SX l w c sb d D N e b k P)(g:k'.B=k.B)(j:k'.ok->k.ok):SX l w c sb d D N e b k' P:=by
 let⟨q,n,p,f,X,h1,h2,a,i⟩:=h.st;exact⟨⟨q,n,p,f,X,h1,h2,⟨a.fB,a.o,a.tw,fun m=>by rw[g];exact a.iG (j m)⟩,i⟩,h.jw,h.ls,h.bz,h.l3,h.ne⟩
def dh.tF{l w R n j}(h:dh l w R n j):Mv (fun x=>x=pr R.tt 0) l l w (w.setCell ⟨R.tt,0,none⟩ (bV true))/\dh l (w.setCell ⟨R.tt,0,none⟩ (bV true)) {R with yes:=true} n j:=by
 let⟨n1,n2,n3,n4,n5⟩:=h.ne;have e1:∀k,k≠R.tt->(w.setCell ⟨R.tt,0,none⟩ (bV true)).heap[k]? =w.heap[k]? :=fun k d=>UL _ _ _ k d
 have e2:(w.setCell ⟨R.tt,0,none⟩ (bV true)).heap[R.tt]? =some (.cells #[bV true] 105 (0,0)):=by
  rw[U7 w R.tt 0 _ _ (0,0) _ h.y.tn,Vk w R.tt _ _ _ _ h.y.tn];rfl
 have q:(w.setCell ⟨R.tt,0,none⟩ (bV true)).heap.size=w.heap.size:=by simp
 have m:Mv (fun x=>x=pr R.tt 0) l l w (w.setCell ⟨R.tt,0,none⟩ (bV true)):=⟨rfl,rfl,rfl,by rw[q];exact Ug _,fun _ _=>rfl,fun k d o=>e1 k fun e=>o (by rw[e];exact h.y.lt)⟩
 have p0:=iu R.tt 0;have a:¬({R with yes:=true}:aV).de:=fun h=>by cases h.1
 refine⟨m,⟨⟨?_,((h.x.move m (fun e=>by omega) (fun e=>n5 (fS e).1.symm) fun b e=>n2 (fS e).1).kn (k':=({R with yes:=true}:aV).kn) rfl fun h=>absurd h a).ev fun _ _ _ h=>absurd h a⟩,fun h=>absurd h a⟩⟩;have i:=h.y.pm.mv h.y.lm m (fun e=>by omega);have f:=h.y.pb.mv h.y.lv m (fun e=>by omega);have p:pr R.rb 0≠pr R.tt 0:=fun e=>n3 (fS e).1
 exact⟨(e1 _ n3).trans h.y.ai,h.y.lb,i.1,i.2,f.1,f.2,cM h.y.sn fun g c=>m.kept (h.y.sn.lt g c).2 (h.y.ls g c) p,h.y.ls,h.y.sm,e2,h.y.lt,h.y.nm,h.y.nb,h.y.ns⟩
def eY.trans{l l1 w w1 w2 R a d c K b}(m:Mv (RT R) l l1 w w1)(hs:kM R a)(j:a.N<=R.N+K)(n:bA a.m<=bA R.m)(h:eY l1 w1 a d c b w2):eY l w R d c (K+b) w2:=by
 let⟨l2,e,m2,i,f,k,o⟩:=h;exact⟨l2,e,m.trans (m2.mono fun x g=>RT.same hs g),i,hs.trans f,by omega,by omega⟩
def eY.mono{l w w1 R b a K K'}(h:eY l w R b a K w1)(g:K<=K'):eY l w R b a K' w1:=by
 let⟨l2,c,m2,f,d,i,e⟩:=h;exact⟨l2,c,m2,f,d,by omega,e⟩
def eY.asks{l w c R b a K}(h:eY l w R b a K c)(addr slot:yB)(g:addr.size<=1073741824)(j:slot.size<=1073741824)(d:addr∈R.seen)(i:slot.size=0\/(slot.size=32/\slot∈R.seen))(f:R.N+K+1000<4000000000):
 yC 50 #[pV (qA R.rb),sV addr,sV slot] c fun e w'=>e=rV (bV true)/\eY l w R b a (K+800) w':=pL.asks h addr slot g j d i f
def za{A m K d a w}(h:SC A (Wm A m) K d a w)(addr:yB)(c:addr.size<=maxLen)(x:Int)(g:Rg x)(f:A.N+K+500<4000000000):
 yC 9 #[pV (qA A.sp),sV addr,i6 x] w fun e w'=>kN A addr (decide (0<=x)) (dO m addr (decide (0<=x)) fun b=>{b with n:=x.toNat}) (K+500) d a e w'/\True:=by
 by_cases h0:x<0
 ·rw[Uv (by omega),show dO m addr false (fun b=>{b with n:=x.toNat})=dO m addr false id by unfold dO;rw[Ui (fun h=>by cases h.2),Ui (fun h=>by cases h.2)]];exact MD h addr c x h0
 ·obtain⟨n,rfl⟩:∃n:Nat,x=n:=⟨x.toNat,by omega⟩
  let⟨_,h2⟩:=g;rw[Uw (by omega)];exact MC h addr c n (by omega) f
def Ij{l w R f e}(h:dh l w R f e)(b:R.de){s:yB}(h20:s.size=20)(a:s∈R.seen):iz R.seen (bT R.m s).1/\dU (bT R.m s).1=aY (bG R.m) (ag s):=by
 refine⟨?_,(BF h a (slot:=⟨#[]⟩) (.inl rfl) b h20).1.symm⟩;have d:=(h.k b).1;have c:∀{m:List aH} {x:aH},dH m s=some x->x∈m:=by
  intro m;induction m with
  |nil=>intro x h;cases h
  |cons y t ih=>
   intro x h;have h:(if y.addr=s then some y else dH t s)=some x:=h;split at h
   ·cases h;exact Uk ..
   ·exact Ul _ (ih h)
 unfold bT;cases hq:dH R.m s with
 |none=>exact By h20 a
 |some x=>exact(d.each x (c hq)).1
def rT{l:Nat->Nat}{w:World}{R:aV}{j:Nat->Value}{g:List (yB×yB)}(h:dh l w R j g){s:yB}{a:Bool}{f:Ac->Ac}{c:Nat}{e:Int}{x:aH}(hs:x.addr=s)(q1:s.size≠20->c=2)(q2:s.size=20->a=false->c=3)(q3:s.size=20->a=true->R.de->c=0)(w1:s.size≠20->e=2)(w2:s.size=20->a=false->e=3)(w3:s.size=20->a=true->e=0)(i:s.size=20->a=true->R.de->iz R.seen x/\dU x=f (aY (bG R.m) (ag s))):lC R g (Wm (R.arg l w j g) (dO (bG R.m) s a f)) c e x:=by
 have n:(s.size=20/\a=true/\e=0)\/(¬(s.size=20/\a=true)/\e≠0/\(c:Int)=e):=by
  by_cases h20:s.size=20
  ·cases a with
   |true=>exact .inl ⟨h20,rfl,w3 h20 rfl⟩
   |false=>exact .inr ⟨(fun q=>by cases q.2),by rw[w2 h20 rfl];decide,by rw[q2 h20 rfl,w2 h20 rfl];rfl⟩
  ·exact .inr ⟨fun q=>h20 q.1,by rw[w1 h20];decide,by rw[q1 h20,w1 h20];rfl⟩
 rcases n with⟨a1,a2,a3⟩|⟨a1,a2,a3⟩
 ·refine⟨fun q=>absurd a3 q,fun _ q d=>q (by rw[q3 a1 a2 d];rfl),fun _ _=>⟨fun X r b d=>?_,fun d=>(h.k d).1.place (i a1 a2 d).1⟩⟩;have b:R.de->Wd R.kn g R.tw X (dO (bG R.m) s a f) gK:=b;unfold dO at b;rw[Uj ⟨a1,a2⟩] at b;let⟨o1,o2⟩:=i a1 a2 d;rw[AE d.inj (h.k d).1 o1,hs,o2];exact b d
 ·refine⟨fun _=>⟨a3,fun X r b=>?_⟩,fun q=>absurd q a2,fun q=>absurd q a2⟩;have b:R.de->Wd R.kn g R.tw X (dO (bG R.m) s a f) gK:=b;unfold dO at b;rw[Ui a1] at b;exact b
def SC.mh{A P K c n t x0 x1 x2 x3 x4 a w}(h:SC A P K c ((n,.cells #[x0,x1,x2,x3,x4] t (0,0))::a) w)(d:∀b∈a,b.1≠n)(y)(i:Nat):SC A P K c ((n,.cells ((#[x0,x1,x2,x3,x4]:Array Value).setIfInBounds i y) t (0,0))::a) (w.setCell ⟨n,i,none⟩ y):=by
 refine h.wrote d rfl rfl rfl (by simp) (fun k e=>UL _ _ _ k e) ?_;have e0:=h.at_;rw[U7 w n i _ _ (0,0) _ e0,Vk w n _ _ _ _ e0]
def sY(W:World)(n:Nat)(t:TypeId)(x0 x1 x2 x3 x4 x5:Value):Prop:=W.heap[n]? =some (.cells #[x0,x1,x2,x3,x4,x5] t (0,0))
def sY.cells{W n t x0 x1 x2 x3 x4 x5}(h:sY W n t x0 x1 x2 x3 x4 x5):W.cell? ⟨n,0,none⟩=some x0/\W.cell? ⟨n,1,none⟩=some x1/\W.cell? ⟨n,2,none⟩=some x2/\W.cell? ⟨n,3,none⟩=some x3/\W.cell? ⟨n,4,none⟩=some x4/\W.cell? ⟨n,5,none⟩=some x5:=by
 refine⟨?_,?_,?_,?_,?_,?_⟩
 ·rw[Ur W n 0 _ _ _ h];rfl
 ·rw[Ur W n 1 _ _ _ h];rfl
 ·rw[Ur W n 2 _ _ _ h];rfl
 ·rw[Ur W n 3 _ _ _ h];rfl
 ·rw[Ur W n 4 _ _ _ h];rfl
 ·rw[Ur W n 5 _ _ _ h];rfl
def dE(base:Nat)(w:World)(v:Value)(q:List yB):Prop:=∃a cap,v=lV a q.length cap/\q.length<=cap/\((a=none/\cap=0)\/∃g o,a=some ⟨g,o,none⟩/\base<=g/\g<w.heap.size/\∀i p,q[i]? =some p->w.cell? ⟨g,o+i,none⟩=some (sV p))
def dE.texts{base w v q}(h:dE base w v q):gQ w v q:=by
 obtain⟨a,cap,rfl,b,h|⟨g,o,h1,_,_,h4⟩⟩:=h
 ·exact⟨a,cap,rfl,.inl (UH.1 (by omega))⟩
 ·exact⟨a,cap,rfl,.inr ⟨g,o,h1,h4⟩⟩
def dE.below{base w w' v q}(h:dE base w v q)(b:yW w w'):dE base w' v q:=by
 obtain⟨a,cap,rfl,c,h|⟨g,o,h1,h2,h3,h4⟩⟩:=h
 ·exact⟨a,cap,rfl,c,.inl h⟩
 ·exact⟨a,cap,rfl,c,.inr ⟨g,o,h1,h2,Us h3 b.size,fun i p d=>eg b (h4 i p d)⟩⟩
def nS{w:World}{base v}{l:List yB}(h:w.ownsRow base 9 1 v l.length (l.map Value.string)):dE base w v l:=by
 obtain⟨a,cap,rfl,b,_,f⟩:=dM h;refine⟨a,cap,rfl,b,?_⟩;rcases f with⟨h1,h0,h2⟩|⟨g,rfl⟩
 ·exact .inl ⟨h1,h2⟩
 ·exact .inr ⟨g,0,rfl,(h.lt g rfl).1,(h.lt g rfl).2,fun i p c=>by
   rw[Vj];exact fc h rfl i _ (by rw[UK,c];rfl)⟩
def MW{w:World}{g base}{cs:List yB}(h:w.heap[g]? =some (.cells (cs.map Value.string).toArray 9 (0,0)))(a:base<=g)(b:cs.length<=maxLen):w.ownsRow base 9 1 (lV (qA g) cs.length cs.length) cs.length (cs.map Value.string):=
 ⟨by simp,.inr ⟨g,cs.length,_,rfl,a,h,Ug _,b,by simp,by rw[Nat.mul_one];exact U4 (by simp)⟩⟩
def Me(n:Nat)(z)(cs:List Value)(h:cs.length=n):splice (List.replicate n z) 0 cs=cs:=by
 subst h;simp[splice]
def GX:(yP.info? 9).map (·.size)=some 1:=by
 let⟨i,hi,_,h,_⟩:=Vp oo;rw[hi];exact congrArg some h
def R4{w:World}{base g cap i}{cs:List yB}(h:w.ownsRow base 9 1 (lV (qA g) cs.length cap) cs.length (cs.map Value.string))(hi:i<cs.length):dE base w (lV (some ⟨g,i,none⟩) (cs.length - i) (cap - i)) (cs.drop i):=by
 let⟨_,_,e,b,_,_⟩:=dM h;cases e
 refine⟨_,_,by rw[Uu],by rw[Uu];omega,.inr ⟨g,i,rfl,(h.lt g rfl).1,(h.lt g rfl).2,fun j p a=>?_⟩⟩;rw[VE] at a;exact fc h rfl _ _ (by rw[UK,a];rfl)
def LH{w:World}{base g cap i}{cs:List yB}(h:w.ownsRow base 9 1 (lV (qA g) cs.length cap) cs.length (cs.map Value.string))(hi:i<cs.length):dE base w (lV (qA g) i cap) (cs.take i):=by
 let⟨_,_,e,c,_,_⟩:=dM h;cases e
 have b:(cs.take i).length=i:=by rw[UN];omega
 refine⟨_,_,by rw[b],by rw[b];omega,.inr ⟨g,0,rfl,(h.lt g rfl).1,(h.lt g rfl).2,fun j p a=>?_⟩⟩;rw[Vv] at a;split at a
 ·rw[Vj];exact fc h rfl _ _ (by rw[UK,a];rfl)
 ·cases a
def vR{w:World}{base g cap i}{cs:List yB}(h:w.ownsRow base 9 1 (lV (qA g) cs.length cap) cs.length (cs.map Value.string))(t):(w.setCell ⟨g,i,none⟩ (sV t)).ownsRow base 9 1 (lV (qA g) (cs.set i t).length cap) (cs.set i t).length ((cs.set i t).map Value.string):=by
 have:=tS h (g:=g) rfl i (sV t);rw[Vh,List.map_set];exact this
def wR{cs:List yB}{i t c}(h:c∈cs.set i t):c=t\/c∈cs:=by
 rcases List.mem_or_eq_of_mem_set h with h|h
 ·exact .inr h
 ·exact .inl h
def Qa(z)(n:Nat):madeCells #[z] n=(List.replicate n z).toArray:=by
 apply Array.ext';apply VQ;intro j;by_cases a:j<n
 ·simp[madeCells,a,Nat.mod_one]
 ·simp[madeCells,a]
def zC{w W:World}{base t a n v b}(h:w.ownsRow base t a v n b)(c:yW w W):W.ownsRow base t a v n b:=cM h fun g d=>c.block g (h.lt g d).2
def Tb(x:Int)(h:∃y,x=IntKind.u8.wrap y):∃c:UInt8,x=(c.toNat:Int):=by
 obtain⟨y,rfl⟩:=h;refine⟨UInt8.ofNat (y % 256).toNat,?_⟩;have h1:(y % 256).toNat<256:=by omega
 rw[VI,UInt8.toNat_ofNat_of_lt' h1];omega
def Kp(c:UInt8):wrap64 (c.toNat:Int)=(c.toNat:Int):=by
 have:=c.toNat_lt;unfold wrap64;omega
def mQ(w:World)(e:Ending)(w':World):Prop:=∃v q,e=rV v/\dE w.heap.size w' v q/\q.length<=91/\(∀c∈q,c.size<=1073741824)/\yW w w'
def xL{b w w'}(h:Below b w w')(g i:Nat)(v)(c:b<=g):Below b w (w'.setCell ⟨g,i,none⟩ v):=
 ⟨h.os,h.tape,h.output,by simpa using h.size,fun k a=>by rw[UL _ _ _ k (by show k≠g;omega)];exact h.block k a⟩
def QL(w a)(cap:Nat)(cs:List yB)(hp:gQ w (lV a cs.length cap) cs)(z at_:Int)(hh:0<=z/\z<6)(E4:Rg at_)(t:yB)(ht:t.size<=1073741824)(hn:cs.length<=90)(hz:∀c∈cs,c.size<=4096):
 yC 85 #[lV a cs.length cap,i6 z,i6 at_,sV t] w (mQ w):=by
 have C5:0<(cs.map Value.string).length->∃F,a=some F/\∀W,yW w W->∀j v,(cs.map Value.string)[j]? =some v->W.cell? (F.add j)=some v:=fun h0=>by
  obtain⟨a',F1,e,hp⟩:=hp;cases e
  rcases hp with rfl|⟨g,o,rfl,l⟩
  ·simp at h0
  ·refine⟨_,rfl,fun W H j v q=>?_⟩;have E3:(⟨g,o,none⟩:Addr).add j=⟨g,o+j,none⟩:=by unfold Addr.add;split<;>simp_all
   rw[UK] at q;cases M:cs[j]? with
   |none=>rw[M] at q;cases q
   |some c=>
    rw[M] at q;injection q with q;rw[E3,<-q];exact eg H (l j c M)
 have D4:=aa C5;obtain⟨N,R⟩:=yX cs.length
 obtain⟨i0,C2,C6,C7,C8⟩:=Vp oo;have E8:=run_make_row' (P:=yP) 40 9 (sV ⟨#[]⟩) 16 underlying40 oo rfl .i64 .i64 N (by omega) (by omega) w;have A3:yH ((w.alloc (.cells (madeCells #[Value.string ⟨#[]⟩] N) 9)).heap[w.heap.size]? =some (.cells (List.replicate N (Value.string ⟨#[]⟩)).toArray 9 (0,0))):=by
  show _=_;rw[UG,Qa]
 have A1:yH (yW w (w.alloc (.cells (madeCells #[Value.string ⟨#[]⟩] N) 9))):=(Un _ _).alloc (Ug _) _;rw[<-R];generalize w.alloc (.cells (madeCells #[Value.string ⟨#[]⟩] N) 9)=W0 at*;have D2:yH (∀W,0<N->yC 40 #[i6 at_,i6 N] W fun e w'=>e=rV (i6 (bW at_ N))/\w'=W):=fun W h0=>qq at_ N E4 h0 (by omega) W
 have A9:0<N->bW at_ N<N:=ky at_ N;have F0:yH (splice (List.replicate N (Value.string ⟨#[]⟩)) 0 (cs.map Value.string)=cs.map Value.string):=Me N _ _ (by rw[UM];exact R.symm);have O:yH ((cs.map Value.string).length=N):=by show _=_;rw[UM];exact R.symm
 have A:=aa hz;have f:=aa R;have F8:N<=90:=by omega
 clear hp C5 hn hz R;generalize bW at_ N=I at*;obtain⟨w1,E6,B6,A5⟩:∃w1,(Builtin.copy_ #[40,40] 3 #[lV (qA w.heap.size) N N,lV a N cap]).run yP W0=.ok (i6 (N:Int)) w1/\w1.heap[w.heap.size]? =some (.cells (cs.map Value.string).toArray 9 (0,0))/\yW w w1:=by
  by_cases S:N=0
  ·refine⟨W0,?_,?_,A1.o⟩
   ·have:=run_copy_none (P:=yP) W0 40 40 3 9 (qA w.heap.size) a N N N cap underlying40 GX (by rw[S];rfl);rw[S] at this⊢;exact this
   ·have:=A3.o;have C0:=O.o;rw[S] at this C0;rw[UH.1 C0];exact this
  ·obtain⟨F,rfl,E9⟩:=D4.o (by rw[O.o];omega);have:=run_copy_row (P:=yP) W0 40 40 3 9 w.heap.size 0 N N F N cap (List.replicate N (Value.string ⟨#[]⟩)).toArray 9 (cs.map Value.string) underlying40 GX A3.o (by rw[O.o];exact(Nat.min_self N).symm) (E9 W0 A1.o) (by rw[O.o];simp) (fun v q=>by obtain⟨c,_,rfl⟩:=UO.1 q;rfl);refine⟨_,by rw[this,O.o];rfl,?_,below_setRow A1.o (Ug _) _⟩;rw[Vk W0 w.heap.size _ _ _ _ A3.o];have e:List.take 0 (List.replicate N (Value.string ⟨#[]⟩)).toArray.toList++cs.map Value.string++List.drop (0+N) (List.replicate N (Value.string ⟨#[]⟩)).toArray.toList=cs.map Value.string:=by simp
   rw[e]
 go_enter func85,ntmps85
 have B0:=MW (base:=w.heap.size) (cs:=cs) (g:=w.heap.size) (w:=w1) B6 (by omega) (by have:=f.o;unfold maxLen;omega);rw[<-f.o] at B0;have p:=aa B0;have B:=aa A5;have A0:=A5.size;have B2:yH (∀(w2:World) (g2 s:Nat),w2.ownsRow w.heap.size 9 1 (lV (qA g2) (N+1) s) (N+1) (cs.map Value.string++[sV t])->yW w w2->mQ w (rV (lV (qA g2) (N+1) s)) w2):=fun w2 g2 s ho hb=>by
  refine⟨_,cs++[t],rfl,nS (by rw[Uq,Vl,<-f.o];exact ho),by rw[Uq,<-f.o];simp;omega,fun c l=>?_,hb⟩;rcases UA.1 l with l|l
  ·have:=A.o c l;omega
  ·rw[Uo.1 l];exact ht
 clear B6 A5 B0;by_cases h0:z=0
 ·subst h0;go_wp2_with (at_builtin;refine U0 _ rfl (.tmp 30) (.tmp 32) 40 rfl w.heap.size 9 i0 (sV ⟨#[]⟩) 1 16 underlying40 C2 C6 C7 C8 rfl (by decide) _ N (cs.map Value.string) rfl (p.o.alloc _) ⟨w1.heap.size,0,none⟩ 1 1 [sV t] rfl rfl (Vx _ _ _) ?fa2 (by omega) ?fa3 ?fa4 ?fa5 _ rfl ?fa6)
  case fa2=>first|rfl| (intro v q;simp at q;subst q;rfl)
  case fa3=>unfold maxLen;omega
  case fa4=>omega
  case fa5=>first|omega| (simp;omega)
  intro g2 s w2 U T A6 A8;have m:yH (mQ w (rV (lV (qA g2) (N+1) s)) w2):=B2.o w2 g2 s U ((B.o.alloc A0 _).grown T (by simp;omega) (fun k hk=>(p.o.lt k hk).1));clear U T A6 A8;go_wp2
  go_ret
  exact m.o
 ·have F4:(z == 0)=false:=by simpa using h0
  by_cases S:N=0
  ·have E1:((N:Int) == 0)=true:=by simp;omega
   clear S;go_wp2_with (at_builtin;refine U0 _ rfl (.tmp 30) (.tmp 32) 40 rfl w.heap.size 9 i0 (sV ⟨#[]⟩) 1 16 underlying40 C2 C6 C7 C8 rfl (by decide) _ N (cs.map Value.string) rfl (p.o.alloc _) ⟨w1.heap.size,0,none⟩ 1 1 [sV t] rfl rfl (Vx _ _ _) ?fb2 (by omega) ?fb3 ?fb4 ?fb5 _ rfl ?fb6)
   case fb2=>first|rfl| (intro v q;simp at q;subst q;rfl)
   case fb3=>unfold maxLen;omega
   case fb4=>omega
   case fb5=>first|omega| (simp;omega)
   intro g2 s w2 U T A6 A8;have m:yH (mQ w (rV (lV (qA g2) (N+1) s)) w2):=B2.o w2 g2 s U ((B.o.alloc A0 _).grown T (by simp;omega) (fun k hk=>(p.o.lt k hk).1));clear U T A6 A8;go_wp2
   go_ret
   exact m.o
  ·have E1:((N:Int) == 0)=false:=by simp;omega
   have G2:(I:Int)<(N:Int):=by have:=A9 (by omega);omega
   have D7:=A9 (by omega);have D:I<cs.length:=by rw[<-f.o];exact D7
   have B9:cs[I]? =some (cs[I]'D):=Uh D;have ci:=fc p.o (g:=w.heap.size) rfl I (sV (cs[I]'D)) (by rw[UK,B9];rfl);have fi:=kZ p.o (g:=w.heap.size) rfl I;have C:=aa (D2.o w1 (by omega));have B4:yH (∀(j:Nat) (c:yB),c.size<=1073741824->mQ w (rV (lV (qA w.heap.size) N N)) (w1.setCell ⟨w.heap.size,j,none⟩ (sV c))):=fun j c l=>by
    have n:=p.o;rw[f.o] at n;have:=vR (i:=j) n c;refine⟨_,cs.set j c,rfl,nS (by rw[Vh] at this⊢;rw[f.o];exact this),by rw[Vh,<-f.o];omega,fun d u=>?_,xL B.o _ _ _ (Ug _)⟩;rcases wR u with rfl|u
    ·exact l
    ·have:=A.o d u;omega
   have L:yH ((cs[I]'D).size<=1073741824):=by have:=A.o _ (Vc D);show _<=_;omega
   have B5:yH (∀(i j:Nat) (c d:yB),c.size<=1073741824->d.size<=1073741824->mQ w (rV (lV (qA w.heap.size) N N)) ((w1.setCell ⟨w.heap.size,i,none⟩ (sV d)).setCell ⟨w.heap.size,j,none⟩ (sV c))):=fun i j c d l u=>by
    have n:=p.o;rw[f.o] at n;have h1:=vR (i:=i) n d;have h2:=vR (i:=j) h1 c;refine⟨_,(cs.set i d).set j c,rfl,nS (by rw[Vh,Vh] at h2⊢;rw[f.o];exact h2),by rw[Vh,Vh,<-f.o];omega,fun x V=>?_,xL (xL B.o _ _ _ (Ug _)) _ _ _ (Ug _)⟩;rcases wR V with rfl|V
    ·exact l
    ·rcases wR V with rfl|V
     ·exact u
     ·have:=A.o x V;omega
   generalize cs[I]'D=CI at*;clear B9;have E5:z=1\/z=2\/z=3\/z=4\/z=5:=by omega
   rcases E5 with rfl|rfl|rfl|rfl|rfl
   ·have m:=aa (B4.o I t ht);go_wp2_with fail
    refine C.m ?_;rintro e E ⟨rfl,r⟩;subst r;go_wp2
    go_ret
    exact m.o
   ·have m:yH (mQ w (rV (lV (qA w.heap.size) I N)) w1):=by
     have n:=p.o;rw[f.o] at n⊢;exact⟨_,cs.take I,rfl,LH n D,by rw[UN];omega,fun c l=>by have:=A.o c (List.mem_of_mem_take l);omega,B.o⟩
    go_wp2_with fail
    refine C.m ?_;rintro e E ⟨rfl,r⟩;subst r;go_wp2
    go_ret
    exact m.o
   ·obtain⟨J,hJ⟩:=yX ((I+1) % N)
    have D8:J<N:=by rw[hJ];exact Nat.mod_lt _ (by omega)
    have eJ:((I:Int)+1) % (N:Int)=(J:Int):=by rw[hJ,Int.natCast_emod];rfl
    have eT:((I:Int)+1).tmod (N:Int)=(J:Int):=by rw[Int.tmod_eq_emod_of_nonneg (by omega)];exact eJ
    have F6:(J:Int)<(N:Int):=by omega
    have G:J<cs.length:=by rw[<-f.o];exact D8
    have M:cs[J]? =some (cs[J]'G):=Uh G;have cj:=fc p.o (g:=w.heap.size) rfl J (sV (cs[J]'G)) (by rw[UK,M];rfl);have fj:=kZ p.o (g:=w.heap.size) rfl J;have m:yH (mQ w (rV (lV (qA w.heap.size) N N)) ((w1.setCell ⟨w.heap.size,I,none⟩ (sV (cs[J]'G))).setCell ⟨w.heap.size,J,none⟩ (sV CI))):=B5.o I J CI (cs[J]'G) L.o (by have:=A.o _ (Vc G);omega);clear hJ M;by_cases B7:J=I
    ·subst B7;have D0:=aa (B5.o J J CI CI L.o L.o);have D1:=aa (B4.o J CI L.o);clear cj fj;go_wp2_with fail
     refine C.m ?_;rintro e E ⟨rfl,r⟩;subst r;go_wp2
     go_ret
     first|exact D0.o|exact D1.o
    ·have F5:I≠J:=fun e=>B7 e.symm
     generalize cs[J]'G=CJ at*;go_wp2_with fail
     refine C.m ?_;rintro e E ⟨rfl,r⟩;subst r;go_wp2
     go_ret
     exact m.o
   ·obtain⟨s,w2,C1,B1,A7,G3⟩:=St w1 CI (by have:=L.o;unfold maxLen;omega);have A4:=aa B1;have A2:=aa A7;have D5:=eg A7 ci;have G0:CI.size<=s:=by obtain⟨_,_,_,_,_,h,_⟩:=B1;exact h
    have D3:yH (∀(W:World) (j:Nat) (c:yB),yW w1 W->c.size<=1073741824->mQ w (rV (lV (qA w.heap.size) N N)) (W.setCell ⟨w.heap.size,j,none⟩ (sV c))):=fun W j c H l=>by
     have n:=zC p.o H;rw[f.o] at n;have:=vR (i:=j) n c;refine⟨_,cs.set j c,rfl,nS (by rw[Vh] at this⊢;rw[f.o];exact this),by rw[Vh,<-f.o];omega,fun d u=>?_,xL (B.o.trans (H.mono A0)) _ _ _ (Ug _)⟩;rcases wR u with rfl|u
     ·exact l
     ·have:=A.o d u;omega
    have B3:yH (∀W,yW w1 W->mQ w (rV (lV (qA w.heap.size) N N)) W):=fun W H=>by
     have n:=zC p.o H;rw[f.o] at n;refine⟨_,cs,rfl,nS (by rw[f.o];exact n),by rw[<-f.o];omega,fun d u=>?_,B.o.trans (H.mono A0)⟩;have:=A.o d u;omega
    clear B1 A7;have E7:=L.o;by_cases hC:0<CI.size
    ·have D6:(0:Int)<(CI.size:Int):=by omega
     by_cases Y:0<t.size
     ·have E2:(0:Int)<(t.size:Int):=by omega
      obtain⟨K,Q⟩:∃K:Nat,((t[0]'Y).toNat:Int).tmod (CI.size:Int)=(K:Int)/\K<CI.size:=⟨(t[0]'Y).toNat % CI.size,by rw[Int.tmod_eq_emod_of_nonneg (by omega)];omega,Nat.mod_lt _ hC⟩
      obtain⟨Q,D9⟩:=Q;have E0:((t[0]'Y).toNat:Int) % (CI.size:Int)=(K:Int):=by rw[<-Q,Int.tmod_eq_emod_of_nonneg (by omega)]
      have F7:(K:Int)<(CI.size:Int):=by omega
      obtain⟨b,hb⟩:∃b:UInt8,CI.data.toList[K]? =some b:=⟨_,Uh (by simpa using D9)⟩
      have ck:yc w2 w1.heap.size K (iV .u8 (b.toNat:Int)):=by
       have h:=A4.o.cell K (iV .u8 (b.toNat:Int)) (by unfold b9;rw[UK,hb];rfl);rw[JJ] at h;exact h
      have fk:=A4.o.free K (by omega);go_wp2_with fail
      refine C.m ?_;rintro e y ⟨rfl,r⟩;subst r;go_upto_region 21 with fail
      have B8:(wrap64 ((t[0]'Y).toNat:Int)).tmod (CI.size:Int)=(K:Int):=by rw[Kp,Q]
      rw[B8];clear B8 Q E0;go_cut [] (fun E=>∃c:UInt8,E=(w2.setCell ⟨y.heap.size,K,none⟩ (iV .u8 (c.toNat:Int))).drew)
      case first=>
       have C3:wrap64 ((t.size:Int) - 1)=(t.size:Int) - 1:=by unfold wrap64;omega
       obtain⟨X,hX⟩:∃X:UInt8,∀W,(Instr.index 9 (sV t) (i6 ((t.size:Int) - 1))).run yP W=.ok (iV .u8 (X.toNat:Int)) W:=⟨_,fun W=>by rw[run_index_string W _ _ _ _ underlying9,dif_pos (by omega)]⟩
       have F9:∀W,(Instr.index 9 (sV t) (i6 (wrap64 ((t.size:Int) - 1)))).run yP W=.ok (iV .u8 (X.toNat:Int)) W:=fun W=>by rw[C3];exact hX W
       clear C3 A9 E8 E6 ci fi C1 D5;go_region
       go_wp2
       go_meet
       obtain⟨c,l⟩:=Tb (bits BinOp.xor IntKind.u8 (b.toNat:Int) (X.toNat:Int)) ⟨_,rfl⟩;exact⟨c,by rw[l]⟩
      case rest=>
       obtain⟨c,rfl⟩:=hcut;have C4:lE (w2.setCell ⟨y.heap.size,K,none⟩ (iV .u8 (c.toNat:Int))).drew y.heap.size 5 y.heap.size s CI.size (b9 (CI.data.toList.set K c)):=by
        have:=A4.o.set K (iV .u8 (c.toNat:Int));unfold b9 at this⊢;rw[List.map_set];exact this
       have G1:=C4.conv;have Z:yW y (w2.setCell ⟨y.heap.size,K,none⟩ (iV .u8 (c.toNat:Int))).drew:=(A2.o.setCell (Ug _) _).drew;have m:=D3.o _ I (ae (CI.data.toList.set K c)) Z (by show(CI.data.toList.set K c).toArray.size<=_;simp;exact E7);have C9:=aa m;have F2:=eg Z ci;have F3:(w2.setCell ⟨y.heap.size,K,none⟩ (iV .u8 (c.toNat:Int))).drew.frozen? ⟨w.heap.size,I,none⟩=false:=kZ (zC p.o Z) (g:=w.heap.size) rfl I;clear C4 Z C1 ck fk;generalize (w2.setCell ⟨y.heap.size,K,none⟩ (iV .u8 (c.toNat:Int))).drew=W3 at*;go_wp2
       go_ret
       exact C9.o
     ·have E2:¬(0:Int)<(t.size:Int):=by omega
      have m:=aa (B3.o w2 A2.o);go_wp2_with fail
      refine C.m ?_;rintro e E ⟨rfl,r⟩;subst r;go_wp2
      go_ret
      exact m.o
    ·have D6:¬(0:Int)<(CI.size:Int):=by omega
     have m:=aa (B3.o w2 A2.o);go_wp2_with fail
     refine C.m ?_;rintro e E ⟨rfl,r⟩;subst r;go_wp2
     go_ret
     exact m.o
   ·have m:yH (mQ w (rV (lV (some ⟨w.heap.size,I,none⟩) (N - I) (N - I))) w1):=by
     have n:=p.o;rw[f.o] at n⊢;exact⟨_,cs.drop I,rfl,R4 n D,by rw[Uu,<-f.o];omega,fun c l=>by have:=A.o c (List.mem_of_mem_drop l);omega,B.o⟩
    go_wp2_with fail
    refine C.m ?_;rintro e E ⟨rfl,r⟩;subst r;go_wp2
    go_ret
    first|exact m.o| (have e1:((N:Int) - (I:Int)).toNat=N - I:=by omega;simpa [e1] using m.o)
def II{m a}:(bT m a).1.az.length<=bA m:=by
 have h:=xv a m;unfold bT;cases hf:dH m a with
 |some y=>rw[hf] at h;simp only at h⊢;omega
 |none=>show 0<=_;omega
def Ik{m a}:(bT m a).1.addr=a:=by
 unfold bT;have key:∀(l:List aH) x,dH l a=some x->x.addr=a:=by
  intro l;induction l with
  |nil=>intro x e;cases e
  |cons y t ih=>
   intro x e;unfold dH at e;split at e
   ·next hh=>cases e;exact hh
   ·exact ih x e
 cases hf:dH m a with
 |some x=>exact key m x hf
 |none=>rfl
def Ii{l v m a}(h:oH l v m):∀g,(bT m a).1.sv.ownBlock=some g->l g=0:=by
 unfold bT;have key:∀(l:List aH) x,dH l a=some x->x∈l:=by
  intro l;induction l with
  |nil=>intro x e;cases e
  |cons y t ih=>
   intro x e;unfold dH at e;split at e
   ·cases e;exact Uk ..
   ·exact Ul _ (ih x e)
 cases hf:dH m a with
 |some x=>exact h.2 x (key m x hf)
 |none=>intro g b;simp[aH.sv,lz,Value.ownBlock] at b
def SC.Ef{A P K c n g t x0 x1 x2 x3 x4 y0 y1 y2 y3 y4 o w}(h:SC A P K c [(n,.cells #[x0,x1,x2,x3,x4] t (0,0)),(g,o)] w)(e:g≠n):SC A P K c [(n,.cells #[y0,y1,y2,y3,y4] t (0,0)),(g,o)] (((((w.setCell ⟨n,0,none⟩ y0).setCell ⟨n,1,none⟩ y1).setCell ⟨n,2,none⟩ y2).setCell ⟨n,3,none⟩ y3).setCell ⟨n,4,none⟩ y4):=by
 have a:∀b∈[(g,o)],b.1≠n:=fun b d=>by rw[Uo.1 d];exact e
 exact((((h.mh a y0 0).mh a y1 1).mh a y2 2).mh a y3 3).mh a y4 4
def MX{w:World}{base e i v n j}(h:w.ownsRow base e i v n j):∃bx:List (Nat×Obj),(∀b∈bx,w.heap[b.1]? =some b.2/\base<=b.1)/\(∀g,v.ownBlock=some g->∃o,(g,o)∈bx)/\∀W:World,(∀b∈bx,W.heap[b.1]? =some b.2)->W.ownsRow base e i v n j:=by
 have k:=h;rcases k.2 with⟨rfl,rfl⟩|⟨g,cap,d,rfl,a,c,rest⟩
 ·exact⟨[],(fun b a=>absurd a Vs),(fun g c=>by simp[Value.ownBlock] at c),fun W _=>⟨h.1,.inl ⟨rfl,rfl⟩⟩⟩
 ·refine⟨[(g,.cells d e (0,0))],(fun b m=>?_),(fun p f=>?_),fun W l=>⟨h.1,.inr ⟨g,cap,d,rfl,a,l _ (Uo.2 rfl),rest⟩⟩⟩
  ·rw[Uo.1 m];exact⟨c,a⟩
  ·simp[Value.ownBlock] at f;subst f;exact⟨_,Uo.2 rfl⟩
def ym(m key v):(aL m key v).length<=m.length+1:=by
 unfold aL;have:=oW m key;rw[Uq];split<;>simp<;>omega
def Cv{m}{key v:yB}(h:∀p∈m,p.1.size<=1073741824/\p.2.size<=1073741824)(b:key.size<=1073741824)(c:v.size<=1073741824):∀p∈aL m key v,p.1.size<=1073741824/\p.2.size<=1073741824:=fun p a=>by
 unfold aL at a
 rcases UA.1 a with a|a
 ·exact h p (List.mem_filter.1 a).1
 ·split at a
  ·cases a
  ·rw[Uo.1 a];exact⟨b,c⟩
structure xW(l:Nat->Nat)(w:World)(R:aV)(us:Nat->Value)(ps:List (yB×yB))(Y:aH)(hb ob:Nat)(oc:Obj)(l6:Nat->Nat)(R6:aV)(wx:World):Prop where
 mv:Mv (RT R) l l6 w wx
 x:dh l6 wx R6 us ps
 same:kM R R6
 n:R6.N=R.N
 m:R6.m=R.m
 ok:jK wx Y
 lY:∀g,Y.sv.ownBlock=some g->g<wx.heap.size/\l6 g=0
 bh:wx.heap[hb]? =some (.cells #[sV Y.addr,iV .i64 Y.n,sV Y.aI,sV Y.code,Y.sv] 148 (0,0))
 lh:l6 hb=0
 bo:wx.heap[ob]? =some oc
 lo:l6 ob=0
def BM(a:aV)(Y:aH)(key v:yB):Prop:=a.de->Y.addr.size=20->iz a.seen Y/\dU Y= {aY (bG a.m) (ag Y.addr) with ss:=aL (aY (bG a.m) (ag Y.addr)).ss (ag key) (if v.size=0 then⟨#[]⟩ else fg v)}
def xV(l:Nat->Nat)(w:World)(R:aV)(e:Nat->Value)(d:List (yB×yB))(Y:aH)(a b:Nat)(c:Obj)(f:World):Prop:=∃l6 R6,xW l w R e d Y a b c l6 R6 f
def pJ(l:Nat->Nat)(w:World)(R:aV)(e:Nat->Value)(d:List (yB×yB))(Y:aH)(a b:Nat)(c:Obj)(key v:yB)(f:World):Prop:=∃l6 R6,xW l w R e d Y a b c l6 R6 f/\BM R6 Y key v
def qP(l:Nat->Nat)(w:World)(R:aV)(b:Nat->Value)(a:List (yB×yB))(Y:aH)(d e:Nat)(f:Obj)(key v:yB)(c:Nat)(w7:World):Prop:=∃l6 R6 wx,xW l w R b a Y d e f l6 R6 wx/\BM R6 Y key v/\(Y.addr.size=20->R6.de->c=0)/\SC (R6.arg l6 wx b a) (Wm (R6.arg l6 wx b a) (kg (bG R6.m) (ag Y.addr) (ag key) Y.addr key v)) 1300 [] [] w7
def xV.yes{l w R p o Y d f k a}(h:xV l w R p o Y d f k a)(key v):pJ l w R p o Y d f k key v (a.setCell ⟨R.tt,0,none⟩ (bV true))/\yc a R.rb 5 (pV (qA R.tt))/\(∃b:Bool,yc a R.tt 0 (bV b))/\a.frozen? ⟨R.tt,0,none⟩=false:=by
 let⟨l6,t,h⟩:=h;have hs:=h.same;let⟨m1,j⟩:=h.x.tF;let⟨_,_,_,_,_,c5,d0⟩:=h.x.y.cells;rw[hs.rb,hs.tt] at c5;rw[hs.tt] at d0 j m1;have p0:=iu R.tt 0;have i:∀g,g<a.heap.size->l6 g=0->g≠R.tt:=fun g _ h0 e=>by have:=h.x.y.lt;rw[hs.tt,<-e,h0] at this;rw[e] at this;omega
 have e1:∀g,g≠R.tt->(a.setCell ⟨R.tt,0,none⟩ (bV true)).heap[g]? =a.heap[g]? :=fun g c=>UL _ _ _ g c
 have q:(a.setCell ⟨R.tt,0,none⟩ (bV true)).heap.size=a.heap.size:=by simp
 refine⟨⟨l6,_,⟨h.mv.trans (m1.mono fun x r=>.inr (.inr r)),j,⟨hs.rb,hs.sb,hs.sp,hs.tw,rfl,hs.base,hs.seen,(fun e=>by cases e)⟩,h.n,h.m,?_,fun g c=>⟨by rw[q];exact(h.lY g c).1,(h.lY g c).2⟩,?_,h.lh,?_,h.lo⟩,fun s=>by cases s.1⟩,c5,⟨_,d0⟩,?_⟩
 ·exact⟨h.ok.addr,h.ok.n,h.ok.aI,h.ok.code,cM h.ok.at_ fun g c=>e1 g (i g (h.lY g c).1 (h.lY g c).2),h.ok.len,h.ok.small⟩
 ·exact(e1 d (i d (Um.1 h.bh).1 h.lh)).trans h.bh
 ·exact(e1 f (i f (Um.1 h.bo).1 h.lo)).trans h.bo
 ·have:=h.x.y.tn;rw[hs.tt] at this;exact US a R.tt 0 _ _ this
def pJ.call{l w R f d Y g i j key v a}(h:pJ l w R f d Y g i j key v a)(s)(p:Y.addr=s)(hs:s.size<=1073741824)(o:key.size=32)(r:bF v=true)(y:v.size<=1073741824)(u:R.N+9000<4000000000):
 yC 103 #[pV (qA R.sp),sV s,sV key,sV v] a.drew fun e w'=>∃c:Nat,e=rV (i6 c)/\(s.size≠20->c=2)/\qP l w R f d Y g i j key v c w':=by
 subst p;let⟨l6,b,h,m⟩:=h;have k:=h.x.start.drew;have:=JO k Y.addr key v (by unfold maxLen;omega) (by unfold maxLen;omega) (by unfold maxLen;omega) (by show b.N+0+1500<_;rw[h.n];omega);rw[show(b.arg l6 a f d).sp=R.sp from h.same.sp] at this;exact this.mono fun _ _ ⟨⟨c,h1,h2,h3,h4⟩,_⟩=>⟨c,h1,h2,l6,b,a,h,m,fun q t=>h3 q o r t,h4⟩
def pJ.cells{l w R f e Y b c d key v a}(h:pJ l w R f e Y b c d key v a):yc a R.rb 1 (pV (qA R.sp))/\a.heap[b]? =some (.cells #[sV Y.addr,i6 Y.n,sV Y.aI,sV Y.code,Y.sv] 148 (0,0))/\a.heap[c]? =some d:=by
 let⟨l6,g,h,_⟩:=h;let⟨_,c1,_⟩:=h.x.y.cells;rw[h.same.rb,h.same.sp] at c1;exact⟨c1,h.bh,h.bo⟩
def qP.cells{l w R g f Y b d e key v c w7}(h:qP l w R g f Y b d e key v c w7):w7.heap[b]? =some (.cells #[sV Y.addr,i6 Y.n,sV Y.aI,sV Y.code,Y.sv] 148 (0,0))/\w7.heap[d]? =some e:=by
 let⟨l6,i,j,h,_,_,a⟩:=h;exact⟨(a.fC (Um.1 h.bh).1 h.lh).trans h.bh,(a.fC (Um.1 h.bo).1 h.lo).trans h.bo⟩
def MU(R:aV):¬RT R 0:=fun h=>by
 have h1:=iu R.rb 0
 have h2:=iu R.tt 0
 rcases h with h|h|h
 ·exact mr _ h
 ·omega
 ·omega
def qP.kept{l w R o f Y B t u key v c w7}(h:qP l w R o f Y B t u key v c w7)(i:Int)(C:key.size=32)(E:bF v=true)(q1:Y.addr.size≠20->c=2)(w1:Y.addr.size≠20->i=2)(w2:Y.addr.size=20->i=0)(y:Y.addr∈R.seen)(F:Y.az.length<=(bT R.m Y.addr).1.az.length+1)(I:R.N+9000<4000000000)(D:bA R.m+2<1000000000):
 yC 96 #[pV (qA R.rb),i6 c,i6 i,iR Y] w7 fun e w'=>e=rV (bV true)/\eY l w R o f 3000 w'/\w'.heap[t]? =some u:=by
 let⟨l6,a,G,h,s,q3,p⟩:=h;have A:jK w7 Y:=⟨h.ok.addr,h.ok.n,h.ok.aI,h.ok.code,cM h.ok.at_ fun g j=>p.fC (h.lY g j).1 (h.lY g j).2,h.ok.len,h.ok.small⟩
 have z:lC a f (Wm (a.arg l6 G o f) (kg (bG a.m) (ag Y.addr) (ag key) Y.addr key v)) c i Y:=by
  by_cases h20:Y.addr.size=20
  ·refine⟨fun q=>absurd (w2 h20) q,fun _ q d=>q (by rw[q3 h20 d];rfl),fun _ _=>⟨fun X r b d=>?_,fun d=>(h.x.k d).1.place (s d h20).1⟩⟩;have b:=b;unfold kg at b;rw[Uj ⟨h20,C,E⟩] at b;let⟨o1,o2⟩:=s d h20;rw[AE d.inj (h.x.k d).1 o1,o2];exact b d
  ·refine⟨fun _=>⟨by rw[q1 h20,w1 h20];rfl,fun X r b=>?_⟩,fun q=>absurd q (by rw[w1 h20];decide),fun q=>absurd q (by rw[w1 h20];decide)⟩;have b:=b;unfold kg at b;rw[Ui (fun q=>h20 q.1)] at b;exact b
 have:=vV h.x p c i Y A (fun g j=>.inl (h.lY g j)) (by rw[h.m];exact F) (by rw[h.same.seen];exact y) z (by rw[h.n];omega) (by rw[h.m];exact D);rw[h.same.rb] at this;refine this.mono ?_;rintro e w' ⟨h1,h2⟩;refine⟨h1,(eY.trans h.mv h.same (K:=0) (by rw[h.n];omega) (by rw[h.m];exact Ug _) h2).mono (by omega),?_⟩;let⟨l8,H,m8,_⟩:=h2;exact(m8.kept (Um.1 h.bo).1 h.lo (MU _)).trans h.bo
def Gx(w)(n:Int)(R:Rg n):yC 101 #[i6 n] w fun e w'=>(∃v:yB,e=rV (sV v)/\v.size<=8/\(0<=n->v=ae (bS 8 n.toNat)))/\yW w w':=by
 have X:yH (lB n 0 []):=fun h=>⟨by show 0=_;rw[Nat.div_eq_of_lt];have:=R.2;show n.toNat<256 ^ 8;omega,fun h=>absurd rfl h⟩
 obtain⟨A6,A7⟩:=R;obtain⟨i0,D,F,G,H⟩:=Vp rX;obtain⟨t,Q,S,d⟩:=run_make_own (P:=yP) w w.heap.size 34 5 i0 (iV .u8 0) 1 underlying34 D F G .i64 .i64 8 (by rw[H];decide) (by decide) (Ug _);have L:yW w t:=⟨d.os,d.tape,d.output,d.size,fun k f=>d.block k f (by simp)⟩
 have Z:=aa S;have U:=aa L;have A3:(Instr.makeSlice 34 (i6 0) (i6 8)).run yP w=.ok (lV (qA w.heap.size) 0 8) t:=Q;clear Q S d L;go_enter func101,ntmps101
 go_wp2
 clear A3;go_loopg [3,4] 9 (fun g v r wr=>∃(k:Nat) (l:yL) (u cap:Nat),g=9 - k/\k<=8/\l.length<=k/\r=i6 (56 - 8*(k:Int))/\v=lV (qA u) l.length cap/\yH (lB n k l)/\yH (wr.ownsRow w.heap.size 5 1 (lV (qA u) l.length cap) l.length (b9 l))/\yH (yW w wr))
 case atStart=>exact⟨0,[],w.heap.size,8,rfl,by omega,Ug _,rfl,rfl,X,Z,U⟩
 case round=>
  obtain⟨k,l,u,cap,M,f,O,rfl,rfl,A,b,i⟩:=hrel;have z:=aa M;clear M;have T:=i.o.size;by_cases N:k<8
  ·have V:yH (∀(c:UInt8) (W:World) (g2 a:Nat),W.ownsRow w.heap.size 5 1 (lV (qA g2) (l.length+1) a) (l.length+1) (b9 l++[iV .u8 (c.toNat:Int)])->W.ownsRow w.heap.size 5 1 (lV (qA g2) (l++[c]).length a) (l++[c]).length (b9 (l++[c]))):=fun c W g2 a h=>by
    rw[Uq];have:b9 (l++[c])=b9 l++[iV .u8 (c.toNat:Int)]:=by simp[b9]
    rw[this];exact h
   go_upto_region 5 with fail
   go_cut [5] (fun v wx=>∃c:UInt8,v=iV .u8 (c.toNat:Int)/\yH (0<=n->c.toNat=n.toNat / 256 ^ (7 - k) % 256)/\wx=wr)
   case first=>
    have A2:k=0\/k=1\/k=2\/k=3\/k=4\/k=5\/k=6\/k=7:=by omega
    rcases A2 with rfl|rfl|rfl|rfl|rfl|rfl|rfl|rfl;all_goals
     go_wp2
     go_meet
     refine S9 n _ _ ?_ ?_ ?_ _<;>first|omega| (rw[VI];omega)
   case rest=>
    obtain⟨c,rfl,y,rfl⟩:=hcut;have I:yH (c.toNat≠0\/l≠[]->lB n (k+1) (l++[c])):=fun h=>A.o.next N y.o h
    have Y:yH (c.toNat=0->l=[]->lB n (k+1) l):=fun h1 h2=>A.o.skip N y.o h1 h2
    clear y;have A5:(56:Int) - 8*(k:Int) - 8=56 - 8*((k+1:Nat):Int):=by omega
    have A1:(((c.toNat:Nat):Int) != 0)=true\/((((c.toNat:Nat):Int) != 0)=false/\0<l.length)\/((((c.toNat:Nat):Int) != 0)=false/\l.length=0):=by
     cases (((c.toNat:Nat):Int) != 0)
     ·rcases Nat.eq_zero_or_pos l.length with h|h
      ·exact .inr (.inr ⟨rfl,h⟩)
      ·exact .inr (.inl ⟨rfl,h⟩)
     ·exact .inl rfl
    have m:=V.o c;generalize hcn:(c.toNat:Nat)=K at*;rcases A1 with h1|⟨h1,h2⟩|⟨h1,h2⟩
    ·have o:=aa (I.o (.inl (by simpa using h1)));go_wp2_with (at_builtin;refine U0 _ rfl (.tmp 23) (.tmp 25) 34 rfl w.heap.size 5 i0 (iV .u8 0) 1 1 underlying34 D F G H rfl (by decide) _ l.length (b9 l) rfl (b.o.alloc _) ⟨wc.heap.size,0,none⟩ 1 1 [iV .u8 (K:Int)] rfl rfl (Vx _ _ _) ?n2 (by omega) ?n3 ?n4 ?n5 _ rfl ?n6)
     case n2=>first|rfl| (intro v s;simp at s;subst s;rfl)
     case n3=>unfold maxLen;omega
     case n4=>omega
     case n5=>first|omega| (simp;omega)
     intro g2 a w2 q p C E;have B:=aa (m w2 g2 a q);have x:yH (yW w w2):=(i.o.alloc T _).grown p (by simp;omega) (fun k f=>(b.o.lt k f).1);have j:yH ((l++[c]).length=l.length+1):=by show _=_;simp
     clear q p C E m;go_wp2
     go_roundg (9 - (k+1))
     case measure=>have:=z.o;omega
     case rel=>exact⟨k+1,l++[c],g2,a,rfl,by omega,by have:=j.o;omega,by go_num,by rw[j.o],o,B,x⟩
    ·have A0:(0:Int)<(l.length:Int):=by omega
     have o:yH (lB n (k+1) (l++[c])):=I.o (.inr (fun e=>by rw[e] at h2;simp at h2));go_wp2_with (at_builtin;refine U0 _ rfl (.tmp 23) (.tmp 25) 34 rfl w.heap.size 5 i0 (iV .u8 0) 1 1 underlying34 D F G H rfl (by decide) _ l.length (b9 l) rfl (b.o.alloc _) ⟨wc.heap.size,0,none⟩ 1 1 [iV .u8 (K:Int)] rfl rfl (Vx _ _ _) ?m2 (by omega) ?m3 ?m4 ?m5 _ rfl ?m6)
     case m2=>first|rfl| (intro v s;simp at s;subst s;rfl)
     case m3=>unfold maxLen;omega
     case m4=>omega
     case m5=>first|omega| (simp;omega)
     intro g2 a w2 q p C E;have B:=aa (m w2 g2 a q);have x:yH (yW w w2):=(i.o.alloc T _).grown p (by simp;omega) (fun k f=>(b.o.lt k f).1);have j:yH ((l++[c]).length=l.length+1):=by show _=_;simp
     clear q p C E m;go_wp2
     go_roundg (9 - (k+1))
     case measure=>have:=z.o;omega
     case rel=>exact⟨k+1,l++[c],g2,a,rfl,by omega,by have:=j.o;omega,by go_num,by rw[j.o],o,B,x⟩
    ·have A0:¬(0:Int)<(l.length:Int):=by omega
     have o:=aa (Y.o (by simpa using h1) (UH.1 h2));clear m;go_wp2
     go_roundg (9 - (k+1))
     case measure=>have:=z.o;omega
     case rel=>exact⟨k+1,l,u,cap,rfl,by omega,by omega,by go_num,by rw[h2],o,b,i⟩
  ·obtain rfl:k=8:=by omega
   have A4:=Sp b.o;have J:yH ((ae l).size<=8/\(0<=n->ae l=ae (bS 8 n.toNat))):=⟨by rw[aN];exact O,fun h=>A.o.done h O⟩
   go_wp2
   go_ret
   exact⟨⟨_,rfl,J.o.1,J.o.2⟩,i.o⟩
end Go.Proofs.YthpclfdpbmehgaaGreatDoor
