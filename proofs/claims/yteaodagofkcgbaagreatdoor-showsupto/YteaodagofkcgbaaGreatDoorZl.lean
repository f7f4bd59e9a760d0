import Derived.Test.YteaodagofkcgbaaGreatDoorZd
import Derived.Test.YteaodagofkcgbaaGreatDoorZe
import Derived.Test.YteaodagofkcgbaaGreatDoorZk
open Go.Proofs.Tryz
open Go.Proofs.Tryz renaming prog→yP
open Go.Value renaming string→sV,pointer→pV,int→iV,slice→lV,bool→bV,tuple→tV,agg→gV
open Go.Ending renaming returned→rV
namespace Go.Proofs.YteaodagofkcgbaaGreatDoor
open Go.RowKit
set_option maxRecDepth 100000
set_option maxHeartbeats 0
set_option linter.all false
def MR{l w R j i}(h:dh l w R j i)(k x y z:Int)(g:Rg y)(s t:yB)(hs:s.size<=1073741824)(f:t.size<=1073741824)(c:R.N+9000<4000000000)(d:bA R.m+2<1000000000)(a:s∈R.seen)(b:ag t∈R.seen):yC 28 #[pV (qA R.rb),jb k x y z s t] w λe w'=>e=rV (bV true)/\eY l w R j i 5000 w':=by
 by_cases q:k=31\/k=32
 .exact MT h k x y z q g s t hs f c d a b
 exact MS h k x y z ⟨λe=>q (.inl e),λe=>q (.inr e)⟩ g s t hs f c d a b
def sT(a:Nat)(d:Dt)(n0:Nat)(k x y z:Int)(s t:yB)(W:World):Prop:=∃l,Inv a l W d/\iK W n0 k x y z s t/\l n0=0
def sT.idle{e d n0}{k x y z:Int}{s t W a}(h:sT e d n0 k x y z s t W)(c:yW W a):sT e d n0 k x y z s t a:=by
 let⟨l,f,b,g⟩:=h;exact⟨_,f.idle (Mv.below (fO []) l c),b.below c,(kH b.lt).trans g⟩
structure JR(wb:Nat)(d:Dt)(L a b s:Nat)(R:aV)(n0:Nat)(k x y z:Int)(st tt:yB)(zs:List yB)(W:World)(l:Nat->Nat)(d1:Dt)(R1:aV):Prop where
 inv:Inv wb l W d1
 cn:gd L a b s d1
 same:iY d d1
 mem:R1∈d1.ao
 rb:R1.rb=R.rb
 bx:iK W n0 k x y z st tt
 lb:l n0=0
 zs:∀x∈zs,x∈R1.seen
def zX{T l l' W a n}{k x y z:Int}{s t}(h:iK W n k x y z s t)(b:l n=0)(m:Mv T l l' W a)(h0:¬T 0):iK a n k x y z s t/\l' n=0:=⟨h.mv b m h0,(m.bt n h.lt).trans b⟩
def Inv.after{f l w w' d}(h:Inv f l w d){R}(c:R∈d.ao){L a b s K}(e:gd L a b s d)(j:eY l w R (d.us R.sb) (d.ps R.sb) K w'):∃l' d',Inv f l' w' d'/\gd L (a+K) (b+2) s d'/\iY d d':=by
 let⟨l',g,m,o,hs,i,n⟩:=j;have k:=(e.hw R c).2;exact⟨l',_,h.p7 c hs.JH hs.yes m o.vU,(e.put h c hs.JH i n (by rwa[hs.base]) (by rw[hs.seen];exact Ug _:g.seen.length<=R.seen.length+0)),⟨rfl,rfl,rfl,rfl,λ_ _=>rfl⟩⟩
def Nt{G l w d}(h:Inv G l w d){L a b s}(T:gd L a b s d)(ha:a+9000<4000000000)(hb:b+2<=500000)(hL:L+1<1000000)(C8:s+2<1000000)(k x y z:Int)(O:Rg x)(hy:Rg y)(D u:yB)(h1:D.size<=1073741824)(h2:u.size<=1073741824):yC 8 #[pV (qA G),jb k x y z D u] w λe w'=>kS (λb=>k≠38->b=true) e/\∃l' r,Inv G l' w' r/\gd (L+1) (a+6000) (b+2) (s+2) r/\iY d r:=by
 let⟨ar,cr,A3⟩:=h.Ep;have C7:=T.len;obtain⟨R,hR⟩:∃R:aV,R=d.ao.getD (bW x d.ao.length) ⟨0,0,0,0,0,[],0,lV none 0 0,[],lV none 0 0,[],lV none 0 0,[],false⟩:=⟨_,rfl⟩
 have B7:0<d.ao.length->d.ao[bW x d.ao.length]? =some R:=λh0=>by
  rw[hR,Up,Uh (ky x _ h0)];rfl
 have M:0<d.ao.length->R∈d.ao:=λh0=>UQ (B7 h0)
 obtain⟨Y,cs,A4⟩:∃Y cs,0<d.ao.length->R.sv=lV Y R.seen.length cs:=by
  by_cases h0:0<d.ao.length
  .let⟨Y,cs,A4,_⟩:=dM (h.rl R (M h0)).y.sn;exact⟨Y,cs,λ_=>A4⟩
  exact⟨none,0,λh1=>absurd h1 h0⟩
 have q:∀W,(∃l' r,Inv G l' W r/\gd (L+1) (a+6000) (b+2) (s+2) r/\iY d r)=(∃l' r,Inv G l' W r/\gd (L+1) (a+6000) (b+2) (s+2) r/\iY d r):=λ_=>rfl
 have hcut:∀{l:Nat->Nat} {W W':World},yW W W'->Mv (λ_=>False) l (gv l W.heap.size) W W':=λhb=>Mv.below _ _ hb
 unfold jb;refine(Ns w G R.rb d.ao.length cr R.seen.length cs ar Y k x y z D u (ae bM) (ag u) (by omega) (λb=>k≠38->b=true) (λ_=>rfl)
  (sT G d w.heap.size k x y z D u) (λW=>∃l d1 o,JR G d L a b (s+2) R w.heap.size k x y z D u [D,ag u] W l d1 o) (λW=>∃l' r,Inv G l' W r/\gd (L+1) (a+6000) (b+2) (s+2) r/\iY d r)
  (λv W=>∃l0 w0,Inv G l0 w0 d/\v=w0.heap.size/\yW w0 W/\fv W v (λ_=>lV none 0 0) [])
  (λv n W=>∃l J,Inv G l W d/\SX l W n v J [J] 1 (λ_=>lV none 0 0) [] ⟨True,gN []⟩ (λX _=>X=⟨λ_=>[],λ_=>none⟩)/\(∀C∈d.aC,C.sb≠v)/\(∀Q∈d.ao,Q.sb≠v/\Q.sp≠n))
  (λa1 n1 c1 W=>∃l d1 o,JR G d L a b (s+1) R w.heap.size k x y z D u [D] W l d1 o/\o.sv=lV a1 n1 c1)
  ?_ ?_ ?_ ?_ ?_ ?_ ?_ ?_ ?_ ?_ ?_ ?_ ?_ ?_ ?_ ?_ ?_ ?_ ?_ ?_ ?_ ?_ ?_).mono ?_
 .have C1:yW w (w.alloc (.cells #[i6 k,i6 x,i6 y,i6 z,sV D,sV u] 33)):=(Un _ _).alloc (Ug _) _;exact⟨_,h.idle (Mv.below (fO []) l C1),iK.new w k x y z D u,ou (Ug _)⟩
 .let⟨_,k1,kw,_⟩:=h.tf;rw[A3] at k1;exact⟨k1,kw⟩
 .rintro W⟨l,p,f,_⟩;let⟨_,k1,kw,_⟩:=p.tf;rw[A3] at k1;let⟨b0,b1,_,_,b4,b5⟩:=f.cells;exact⟨⟨k1,kw⟩,b0,b1,b4,b5,f.lt⟩
 .intro W n p;exact p.idle (ig (Un _ _) n)
 .rintro W⟨l,p,_,_⟩;refine(tN 3 W).mono ?_;rintro e w1⟨A,hP,F⟩;exact⟨_,A,l,W,p,rfl,F,zT p.bz.size hP⟩
 .rintro v W⟨l0,w0,p,e1,F,hs⟩;refine(ph W (p.bz.below F)).mono ?_;rintro e w'⟨A,S⟩;exact⟨A,l0,w0,p,e1,F.trans (S.mono F.size),hs.below S⟩
 .rintro v W⟨l0,w0,p,e1,F,hs⟩;have hm:∀x,cy v (λ_=>Value.slice none 0 0) x->x=v:=λx O=>by
   rcases O with h|⟨c,_,h⟩
   .exact h
   simp[Value.ownBlock] at h
  have m1:Mv (λ_=>False) l0 (λx=>if x<w0.heap.size then l0 x else if x=v then pr v 0 else 0) w0 W:=⟨F.os,F.tape,F.output,F.size,λk hk=>Uj hk,λk hk _=>F.block k hk⟩
  refine(zd hs (l:=λx=>if x<w0.heap.size then l0 x else if x=v then pr v 0 else 0) (λx O=>by rw[hm x O,e1];simp) (p.bz.below F) (λk hk=>by
   have:=p.bz.size;rw[Uj (by omega)];exact p.l3 k hk) _ (by rw[aN];exact kE _) ⟨True,gN []⟩ [] (λ_=>by rw[nC];unfold bP;rw[Uj rfl];exact⟨o9,.nil,vE,rfl⟩)).mono ?_
  rintro e w'⟨n,J,l',A,hn,m,A5⟩;refine⟨n,A,l',J,p.idle ((m1.trans m).j9 _),A5.ev λ_ _ h=>h.1,λC hC e=>?_,λQ q=>⟨λe=>?_,λe=>?_⟩⟩
  .have:=lF (p.iJ hC).2.2.1;omega
  .have:=lF (p.kx q).2.2.2;omega
  have:=lF (p.kx q).2.2.1;have:=F.size;omega
 .rintro v n W⟨l,J,p,_⟩;let⟨_,k1,kw,_⟩:=p.tf;rw[A3] at k1;exact⟨k1,kw⟩
 .rintro v n W⟨l,J,p,hX,B6,A1⟩;obtain⟨U,A8⟩:∃U,U=W.alloc (.cells #[bV false] 61):=⟨_,rfl⟩
  have z1:U.heap.size=W.heap.size+1:=by rw[A8];exact nO W _
  have m1:Mv (λ_=>False) l (fA l W.heap.size (pr W.heap.size 0)) W U:=by rw[A8];exact Mv.qL l W _ _
  have B5:=p.idle (m1.j9 _);have C0:=hX.move m1 id id λ_=>id
  obtain⟨t,E⟩:∃t:aV,t=⟨U.heap.size,v,n,J,W.heap.size,[J],1,lV none 0 0,[],lV none 0 0,[],lV none 0 0,[],false⟩:=⟨_,rfl⟩
  have C3:BZ True (fA l W.heap.size (pr W.heap.size 0)) U t (λ_=>lV none 0 0) []:=by
   rw[E];refine⟨(C0.kn (k':=⟨aV.de ⟨U.heap.size,v,n,J,W.heap.size,[J],1,lV none 0 0,[],lV none 0 0,[],lV none 0 0,[],false⟩/\True,gN []⟩) rfl λ_=>trivial).ev λX _ hX _=>?_,⟨U8 _ _ _ _,λ_ h=>by cases h⟩,⟨(λg hg=>by cases hg),λ_ h=>by cases h⟩,U8 _ _ _ _,(λ_ h=>by cases h),(by show 0<_;decide),(by show 0<_;decide),⟨rfl,rfl⟩,λ_=>⟨(λ_ h=>by cases h),List.nodup_nil⟩⟩;rw[hX];exact⟨λ_=>rfl,(λ_ _ h=>by cases h),(λ_ _ _ h=>by cases h),λ_ _ _=>rfl,(λ_ _ _ h=>by cases h),λ_ h=>by cases h⟩
  let⟨a',V,w',I,C6,A2,l',mA,Z⟩:=Fz B5 C3 (by rw[E]) (by rw[E];exact λg hg=>by cases hg) (by rw[E,A8];exact qx W _) (by rw[E];exact oR (Ug _)) (by omega) (by rw[E];exact λQ q=>(A1 Q q).2) ⟨by rwa[E],by rw[E];exact λQ q e=>absurd e (A1 Q q).1⟩ (by rw[E];exact λQ q e=>absurd e (A1 Q q).1);rw[E] at I;simp only at I;rw[A3,A8] at I;have H:w'.heap[G]? =some (.cells #[d.bv,d.rv] 30 (0,0)):=A2.trans B5.wo.ai;rw[show(W.alloc (.cells #[bV false] 61)).heap.size=W.heap.size+1 from nO W _] at I;refine⟨a',_,V,w',_,I,⟨by rw[Ur w' G 1 _ _ _ H];rfl,US w' G 1 _ _ H,(Um.1 H).1⟩,l',_,Z,?_,?_⟩
  .have B3:∀Q∈d.ao++[t],Q∈d.ao\/Q=t:=λQ q=>by
    rcases UA.1 q with h1|h1
    .exact .inl h1
    exact .inr (Uo.1 h1)
   refine⟨by show(d.ao++[t]).length<=_;rw[Uq,Vm];omega,λQ q=>?_,λQ q=>?_,λQ q=>?_⟩
   .show(aE d.ps t.sb [] Q.sb).length+du Q.sb (d.ao++[t])<=_;rw[yM];have h1:du Q.sb [t]<=1:=by
     show(if t.sb=Q.sb then t.N else 0)+0<=1;have:t.N=1:=by rw[E]
     rw[this];split<;>omega
    rcases B3 Q q with q|e
    .have C2:Q.sb≠t.sb:=by rw[E];exact(A1 Q q).1
     rw[cl _ _ C2];have:=T.gB Q q;omega
    rw[e] at h1⊢;rw[cF];have h5:du t.sb d.ao=0:=by
     have h6:∀rs:List aV,(∀Q∈rs,Q.sb≠t.sb)->du t.sb rs=0:=by
      intro rs B9;induction rs with
      |nil=>rfl
      |cons P rs ih=>show(if P.sb=t.sb then P.N else 0)+du t.sb rs=0;rw[Ui (B9 P (Uk ..)),ih λQ q=>B9 Q (Ul _ q)]
     exact h6 d.ao λQ q=>by rw[E];exact(A1 Q q).1
    show 0+(du t.sb d.ao+du t.sb [t])<=_;omega
   .rcases B3 Q q with q|e
    .have:=T.hw Q q;exact⟨by omega,by omega⟩
    rw[e,E];exact⟨UD _,UD _⟩
   rcases B3 Q q with q|e
   .have:=T.sn Q q;omega
   rw[e,E];exact UD _
  exact⟨rfl,rfl,rfl,rfl,λB f=>cl _ _ (by rw[E];exact B6 B f)⟩
 .rintro W⟨l,p,_,_⟩ _;exact⟨l,d,p,T.mono (by omega) (by omega) (by omega) (by omega),iY.refl d⟩
 .intro W h0;exact qq x _ O h0 (by omega) W
 .rintro W⟨l,p,_,_⟩ h0;exact p.EB A3 (B7 h0)
 .rintro W⟨l,p,f,hl⟩;refine(ja u (by unfold maxLen;omega) W p.bz).mono ?_;rintro e w'⟨A,B1⟩;exact⟨A,sT.idle ⟨l,p,f,hl⟩ B1⟩
 .rintro W⟨l,p,_,_⟩ h0;let⟨_,_,_,_,c4,_⟩:=(p.rl R (M h0)).y.cells;rw[A4 h0] at c4;exact⟨c4,(p.rl R (M h0)).y.jm⟩
 .rintro W⟨l,p,f,hl⟩ h0;have mD:Mv (λ_=>False) l l W W.drew:=Mv.uI l W 1 _;have B0:=p.idle (mD.j9 _);have A6:=(B0.rl R (M h0)).kY trivial;have C4:=T.sn R (M h0);let⟨a',n',V,w',l',I,m,A2,mm,A5⟩:=A6.EF D h1 (by omega);rw[A4 h0] at I;have A7:¬((0:Nat)=pr R.rb 0):=λe=>by have:=iu R.rb 0;omega
  have B4:iK W.drew w.heap.size k x y z D u:=f;have F:=zX B4 hl m A7;have S:=zX B4 hl mm A7;have H:w'.heap[R.rb]? =_:=A2.trans A6.y.ai;have A0:lA R {R with sv:=lV a' n' V,seen:=R.seen++[D]}:=⟨rfl,rfl,rfl,rfl⟩
  have Z:=B0.p7 (M h0) A0 (λh=>h) (mm.mono λx O=>.inr (.inl O)) A5.vU;have B2:=T.put B0 (M h0) A0 (K:=0) (j:=0) (i:=1) (Ug _) (Ug _) (T.hw R (M h0)).2 (by show(R.seen++[D]).length<=_;simp);refine⟨a',n',V,w',I,⟨⟨?_,F.1.cells.2.2.2.2.1⟩,US w' R.rb 4 _ _ H,(Um.1 H).1⟩,l',_,_,⟨Z,B2,⟨rfl,rfl,rfl,rfl,λ_ _=>rfl⟩,UO.2 ⟨R,M h0,rfl⟩,?_,S.1,S.2,λz hz=>?_⟩,?_⟩
  .rw[Ur w' R.rb 4 _ _ _ H,A4 h0];rfl
  .unfold eL;rw[Uj rfl]
  .unfold eL;rw[Uj rfl];exact UP _ hz
  unfold eL;rw[Uj rfl]
 .rintro a1 n1 c1 W⟨l,d1,o,f,e⟩;have A9:=f.inv.rl o f.mem;let⟨_,_,_,_,c4,_⟩:=A9.y.cells;have B8:=A9.y.jm;rw[f.rb] at c4 B8;rw[e] at c4;exact⟨c4,B8⟩
 .rintro a1 n1 c1 W⟨l,d1,o,f,e⟩;have A6:=(f.inv.rl o f.mem).kY trivial;have C4:=f.cn.sn o f.mem;let⟨a',n',V,w',l',I,m,A2,mm,A5⟩:=A6.EF (ag u) (by have:(ag u).size=32:=dz _;omega) (by omega);rw[e] at I;have A7:¬((0:Nat)=pr o.rb 0):=λe=>by have:=iu o.rb 0;omega
  have S:=zX f.bx f.lb mm A7;have H:w'.heap[o.rb]? =_:=A2.trans A6.y.ai;have A0:lA o {o with sv:=lV a' n' V,seen:=o.seen++[ag u]}:=⟨rfl,rfl,rfl,rfl⟩
  have Z:=f.inv.p7 f.mem A0 (λh=>h) (mm.mono λx O=>.inr (.inl O)) A5.vU;have B2:=f.cn.put f.inv f.mem A0 (K:=0) (j:=0) (i:=1) (Ug _) (Ug _) (f.cn.hw o f.mem).2 (by show(o.seen++[ag u]).length<=_;simp);rw[<-f.rb];refine⟨a',n',V,w',_,I,⟨by rw[Ur w' o.rb 4 _ _ _ H];rfl,US w' o.rb 4 _ _ H,(Um.1 H).1⟩,l',_,_,⟨Z,B2,f.same.trans ⟨rfl,rfl,rfl,rfl,λ_ _=>rfl⟩,UO.2 ⟨o,f.mem,rfl⟩,?_,S.1,S.2,λz hz=>?_⟩⟩
  .unfold eL;rw[Uj rfl];exact f.rb
  unfold eL;rw[Uj rfl];rcases UC.1 hz with rfl|hz
  .exact UR _ (f.zs _ (Uo.2 rfl))
  exact UP _ hz
 .rintro W⟨l,d1,o,f⟩;let⟨b0,b1,b2,b3,b4,b5⟩:=f.bx.cells;exact⟨b0,b1,b2,b3,b4,b5,f.bx.lt⟩
 .rintro W⟨l,d1,o,f⟩ _;have A9:=(f.inv.rl o f.mem).kY trivial;have hN:=(f.cn.N f.mem).1;have hm:pL l W o (d1.us o.sb) (d1.ps o.sb) 0 W:=⟨l,o,Mv.refl _ _ _,A9,kM.refl o,Ug _,by omega⟩
  have:=hm.asks D (ag u) h1 (by have:(ag u).size=32:=dz _;omega) (f.zs _ (Uk ..)) (.inr ⟨dz _,f.zs _ (Ul _ (Uk ..))⟩) (by omega);rw[f.rb] at this;apply this.mono;rintro e w'⟨A,hT⟩;let⟨l',r,h3,h4,h5⟩:=f.inv.after f.mem f.cn hT;exact⟨⟨true,A,λ_=>rfl⟩,l',r,h3,h4.mono (by omega) (by omega) (Ug _) (Ug _),f.same.trans h5⟩
 .rintro W⟨l,d1,o,f⟩ _;have:=SM f.inv f.mem f.cn (by omega) (by omega) (by omega);rw[f.rb] at this;apply this.mono;rintro e w'⟨A,l',r,h3,h4,h5⟩;exact⟨⟨true,A,λ_=>rfl⟩,l',r,h3,h4.mono (Ug _) (by omega) (by omega) (Ug _),f.same.trans h5⟩
 .rintro W⟨l,d1,o,f⟩ h38;have:=TO ((f.inv.rl o f.mem).kY trivial) (by have:=(f.cn.hw o f.mem).1;omega) y hy;rw[f.rb] at this;apply this.mono;rintro e w'⟨⟨b0,A⟩,B1⟩;exact⟨⟨b0,A,λh=>absurd h38 h⟩,_,d1,f.inv.idle ((hcut B1).j9 _),f.cn.mono (by omega) (by omega) (by omega) (Ug _),f.same⟩
 .rintro W⟨l,d1,o,f⟩ _;have hN:=(f.cn.N f.mem).1;have:=Mq ((f.inv.rl o f.mem).kY trivial) D (ag u) h1 (by have:(ag u).size=32:=dz _;omega) (by omega) (by have:=(f.cn.hw o f.mem).1;omega) (dz _) (f.zs _ (Uk ..)) (f.zs _ (Ul _ (Uk ..)));rw[f.rb] at this;apply this.mono;rintro e w'⟨A,hT⟩;let⟨l',r,h3,h4,h5⟩:=f.inv.after f.mem f.cn hT;exact⟨⟨true,A,λ_=>rfl⟩,l',r,h3,h4.mono (by omega) (by omega) (Ug _) (Ug _),f.same.trans h5⟩
 .rintro W⟨l,d1,o,f⟩;have hN:=(f.cn.N f.mem).1;have C5:=(f.cn.hw o f.mem).1;have:=MR ((f.inv.rl o f.mem).kY trivial) k x y z hy D u h1 h2 (by omega) (by omega) (f.zs _ (Uk ..)) (f.zs _ (Ul _ (Uk ..)));rw[f.rb] at this;apply this.mono;rintro e w'⟨A,hT⟩;let⟨l',r,h3,h4,h5⟩:=f.inv.after f.mem f.cn hT;exact⟨⟨true,A,λ_=>rfl⟩,l',r,h3,h4.mono (by omega) (by omega) (Ug _) (Ug _),f.same.trans h5⟩
 rintro e w'⟨h3,h4⟩;exact⟨h3,h4.o⟩
def BQ(a:Nat)(d:Dt)(n c:Nat)(W:World):Prop:=∃l' d',Inv a l' W d'/\gH n c d'/\RS d d'
def Inv.uP{f l w w' d}(h:Inv f l w d){B}(e:B∈d.aC){n c b a}(j:gH n c d)(h1:n<=b)(h2:c<=a){t m mv}(g:fJ l (fD B) w {B with t:=t,m:=m,mv:=mv} w')(k:m.length<=b)(o:cS jr t<=12*a):BQ f d b a w':=by
 let⟨l',S',p,i⟩:=g;have hs:vk B {B with t:=t,m:=m,mv:=mv}:=⟨rfl,rfl,rfl,rfl⟩
 exact⟨l',_,h.book e hs p i,j.put h1 h2 e hs k rfl o,⟨rfl,rfl,λ_ _=>rfl⟩⟩
def Tn{p l W d}(g:Inv p l W d){B}(f:B∈d.aC){n c}(i:gH n c d)(s t:yB)(u:c+(7+s.size+t.size)<=1048576)(w:n+1<200000):yC 13 #[pV (qA B.bb),sV s,sV t] W λe w'=>∃b,e=rV (bV b)/\BQ p d (n+1) (c+(7+s.size+t.size)) w':=by
 have o:s.size<=maxLen/\t.size<=maxLen/\s.size<=1048576/\t.size<=1048576:=by unfold maxLen;omega
 have r:∀{a:Nat},a<=12*c+(12*s.size+84)->a<=12*(c+(7+s.size+t.size)):=λv=>by omega
 let⟨S,k⟩:=g.bk B f;have j:=k.tr.ok;refine(Qx k (g.cP B f) (g.pf f) g.bz g.l3 s t o.1 o.2.1 (by have:=(i.mm B f).1;omega)).mono ?_;rintro e w'⟨b,q,h⟩;have h0:=(i.mm B f).1;have h1:=i.nm B f;have h2:=Pv jr (ah (d.ps B.sb)) B.t s t j;have h3:=rJ jr (ah (d.ps B.sb)) _ s (NA (G:=ah (d.ps B.sb)) (key:=s) (value:=t) j);have h4:=vr B.m s t;refine⟨_,q,h.elim (λ⟨_,h⟩=>?_) λ⟨_,h⟩=>?_⟩<;>exact g.uP f i (by omega) (by omega) h (by omega) (r (by omega))
def TC{o l W d}(g:Inv o l W d){B}(f:B∈d.aC){n c}(j:gH n c d)(s t:yB)(u:c+(7+s.size+t.size)<=1048576)(w:n+1<200000):yC 14 #[pV (qA B.bb),sV s] W λe w'=>∃b,e=rV (bV b)/\BQ o d (n+1) (c+(7+s.size+t.size)) w':=by
 have r:s.size<=maxLen/\t.size<=maxLen/\s.size<=1048576/\t.size<=1048576:=by unfold maxLen;omega
 have q:∀{a:Nat},a<=12*c+(12*s.size+84)->a<=12*(c+(7+s.size+t.size)):=λv=>by omega
 let⟨S,i⟩:=g.bk B f;have k:=i.tr.ok;refine(QO i (g.cP B f) (g.pf f) g.bz g.l3 s r.1 (by have:=(j.mm B f).1;omega)).mono ?_;rintro e w'⟨b,p,h⟩;have h0:=(j.mm B f).1;have h1:=j.nm B f;have h2:=Px jr (ah (d.ps B.sb)) B.t s k i.loose;have h3:=rJ jr (ah (d.ps B.sb)) _ s (R5 (G:=ah (d.ps B.sb)) (key:=s) k i.loose);have h4:=vr B.m s ⟨#[]⟩;refine⟨_,p,h.elim (λ⟨_,h⟩=>?_) λ⟨_,h⟩=>?_⟩<;>exact g.uP f j (by omega) (by omega) h (by omega) (q (by omega))
def Tj{j l W d}(g:Inv j l W d){B}(f:B∈d.aC){n c}(h:gH n c d)(s t:yB)(u:c+(7+s.size+t.size)<=1048576):yC 15 #[pV (qA B.bb),sV s] W λe w'=>∃b,e=rV (bV b)/\BQ j d (n+1) (c+(7+s.size+t.size)) w':=by
 have r:s.size<=maxLen/\t.size<=maxLen/\s.size<=1048576/\t.size<=1048576:=by unfold maxLen;omega
 have q:∀{a:Nat},a<=12*c+(12*s.size+84)->a<=12*(c+(7+s.size+t.size)):=λv=>by omega
 let⟨S,i⟩:=g.bk B f;have k:=i.tr.ok;refine(Ap i (g.cP B f) (g.pf f) g.bz s r.1).mono ?_;rintro e w'⟨b,p,o⟩;refine⟨_,p,g.uP f h (by omega) (by omega) (m:=B.m) (mv:=B.mv) o (by have:=(h.mm B f).1;omega) (q ?_)⟩;have h1:=h.nm B f;have h3:=rJ jr (ah (d.ps B.sb)) B.t s k;omega
def To{j l W d}(g:Inv j l W d){B}(f:B∈d.aC){n c}(h:gH n c d)(s t:yB)(u:c+(7+s.size+t.size)<=1048576):yC 20 #[pV (qA B.bb),sV s] W λe w'=>∃b,e=rV (bV b)/\BQ j d (n+1) (c+(7+s.size+t.size)) w':=by
 have r:s.size<=maxLen/\t.size<=maxLen/\s.size<=1048576/\t.size<=1048576:=by unfold maxLen;omega
 have q:∀{a:Nat},a<=12*c+(12*s.size+84)->a<=12*(c+(7+s.size+t.size)):=λv=>by omega
 let⟨S,i⟩:=g.bk B f;have k:=i.tr.ok;refine(Gw i (g.cP B f) (g.pf f) g.bz g.l3 s r.1).mono ?_;rintro e w'⟨b,p,o⟩;refine⟨_,p,g.uP f h (by omega) (by omega) (m:=B.m) (mv:=B.mv) o (by have:=(h.mm B f).1;omega) (q ?_)⟩;have h1:=h.nm B f;have h3:=rJ jr (ah (d.ps B.sb)) B.t s k;omega
def Ts{p l W d}(g:Inv p l W d){B}(f:B∈d.aC){n c}(i:gH n c d)(s t:yB)(D:c+(7+s.size+t.size)<=1048576)(k x y z:Int)(A:Rg y)(C:Rg z):yC 21 #[pV (qA B.bb),jb k x y z s t] W λe w'=>∃b,e=rV (bV b)/\BQ p d (n+1) (c+(7+s.size+t.size)) w':=by
 have w:s.size<=maxLen/\t.size<=maxLen/\s.size<=1048576/\t.size<=1048576:=by unfold maxLen;omega
 have v:∀{a:Nat},a<=12*c+(12*s.size+84)->a<=12*(c+(7+s.size+t.size)):=λE=>by omega
 let⟨S,o⟩:=g.bk B f;have j:=o.tr.ok;refine(QM o (g.cP B f) (g.pf f) g.bz g.l3 k x y z s t w.1 (by omega) A C).mono ?_;rintro e w'⟨q,u,h⟩;have r:=Ib (ah (d.ps B.sb)) j s;have h1:=i.nm B f;have h3:=rJ jr (ah (d.ps B.sb)) B.t s j;have h4:=rJ jr (ah (d.ps B.sb)) _ s r;refine⟨_,u,h.elim (λh=>?_) λh=>?_⟩<;>exact g.uP f i (by omega) (by omega) (m:=B.m) (mv:=B.mv) h (by have:=(i.mm B f).1;omega) (v (by omega))
def Tr{j l W d}(D:Inv j l W d){n c s}(G:gH n c d)(N:c<=s)(A0:n+1<200000){A B}(M:d.bv=lV A d.aC.length B){f o}(z:fv W f (λ_=>lV none 0 0) [])(T:l f=pr f 0)(F:eX W o (qA f) (λ_=>False) .nil)(S:l o=pr o 0)(u:∀C∈d.aC,C.sb≠f/\C.tb≠o)(H:∀R∈d.ao,f≠R.sb):∃a' m' c1 w' v,(Builtin.append_ #[27,27] 27 #[lV A d.aC.length B,lV (some ⟨W.heap.size+2,0,none⟩) 1 1]).run yP (((W.alloc (.cells #[bV false,bV false] 44)).alloc (.cells #[pV (qA f),pV (qA o),lV none 0 0,lV none 0 0,pV (qA W.heap.size)] 47)).alloc (.cells #[pV (some ⟨W.heap.size+1,0,none⟩)] 41))=.ok (lV a' m' c1) w'/\(w'.cell? ⟨j,0,none⟩=some v/\w'.frozen? ⟨j,0,none⟩=false/\j<w'.heap.size)/\BQ j d (n+1) s (w'.setCell ⟨j,0,none⟩ (lV a' m' c1)):=by
 have Y:=G.len;have y:gH (n+1) s d:=G.mono (by omega) N;obtain⟨k,q⟩:∃k,k=W.alloc (.cells #[bV false,bV false] 44):=⟨_,rfl⟩
 have z1:k.heap.size=W.heap.size+1:=by rw[q];exact nO W _
 have m1:Mv (λ_=>False) l (fA l W.heap.size (pr W.heap.size 0)) W k:=by rw[q];exact Mv.qL l W _ _
 have E:=D.idle (m1.j9 _);obtain⟨a,i⟩:∃a:eO,a=⟨k.heap.size,f,o,W.heap.size,lV none 0 0,lV none 0 0,.nil,[],[]⟩:=⟨_,rfl⟩
 have K:Ca (fA l W.heap.size (pr W.heap.size 0)) k a (λ_=>False):=by
  rw[i];refine⟨F.same m1.size λx _ Q=>m1.ai x Q id,trivial,(λx m=>m.elim),(nP F.lt).trans S,U8 _ _ _ _,(λg O=>by cases O),o9,(by show 0<_;decide),⟨rfl,rfl⟩⟩
 have U:∀x,cy f (λ_=>Value.slice none 0 0) x->x=f:=λx m=>by
  rcases m with h|⟨c,_,h⟩
  .exact h
  simp[Value.ownBlock] at h
 have V:f<W.heap.size:=z.st.eM f (.inl rfl);have I:cI (fA l W.heap.size (pr W.heap.size 0)) (fD a) k a.sb a.hb false false (λ_=>lV none 0 0) []:=by
  rw[i];refine⟨by show k.heap[W.heap.size]? =_;rw[q];exact qx W _,oR (Ug _),z.kept λx m=>m1.ai x (z.st.eM x m) id,λx m=>?_⟩;rw[U x m];exact(nP V).trans T
 let⟨a',c1,w',p,X,P,l',mA,J⟩:=FC E K I (by rw[i]) (by omega) (by rw[i];exact λC b=>(u C b).2) ⟨by
  rw[i];intro C b;have Z:=lF (D.iJ b).2.2.2;have r:C.hb≠W.heap.size:=by omega
  exact⟨⟨λe=>absurd e r,λe=>absurd e (u C b).1⟩,λe=>absurd e r⟩,by rwa[i]⟩
 rw[i] at p;simp only at p;rw[M,q] at p;have t:=P.trans E.wo.ai;rw[show(W.alloc (.cells #[bV false,bV false] 44)).heap.size=W.heap.size+1 from nO W _] at p;refine⟨a',_,c1,w',_,p,⟨by rw[Ur w' j 0 _ _ _ t];rfl,US w' j 0 _ _ t,(Um.1 t).1⟩,l',_,J,?_,?_⟩
 .have w:∀C∈d.aC++[a],C∈d.aC\/C=a:=λC b=>by
   rcases UA.1 b with h1|h1
   .exact .inl h1
   exact .inr (Uo.1 h1)
  refine⟨by show(d.aC++[a]).length<=_;rw[Uq,Vm];omega,λC b=>?_,λC b=>?_,λC b=>?_⟩
  .rcases w C b with h1|e
   .exact y.mm C h1
   rw[e,i];exact⟨UD _,UD _⟩
  .rcases w C b with h1|e
   .exact y.nm C h1
   rw[e,i];exact UD _
  show(aE d.ps a.sb [] C.sb).length<=_;rcases w C b with h1|e
  .have r:C.sb≠a.sb:=by rw[i];exact(u C h1).1
   rw[cl _ _ r];exact y.ps C h1
  rw[e,cF];exact UD _
 refine⟨rfl,rfl,λR L=>?_⟩;show aE d.ps a.sb [] R.sb=_;rw[cl _ _ (by rw[i];exact λe=>H R L e.symm)]
def Tq{q l w d}(h:Inv q l w d){n c}(o:gH n c d)(k x y z:Int)(T:Rg x)(U:Rg y)(hz:Rg z)(s t:yB)(J:c+(7+s.size+t.size)<=1048576)(M:n+1<200000):yC 7 #[pV (qA q),jb k x y z s t] w λe w'=>∃b,e=rV (bV b)/\BQ q d (n+1) (c+(7+s.size+t.size)) w':=by
 let⟨ar,cr,I⟩:=h.Bz;have B3:=o.len;have B6:s.size<=maxLen/\t.size<=maxLen/\s.size<=1048576/\t.size<=1048576:=by unfold maxLen;omega
 let⟨B,hB⟩:=yX (d.aC.getD (bW x d.aC.length) mN);have Y:0<d.aC.length->d.aC[bW x d.aC.length]? =some B:=λh0=>by
  rw[hB,Up,Uh (ky x _ h0)];rfl
 have D:0<d.aC.length->B∈d.aC:=λh0=>UQ (Y h0)
 have B4:∀{a:Nat},a<=12*c+(12*s.size+84)->a<=12*(c+(7+s.size+t.size)):=λhh=>by omega
 have E:gH (n+1) (c+(7+s.size+t.size)) d:=o.mono (by omega) (by omega);unfold jb;refine(Tp w q B.bb d.aC.length cr ar k x y z s t (ae bM) (by omega)
  (sT q d w.heap.size k x y z s t)
  (λW=>∃l us N G d1,d1=d.cP B.sb B.hb N (d.dW B.hb) us G/\G.length<=(d.ps B.sb).length+1/\Inv q l W d1/\B∈d.aC)
  (λ_ W=>BQ q d (n+1) (c+(7+s.size+t.size)) W)
  (λg W=>∃l0 w0,Inv q l0 w0 d/\g=w0.heap.size/\yW w0 W/\fv W g (λ_=>lV none 0 0) [])
  (λg F W=>∃l,Inv q l W d/\fv W g (λ_=>lV none 0 0) []/\l g=pr g 0/\eX W F (qA g) (λ_=>False) .nil/\l F=pr F 0/\(∀C∈d.aC,C.sb≠g/\C.tb≠F)/\(∀R∈d.ao,g≠R.sb))
  ?_ ?_ ?_ ?_ ?_ ?_ ?_ ?_ ?_ ?_ ?_ ?_ ?_ ?_ ?_ ?_ ?_ ?_ ?_ ?_ ?_ ?_).mono ?_
 .have A4:yW w (w.alloc (.cells #[i6 k,i6 x,i6 y,i6 z,sV s,sV t] 33)):=(Un _ _).alloc (Ug _) _;exact⟨_,h.idle (Mv.below (fO []) l A4),iK.new w k x y z s t,ou (Ug _)⟩
 .let⟨k0,kw,_⟩:=h.te;rw[I] at k0;exact⟨k0,kw⟩
 .rintro W⟨l,f,V,_⟩;let⟨k0,kw,_⟩:=f.te;rw[I] at k0;let⟨b0,b1,b2,b3,b4,b5⟩:=V.cells;exact⟨⟨k0,kw⟩,b0,b1,b2,b3,b4,b5,V.lt⟩
 .intro W n f;exact f.idle (ig (Un _ _) n)
 .rintro W⟨l,f,_,_⟩ _;refine(tN 3 W).mono ?_;rintro e w1⟨i,hP,p⟩;exact⟨_,i,l,W,f,rfl,p,zT f.bz.size hP⟩
 .rintro g W⟨l0,w0,f,e1,p,hs⟩;refine(ph W (f.bz.below p)).mono ?_;rintro e w'⟨i,A⟩;exact⟨i,l0,w0,f,e1,p.trans (A.mono p.size),hs.below A⟩
 .rintro g W⟨l0,w0,f,e1,p,hs⟩;have B8:=p.size;have B5:g<W.heap.size:=hs.st.eM g (.inl rfl);have B1:bP bM=.nil:=by unfold bP;rw[Uj rfl]
  have X:=sL W (qA g) bM (kE _) (f.bz.below p);rw[B1] at X;apply X.mono;rintro e w'⟨tb,u,i,B7,A3,hA,L⟩;have A:=p.trans (L.mono p.size);have m1:Mv (λ_=>False) l0 (λx=>if x<w0.heap.size then l0 x else pr x 0) w0 w':=⟨A.os,A.tape,A.output,A.size,λk Q=>Uj Q,λk Q _=>A.block k Q⟩
  have h3:=f.bz.size;refine⟨tb,i,_,f.idle (m1.j9 _),hs.below L,Ui (by omega),⟨⟨u,A3,?_⟩,mE 0,λx T=>T.elim⟩,Ui (by omega),λC r=>⟨λe=>?_,λe=>?_⟩,λR O e=>?_⟩
  .have A0:=hA;exact A0
  .have:=lF (f.iJ r).2.2.1;omega
  .have:=lF (f.iJ r).2.1;omega
  have:=lF (f.kx O).2.2.2;omega
 .rintro g F W⟨l,f,_⟩;let⟨k0,kw,_⟩:=f.te;rw[I] at k0;exact⟨k0,kw⟩
 .rintro g F W⟨l,f,B0,A9,hT,A8,A5,A6⟩;let⟨a',m',c1,w',v,h1,h2,h3⟩:=Tr f o (by omega:c<=c+(7+s.size+t.size)) M I B0 A9 hT A8 A5 A6;exact⟨a',m',c1,w',v,h1,h2,h3⟩
 .rintro W⟨l,f,_,_⟩ _;exact⟨l,d,f,E,RS.refl d⟩
 .intro W h0;exact qq x _ T h0 (by omega) W
 .rintro W⟨l,f,_,_⟩ h0;exact f.sA I (Y h0)
 .rintro W⟨l,f,_,_⟩ h0 _;exact Tn f (D h0) o s t J M
 .rintro W⟨l,f,_,_⟩ h0 _;exact TC f (D h0) o s t J M
 .rintro W⟨l,f,_,_⟩ h0 _;exact Tj f (D h0) o s t J
 .rintro W⟨l,f,_,_⟩ h0 _;refine(QR f (D h0) o (by omega) M).mono ?_;rintro e w'⟨i,l',d',h1,h2,h4⟩;exact⟨true,i,l',d',h1,h2.mono (Ug _) (by omega),h4⟩
 .rintro W⟨l,f,_,_⟩ h0 _;have j:=D h0;let⟨S,P⟩:=f.bk B j;refine(QA P (f.cP B j) f.bz y U).mono ?_;rintro e w'⟨b,i,L⟩;exact⟨_,i,_,d,f.idle (Mv.below (fO []) l L),E,RS.refl d⟩
 .rintro W⟨l,f,_,_⟩ h0 _;exact To f (D h0) o s t J
 .rintro W⟨l,f,_,_⟩ h0 _;exact Ts f (D h0) o s t J k x y z U hz
 .rintro W⟨l,f,_,_⟩ h0 _;have j:=D h0;let⟨S,P⟩:=f.bk B j;refine(QC P (f.cP B j) (f.pf j) f.bz k x y z s t U (by have:=o.ps B j;omega)).mono ?_;rintro e w'⟨i,N,G,A7,l',B2,m,hf⟩;exact⟨i,l',B2,N,G,_,rfl,A7,f.family j m hf,j⟩
 .rintro W⟨l,us,N,G,d1,K,h1,f,j⟩;have q1:d1.aC=d.aC:=by rw[K];rfl
  have A1:B∈d1.aC:=by rwa[q1]
  have q4:d1.ps B.sb=G:=by rw[K];exact cF _ _ _
  have q6:∀x,x≠B.sb->d1.ps x=d.ps x:=λx e=>by rw[K];exact cl _ _ e
  refine(Gt f A1 (by rw[q1];omega)).mono ?_;rintro e w'⟨i,l',_,A2⟩;have Z:∀x,aE d1.ps B.sb (d1.ps B.sb) x=d1.ps x:=λx=>by rw[l7]
  refine⟨i,l',_,A2,?_,⟨by show d1.w0=_;rw[K];rfl,by show d1.ao=_;rw[K];rfl,λR O=>?_⟩⟩
  .refine⟨by show d1.aC.length<=_;rw[q1];omega,λC r=>?_,λC r=>?_,λC r=>?_⟩
   .have H:C∈d.aC:=by rwa[<-q1]
    exact E.mm C H
   .have H:C∈d.aC:=by rwa[<-q1]
    exact E.nm C H
   have H:C∈d.aC:=by rwa[<-q1]
   show(aE d1.ps B.sb (d1.ps B.sb) C.sb).length<=_;rw[Z];by_cases e:C.sb=B.sb
   .rw[e,q4];have h2:=o.ps B j;omega
   rw[q6 _ e];exact E.ps C H
  show aE d1.ps B.sb (d1.ps B.sb) R.sb=_;rw[Z];exact q6 _ λe=>h.br B j R O e.symm
 .rintro W⟨l,f,_,_⟩ _;exact⟨l,d,f,E,RS.refl d⟩
 rintro e w'⟨b,i,hQ⟩;exact⟨b,i,hQ.o⟩
def MI(w0:World)(a n c:Nat)(W:World):Prop:=∃l d,d.w0=w0/\Inv a l W d/\gd n (6000*n) (2*n) (2*n) d/\gH n c d
def MI.below{w0 b n c W a}(h:MI w0 b n c W)(e:yW W a):MI w0 b n c a:=by
 let⟨l,d,h0,h1,h2,h3⟩:=h;exact⟨_,d,h0,h1.idle (Mv.below (fO []) l e),h2,h3⟩
def MI.NZ{w0 a n c W}(h:MI w0 a n c W):yW w0 W:=by
 let⟨l,d,h0,h1,_⟩:=h;rw[<-h0];exact h1.pins.eG
def Mb(w:World)(c:Nat)(k x y z:Int)(s t:yB)(Q:Bool->World->Prop)(i:yH (1<=k->k<=10->yC 7 #[pV (qA c),gV #[i6 k,i6 x,i6 y,i6 z,sV s,sV t]] (w.alloc (.cells #[i6 k,i6 x,i6 y,i6 z,sV s,sV t] 33)) λe w'=>∃b,e=rV (bV b)/\Q b w'))(j:yH (30<=k->k<=39->yC 8 #[pV (qA c),gV #[i6 k,i6 x,i6 y,i6 z,sV s,sV t]] (w.alloc (.cells #[i6 k,i6 x,i6 y,i6 z,sV s,sV t] 33)) λe w'=>∃b,e=rV (bV b)/\Q b w'))(d:yH (Q true (w.alloc (.cells #[i6 k,i6 x,i6 y,i6 z,sV s,sV t] 33)))):yC 6 #[pV (qA c),gV #[i6 k,i6 x,i6 y,i6 z,sV s,sV t]] w λe w'=>∃b,e=rV (bV b)/\yH (Q b w'):=by
 by_cases h1:1<=k/\k<=10
 .have g:=i.o h1.1 h1.2;have o:=aa g;obtain⟨l,m⟩:=h1;clear g;go_enter func6,ntmps6
  go_wp2_with fail
  apply o.m;rintro e w1⟨b,rfl,a⟩;have f:=aa a;clear a;go_wp2;go_ret;exact⟨b,rfl,f⟩
 by_cases h2:30<=k/\k<=39
 .have h:=j.o h2.1 h2.2;have p:=aa h;obtain⟨l,m⟩:=h2;have n:(1:Int)<=k:=by omega
  have q:¬k<=(10:Int):=by omega
  clear h h1;go_enter func6,ntmps6
  go_wp2_with fail
  apply p.m;rintro e w1⟨b,rfl,a⟩;have f:=aa a;clear a;go_wp2;go_ret;exact⟨b,rfl,f⟩
 clear i j;by_cases l:1<=k
 .have m:¬k<=(10:Int):=by omega
  by_cases n:30<=k
  .have q:¬k<=(39:Int):=by omega
   clear h1 h2;go_enter func6,ntmps6
   go_wp2;go_ret;exact .inr ⟨rfl,d⟩
  clear h1 h2;go_enter func6,ntmps6
  go_wp2;go_ret;exact .inr ⟨rfl,d⟩
 have n:¬(30:Int)<=k:=by omega
 clear h1 h2;go_enter func6,ntmps6
 go_wp2;go_ret;exact .inr ⟨rfl,d⟩
def Qu{w0 f n c w}(h:MI w0 f n c w)(k x y z:Int)(m:Rg x)(o:Rg y)(v:Rg z)(s t:yB)(r:c+(7+s.size+t.size)<=1048576)(u:n+1<200000):yC 6 #[pV (qA f),jb k x y z s t] w λe w'=>∃b,e=rV (bV b)/\MI w0 f (n+1) (c+(7+s.size+t.size)) w'/\(k=39->b=true):=by
 have q:yW w (w.alloc (.cells #[i6 k,i6 x,i6 y,i6 z,sV s,sV t] 33)):=(Un _ _).alloc (Ug _) _;let⟨l,d,h0,h1,h2,h3⟩:=h;have i:=h1.idle (Mv.below (fO []) l q);unfold jb;refine(Mb w f k x y z s t (λb W=>MI w0 f (n+1) (c+(7+s.size+t.size)) W/\(k=39->b=true)) (λ_ ha=>?_) (λ_ _=>?_) ⟨⟨_,d,h0,i,h2.mono (by omega) (by omega) (by omega) (by omega),h3.mono (by omega) (by omega)⟩,λ_=>rfl⟩).mono ?_
 .refine(Tq i h3 k x y z m o v s t r u).mono ?_;rintro e w'⟨b,a,l',g,q1,q2,q4⟩;exact⟨b,a,⟨l',g,q4.w0.trans h0,q1,(h2.rs q4).mono (by omega) (by omega) (by omega) (by omega),q2⟩,λh5=>by omega⟩
 .refine(Nt i h2 (by omega) (by omega) (by omega) (by omega) k x y z m o s t (by omega) (by omega)).mono ?_;rintro e w'⟨⟨b,a,p⟩,l',g,q1,q2,q3⟩;exact⟨b,a,⟨l',g,q3.w0.trans h0,q1,q2.mono (Ug _) (by omega) (by omega) (by omega),(h3.ds q3).mono (by omega) (by omega)⟩,λh=>p (by omega)⟩
 rintro e w'⟨b,a,j⟩;exact⟨b,a,j.o.1,j.o.2⟩
def MI.start(w)(T:aB w):MI w w.heap.size 0 0 (w.alloc (.cells #[lV none 0 0,lV none 0 0] 30)):=by
 have d:yW w (w.alloc (.cells #[lV none 0 0,lV none 0 0] 30)):=(Un _ _).alloc (Ug _) _;have h3:=T.size;refine⟨λx=>if x=w.heap.size then pr w.heap.size 0 else 0,⟨[],[],lV none 0 0,lV none 0 0,λ_=>false,λ_=>false,λ_ _=>lV none 0 0,λ_=>[],w⟩,rfl,⟨⟨qx w _,Uj rfl,U8 _ _ _ _,(λg c=>by cases c),U8 _ _ _ _,(λg c=>by cases c)⟩,(λB b=>by cases b),(λB b=>by cases b),(λR a=>by cases a),List.nodup_nil,List.nodup_nil,List.nodup_nil,List.nodup_nil,(λB b=>by cases b),(λB b=>by cases b),(λR a=>by cases a),T.below d,⟨λk e=>Ui (by omega),λk e=>Ui (Nat.ne_of_lt e),d⟩⟩,⟨Ug _,(λR a=>by cases a),(λR a=>by cases a),λR a=>by cases a⟩,⟨Ug _,(λR a=>by cases a),(λR a=>by cases a),λR a=>by cases a⟩⟩
structure iq where
 k:Int
 x:Int
 y:Int
 z:Int
 s:yB
 t:yB
structure sQ(w:World)(g o:Nat)(p:iq):Prop where
 c0:w.cell? ⟨g,o,none⟩=some (iV .i64 p.k)
 c1:w.cell? ⟨g,o+1,none⟩=some (iV .i64 p.x)
 c2:w.cell? ⟨g,o+2,none⟩=some (iV .i64 p.y)
 c3:w.cell? ⟨g,o+3,none⟩=some (iV .i64 p.z)
 c4:w.cell? ⟨g,o+4,none⟩=some (sV p.s)
 c5:w.cell? ⟨g,o+5,none⟩=some (sV p.t)
def sQ.below{w W g o p}(h:sQ w g o p){B}(a:g<B)(k:Below B w W):sQ W g o p:=
 ⟨(Uz (k.block g a)).trans h.c0,(Uz (k.block g a)).trans h.c1,(Uz (k.block g a)).trans h.c2,(Uz (k.block g a)).trans h.c3,(Uz (k.block g a)).trans h.c4,(Uz (k.block g a)).trans h.c5⟩
def kw(p:iq):Nat:=7+p.s.size+p.t.size
def gu(a:List iq)(i:Nat):Nat:=((a.take i).map kw).sum
def Ao(a:List iq)(i:Nat)(p:iq)(h:a[i]? =some p):gu a (i+1)=gu a i+(7+p.s.size+p.t.size):=by
 unfold gu;rw[VF,h];simp[kw]
def wY(a:List iq)(i:Nat)(hi:i<=a.length):gu a i+7*(a.length - i)<=gu a a.length:=by
 obtain⟨d,c⟩:∃d,i+d=a.length:=⟨a.length - i,by omega⟩
 induction d generalizing i with
 |zero=>rw[show i=a.length by omega];omega
 |succ d ih=>have b:a[i]? =some (a[i]'(by omega)):=Uh (by omega);have:=Ao a i _ b;have:=ih (i+1) (by omega) (by omega);omega
def Gu(a:List iq):gu a 0=0:=by simp[gu]
structure qS(w:World)(a:Option Addr)(ops:List iq):Prop where
 tm:gu ops ops.length<=1048576
 at_:∀(i:Nat) (p:iq),ops[i]? =some p->∃g o,a=some ⟨g,o,none⟩/\g<w.heap.size/\sQ w g (o+i*6) p
 rg:∀(i:Nat) (p:iq),ops[i]? =some p->Rg p.x/\Rg p.y/\Rg p.z
def qS.below{w W a c}(h:qS w a c)(k:yW w W):qS W a c:=
 ⟨h.tm,λi p f=>by
  let⟨g,o,e,b,d⟩:=h.at_ i p f
  exact⟨g,o,e,Us b k.size,d.below b k⟩,h.rg⟩
def Qv(a)(cap:Nat)(b:List iq)(w)(H:qS w a b):yC 5 #[lV a b.length cap] w λe w'=>e=rV (bV true)/\∃n,w'=w.drewN n:=by
 have m:yH (∀i (_:i<b.length),∃p,b[i]? =some p/\∃g o,a=some ⟨g,o,none⟩/\sQ w g (o+i*6) p/\gu b (i+1)=gu b i+(7+p.s.size+p.t.size)/\gu b (i+1)<=1048576):=by
  intro i hi;have c:b[i]? =some (b[i]'hi):=Uh hi;obtain⟨g,o,e,_,h⟩:=H.at_ i _ c;have:=wY b (i+1) hi;exact⟨_,c,g,o,e,h,Ao b i _ c,by have:=H.tm;omega⟩
 have C:=aa (Gu b);have D:b.length<=1048576:=by have:=wY b 0 (UD _);have:=H.tm;omega
 clear H;generalize hN:b.length=N at*;have F:¬(1073741824:Int)<(N:Int):=by omega
 go_enter func5,ntmps5
 go_wp2;go_loopg [3,4] N (λg u r wr=>∃i n T:Nat,g=N - i/\i<=N/\r=i6 i/\u=i6 T/\T<=2*1048576/\yH (T<=N+gu b i)/\wr=w.drewN n)
 .exact⟨0,0,N,rfl,by omega,rfl,rfl,by omega,by show _<=_;omega,rfl⟩
 obtain⟨i,n,T,k,hi,rfl,rfl,E,f,l⟩:=hrel;have q:=aa k;have d:=aa l;clear k l;by_cases A:i<N
 .obtain⟨p,c,g,o,rfl,j,B,z⟩:=m.o i A;have r4:yc wr g (o+i*6+4) (sV p.s):=by rw[d.o];exact j.c4
  have r5:yc wr g (o+i*6+5) (sV p.t):=by rw[d.o];exact j.c5
  have x:T+p.s.size+p.t.size<=2*1048576:=by have:=f.o;omega
  have v:yH (T+p.s.size+p.t.size<=N+gu b (i+1)):=by show _<=_;have:=f.o;omega
  clear j c B z f;generalize p.s=s at*;generalize p.t=t at*;have y:(i:Int)<(N:Int):=by omega
  have w1:IntKind.i64.wrap ((T:Int)+(s.size:Int))=(T:Int)+(s.size:Int):=by rw[UY];omega
  have w2:IntKind.i64.wrap ((T:Int)+(s.size:Int)+(t.size:Int))=(T:Int)+(s.size:Int)+(t.size:Int):=by rw[UY];omega
  have G:¬(1073741824:Int)<(T:Int)+(s.size:Int)+(t.size:Int):=by omega
  go_wp2;go_region
  go_wp2;go_roundg (N - (i+1))
  .exact⟨i+1,n+1,T+s.size+t.size,rfl,by omega,by go_num,by go_num,x,v,by rw[d.o];rfl⟩
  have:=q.o;omega
 obtain rfl:i=N:=by omega
 have y:¬(i:Int)<(i:Int):=by omega
 go_wp2;go_ret;exact⟨rfl,n,d.o⟩
def Qy(a)(cap:Nat)(d:List iq)(w)(H:qS w a d)(T:aB w)(A:Nat) (S:w.cell? ⟨A,0,none⟩=some (i6 39)):yC 4 #[lV a d.length cap,lV (qA A) 1 1] w λe w'=>e=rV (bV true)/\yH (yW w w'):=by
 have A3:=aa (Qv a cap d w H);have A4:yH (∀n,MI (w.drewN n) w.heap.size 0 (gu d 0) ((w.drewN n).alloc (.cells #[lV none 0 0,lV none 0 0] 30))):=λn=>by
  rw[Gu];exact MI.start (w.drewN n) (T.below (below_drewN (Un _ w) n))
 have A1:yH (∀n m c W,MI (w.drewN n) w.heap.size m c W->yW w W):=λn m c W h=>(below_drewN (Un _ w) n).trans h.NZ
 have V:yH (∀i (_:i<d.length),∃p:iq,d[i]? =some p/\(∃g o,a=some ⟨g,o,none⟩/\∀W,yW w W->sQ W g (o+i*6) p)/\(Rg p.x/\Rg p.y/\Rg p.z)/\gu d (i+1)=gu d i+(7+p.s.size+p.t.size)/\gu d (i+1)<=1048576):=by
  intro i hi;have l:d[i]? =some (d[i]'hi):=Uh hi;obtain⟨g,o,e,G,h⟩:=H.at_ i _ l;have:=wY d (i+1) hi;exact⟨_,l,⟨g,o,e,λW u=>h.below G u⟩,H.rg i _ l,Ao d i _ l,by have:=H.tm;omega⟩
 have A8:d.length<=149796:=by have:=wY d 0 (UD _);have:=H.tm;omega
 have A0:yH (∀W,yW w W->W.cell? ⟨A,0,none⟩=some (i6 39)):=λW u=>eg u S
 clear H T S;generalize hN:d.length=N at*;clear hN;go_enter func4,ntmps4
 go_wp2_with fail
 apply A3.m;rintro e w1⟨rfl,n1,I⟩;have hz:w1.heap.size=w.heap.size:=by rw[I];rfl
 have A2:yH (MI (w.drewN n1) w.heap.size 0 (gu d 0) (w1.alloc (.cells #[lV none 0 0,lV none 0 0] 30))):=by rw[I];exact A4.o n1
 have D:=aa (A1.o n1);clear I;go_wp2;go_loopg [7] N (λg r wr=>∃i:Nat,g=N - i/\i<=N/\r=i6 i/\yH (MI (w.drewN n1) w.heap.size i (gu d i) wr))
 .exact⟨0,rfl,by omega,rfl,A2⟩
 obtain⟨i,v,hi,rfl,C⟩:=hrel;have O:=aa v;clear v;by_cases G:i<N
 .obtain⟨⟨k,x,y,z,s,t⟩,l,⟨g,o,rfl,F⟩,⟨K,L,M⟩,J,A7⟩:=V.o i G;simp only at K L M J;have X:yH (∀W,yW w W->W.cell? ⟨g,o+i*6,none⟩=some (i6 k)):=λW u=>(F W u).c0
  obtain⟨r0,r1,r2,r3,r4,r5⟩:=F wr (D.o _ _ _ C.o);simp only at r0 r1 r2 r3 r4 r5;have B:=Qu C.o k x y z K L M s t (by omega) (by omega);rw[show gu d i+(7+s.size+t.size)=gu d (i+1) from J.symm] at B;unfold jb at B;have Z:=aa B;clear B K L M J A7 l F C;have A5:(i:Int)<(N:Int):=by omega
  go_wp2_with fail
  apply Z.m;rintro e w2⟨b,rfl,E,f⟩;have Y:=aa f;have HM:yH (∀n,MI (w.drewN n1) w.heap.size (i+1) (gu d (i+1)) (w2.drewN n)):=λn=>E.below (below_drewN (Un _ w2) n)
  have p0:w2.cell? ⟨g,o+i*6,none⟩=some (i6 k):=X.o w2 (D.o _ _ _ E);have p1:w2.cell? ⟨A,0,none⟩=some (i6 39):=A0.o w2 (D.o _ _ _ E);clear r0 r1 r2 r3 r4 r5 f E;go_wp2;go_loopg [9,10] 1 (λg hv r wq=>∃(j n:Nat)(f:Bool),g=1 - j/\j<=1/\hv=bV f/\r=i6 j/\yH (f=true->k=39)/\wq=w2.drewN n)
  .exact⟨0,0,false,rfl,by omega,rfl,rfl,(λh=>by cases h),rfl⟩
  obtain⟨j,n,f,v,hj,rfl,rfl,Q,U⟩:=hrel;have P:=aa v;have q:=aa U;clear v U;by_cases A9:j<1
  .have e0:wr.cell? ⟨g,o+i*6,none⟩=some (i6 k):=by rw[q.o];exact p0
   have e1:wr.cell? ⟨A,j,none⟩=some (i6 39):=by rw[q.o,show j=0 by omega];exact p1
   clear p0 p1;have A6:(j:Int)<(1:Int):=by omega
   cases f
   .go_wp2;go_quiet (fail)
    go_wp2;go_roundg (1 - (j+1))
    .exact⟨j+1,n+nq,_,rfl,by omega,rfl,by go_num,(λh=>by have e:(39:Int)=k:=of_decide_eq_true h;omega),by rw[q.o];exact World.drewN_drewN ..⟩
    have:=P.o;omega
   go_wp2;go_quiet (fail)
   go_wp2;go_roundg (1 - (j+1))
   .exact⟨j+1,n+nq,_,rfl,by omega,rfl,by go_num,(λ_=>Q.o trivial),by rw[q.o];exact World.drewN_drewN ..⟩
   have:=P.o;omega
  obtain rfl:j=1:=by omega
  have A6:¬(1:Int)<(1:Int):=by omega
  have R:yH (MI (w.drewN n1) w.heap.size (i+1) (gu d (i+1)) wr):=by rw[q.o];exact HM.o n
  cases f
  .go_wp2;go_roundg (N - (i+1))
   .exact⟨i+1,rfl,by omega,by go_num,R⟩
   have:=O.o;omega
  obtain rfl:b=true:=Y.o (Q.o rfl);go_wp2;go_roundg (N - (i+1))
  .exact⟨i+1,rfl,by omega,by go_num,R⟩
  have:=O.o;omega
 obtain rfl:i=N:=by omega
 have A5:¬(i:Int)<(i:Int):=by omega
 go_wp2;go_ret;exact⟨rfl,D.o _ _ _ C.o⟩
def Xf(a)(cap:Nat)(c:List iq)(w)(H:qS w a c)(T:aB w):yC 3 #[lV a c.length cap] w λe w'=>e=rV (bV true)/\yW w w':=by
 have b:yW w (w.alloc (.cells #[i6 39] 3)):=(Un _ _).alloc (Ug _) _;have g:yH (yC 4 #[lV a c.length cap,lV (qA w.heap.size) 1 1] (w.alloc (.cells #[i6 39] 3)) λe w'=>e=rV (bV true)/\yW w w'):=
  (Qy a cap c _ (H.below b) (T.below b) w.heap.size (Vx _ _ _ 0 _ rfl)).mono λe w' h=>⟨h.1,b.trans (h.2.o.mono b.size)⟩
 clear H T b;generalize c.length=N at*;go_enter func3,ntmps3
 go_wp2_with fail
 apply g.m;rintro e w1⟨rfl,d⟩;have f:=aa d;clear d;go_wp2;go_ret;exact⟨rfl,f.o⟩
open Go.ChangeShapes Go.WideShapes Go.ChangeAt Go.WideMaps Go.WideElems Go.RowKit Go.Deep
def Jp:yP.cellsOf 33=6:=by kernel_rfl
def SY:yP.cellsOf 3=1:=by kernel_rfl
def SW:yP.cellsOf 9=1:=by kernel_rfl
def Qt:laidOutB yP=true:=by kernel_rfl
def rI{H:Type}(p:iq):DataW H:=.agg [.lit (.int .i64 p.k),.lit (.int .i64 p.x),.lit (.int .i64 p.y),.lit (.int .i64 p.z),.lit (.string p.s.data.toList),.lit (.string p.t.data.toList)]
def zh{n:Int}(h:(Lit.int .i64 n).wf=true):Rg n:=by
 simp only[Lit.wf,Vr,VJ] at h;exact⟨h.1,h.2⟩
def O8{H:Type}{c:TypeId×Value->H}{W:World}{n:Nat}{cs:List Value}{x:DataW H×List MemPlace}(h:DataW.trod c yP W 0 (λ_=>true) true n 33 cs=some x):∃p:iq,cs=[i6 p.k,i6 p.x,i6 p.y,i6 p.z,sV p.s,sV p.t]/\x.1=rI p/\Rg p.x/\Rg p.y/\Rg p.z:=by
 let⟨f,k,_,e,b,d,a⟩:=DataW.trod_struct underlying33 h;rw[Jp] at b;match f,d,cs,b with
 | [y0,y1,y2,y3,y4,y5],_,[v0,v1,v2,v3,v4,v5],_=>have g0:=a 0 _ rfl;have g1:=a 1 _ rfl;have g2:=a 2 _ rfl;have g3:=a 3 _ rfl;have g4:=a 4 _ rfl;have g5:=a 5 _ rfl;simp[SY,SW] at g0 g1 g2 g3 g4 g5;let⟨k0,e0,x0,_⟩:=DataW.trod_int underlying3 g0;let⟨k1,e1,x1,w1⟩:=DataW.trod_int underlying3 g1;let⟨k2,e2,x2,w2⟩:=DataW.trod_int underlying3 g2;let⟨k3,e3,x3,w3⟩:=DataW.trod_int underlying3 g3;let⟨s4,e4,x4,_⟩:=DataW.trod_string underlying9 g4;let⟨s5,e5,x5,_⟩:=DataW.trod_string underlying9 g5;simp only[VD,and_true] at e0 e1 e2 e3 e4 e5;subst e0 e1 e2 e3 e4 e5 x0 x1 x2 x3 x4 x5;refine⟨⟨k0,k1,k2,k3,s4,s5⟩,rfl,?_,zh w1,zh w2,zh w3⟩;rw[e];rfl
def Tg{H:Type}(p:iq):Rows.uptoBulk (rI p:DataW H)=kw p:=by
 let⟨k,x,y,z,s,t⟩:=p;unfold rI kw;simp only[Rows.uptoBulk,Rows.uptoBulkAll,Array.length_toList,ByteArray.size];omega
def Tf{H:Type}(a:List iq):Rows.uptoBulkAll (a.map (rI:iq->DataW H))=(a.map kw).sum:=by
 induction a with
 |nil=>rfl
 |cons p a ih=>simp only[List.map_cons,Rows.uptoBulkAll,List.sum_cons,ih,Tg]
def OY{H:Type}{E:TypeId×Value->H}{W:World}{n:Nat}{v0:Value}{x:DataW H×List MemPlace}(h:DataW.trod E yP W 0 (λ_=>true) true n 22 [v0]=some x)(w:Rows.uptoBulk x.1<=1048576):∃a cap ops,v0=lV a (List.length ops) cap/\qS W a ops:=by
 rcases open_slice underlying22 h with⟨e,_⟩|⟨a,c,cap,m,k,D,R,e,_,T,U,B,P,G⟩
 .simp only[VD,and_true] at e;exact⟨none,0,[],e,⟨by simp[gu],λi p b=>by simp at b,λi p b=>by simp at b⟩⟩
 simp only[VD,and_true] at e;simp only[U5] at B;subst B;haveI:Inhabited iq:=⟨⟨0,0,0,0,⟨#[]⟩,⟨#[]⟩⟩⟩
 have C:∀i,i<m->∃p:iq,(∃d,W.cells? 0 (a.add (i*6)) 6=some d/\d=[i6 p.k,i6 p.x,i6 p.y,i6 p.z,sV p.s,sV p.t])/\D i=rI p/\Rg p.x/\Rg p.y/\Rg p.z:=λi hi=>by
  let⟨d,h1,h2⟩:=G i hi;rw[Jp] at h1;let⟨p,e1,e2,r⟩:=O8 h2;exact⟨p,⟨d,h1,e1⟩,e2,r⟩
 let⟨f,l⟩:=choose_lt C;have M:(List.range c).map D=((List.range c).map f).map rI:=by
  rw[List.map_map];exact Vz λi hi=>(l i (by have:=Vq.1 hi;omega)).2.1
 have O:gu ((List.range c).map f) ((List.range c).map f).length<=1048576:=by
  rw[P] at w;simp only[Rows.uptoBulk] at w;rw[M,Tf] at w;unfold gu;rw[VM];omega
 have A:∀(i:Nat) (p:iq),((List.range c).map f)[i]? =some p->i<c/\p=f i:=λi p b=>by
  rw[UK] at b;by_cases hi:i<c
  .rw[List.getElem?_range hi] at b;exact⟨hi,by simpa using b.symm⟩
  rw[U9 (by simpa using hi)] at b;simp at b
 refine⟨some a,m,(List.range c).map f,by rwa[UM,List.length_range],⟨O,λi p b=>?_,λi p b=>?_⟩⟩
 .obtain⟨hi,rfl⟩:=A i p b;obtain⟨⟨d,h1,rfl⟩,_⟩:=l i (by omega);let⟨_,_,J⟩:=World.cells?_some h1;let⟨g,o,Q⟩:=a;have N:Q=none:=by
   obtain⟨⟨S,h10,rfl⟩,_⟩:=l 0 (by omega);let⟨_,_,K⟩:=World.cells?_some h10;have q0:=K 0 (by omega);have:=World.cell?_spot (v:=i6 (f 0).k) (by simpa using q0);simpa [Addr.add] using this
  subst N;have F:∀j,((⟨g,o,none⟩:Addr).add (i*6)).add j=⟨g,o+i*6+j,none⟩:=λj=>by rw[Addr.add_lit,Addr.add_lit]
  have q:∀j,j<6->W.cell? ⟨g,o+i*6+j,none⟩=[Value.int .i64 (f i).k,i6 (f i).x,i6 (f i).y,i6 (f i).z,sV (f i).s,sV (f i).t][j]? :=λj L=>by
   have:=J j L;rwa[F j] at this
  have c0:=q 0 (by omega);have c1:=q 1 (by omega);have c2:=q 2 (by omega);have c3:=q 3 (by omega);have c4:=q 4 (by omega);have c5:=q 5 (by omega);have I:g<W.heap.size:=UE W _ (u:=i6 (f i).k) (show W.cell? ⟨g,o+i*6+0,none⟩=_ from c0);exact⟨g,o,rfl,I,⟨c0,c1,c2,c3,c4,c5⟩⟩
 obtain⟨hi,rfl⟩:=A i p b;exact(l i (by omega)).2.2
open Go.ChangeShapes Go.WideShapes Go.ChangeAt Go.WideMaps Go.WideElems Go.RowKit
open Go.ChangeMaps (setBlock shut_map_nil open_string shut_string keptBut_setBlock frozen?_setBlock heap_setBlock_same)
def OP:ownKnob yP.godebug=none:=by kernel_rfl
def Ie:yP.globalNamed "ledger/keccak.turns" =some 1:=by kernel_rfl
def Ig:yP.globalNamed "ledger/keccak.moves" =some 2:=by kernel_rfl
def Ic:yP.globalNamed "ledger/keccak.roundWords" =some 0:=by kernel_rfl
def LR:(yP.globals[1]?).map (·.type)=some 145:=by kernel_rfl
def LS:(yP.globals[2]?).map (·.type)=some 192:=by kernel_rfl
def LQ:(yP.globals[0]?).map (·.type)=some 174:=by kernel_rfl
def S7:yP.cellsOf 145=25:=by kernel_rfl
def S5:yP.cellsOf 192=25:=by kernel_rfl
def S6:yP.cellsOf 174=24:=by kernel_rfl
def Jr:yP.cellsOf 144=1:=by kernel_rfl
def S4:yP.cellsOf 3=1:=by kernel_rfl
def vD:List Int:=CF.map Int.ofNat
def wQ:List Int:=FR.map Int.ofNat
def vo:List Int:=yg.map Int.ofNat
def Am:List (String×DataW Unit):=[("ledger/keccak.turns",Lib.tabData .u64 vD),("ledger/keccak.moves",Lib.tabData .i64 wQ),("ledger/keccak.roundWords",Lib.tabData .u64 vo)]
def Ll(j:Nat)(h:j<25):vD.getD j 0=((nK j:Nat):Int):=by
 have:∀j:Fin 25,vD.getD j 0=((nK j:Nat):Int):=by decide
 exact this ⟨j,h⟩
def PR(j:Nat)(h:j<25):wQ.getD j 0=((my j:Nat):Int):=by
 have:∀j:Fin 25,wQ.getD j 0=((my j:Nat):Int):=by decide
 exact this ⟨j,h⟩
def Kv(j:Nat)(_h:j<24):vo.getD j 0=((qW j:Nat):Int):=by
 unfold vo qW;rw[Up,Up,UK];cases yg[j]?<;>rfl
def Pf{W}(h:laidMetH yP Am W):aB W:=by
 rw[MakeChecks.laidMetH_plain _ _ _ (by kernel_rfl)] at h;have h1:=Lib.tabIs_of_head Ie LR underlying145 underlying144 Jr S7 h;have h2:=Lib.tabIs_of_head Ig LS underlying192 underlying3 S4 S5 h.tail;have h3:=Lib.tabIs_of_head Ic LQ underlying174 underlying144 Jr S6 h.tail.tail;have k1:∀j,j<25->W.cell? ⟨1,j,none⟩=some (iV .u64 (nK j)):=λj a=>by
  rw[h1.cell Ie j (show j<vD.length from a),Ll j a]
 have k2:∀j,j<25->W.cell? ⟨2,j,none⟩=some (i6 (my j)):=λj a=>by
  rw[h2.cell Ig j (show j<wQ.length from a),PR j a]
 have k3:∀j,j<24->W.cell? ⟨0,j,none⟩=some (iV .u64 (qW j)):=λj a=>by
  rw[h3.cell Ic j (show j<vo.length from a),Kv j a]
 exact⟨UE _ _ (k2 0 (by decide)),k3,k1,k2⟩
def Sb(b:Os)(a:Array Value):laidMetH yP Am ((World.doorLaid yP 24 b).forCall (λ_ _=>0) ⟨#[],a,[]⟩).memory:=
 laidMetH_of_parts3 (fuel:=8) (laidMet_of_run' 8 (by kernel_rfl) (by kernel_rfl)) (by kernel_rfl) (by kernel_rfl)
open Go.ChangeShapes Go.WideShapes Go.ChangeAt Go.WideMaps Go.WideElems Go.RowKit
def Xg(a:Os)(H:Type)(c:TypeId×Value->H):∃(w:World)(b:Tape)(i:Input),w.os=a/\(w.forCall b i).Shaped yP/\i.vars=[]/\Input.okWide yP (w.forCall b i) .any w.heap.size 3 i/\
  (Rows.OpenSpec.upto Rows.showsSpec).preRow c yP f3 Rows.showsUptoRow.domain false Am (w.forCall b i).memory i.args/\({}:Assume).holds yP (lone (Frame.enter yP 3 i.args .normal) [] (w.forCall b i)):=by
 have d:Input.okWideB yP ((World.doorLaid yP 24 a).forCall (λ_ _=>0) ⟨#[],#[lV none 0 0],[]⟩) 3 ⟨#[],#[lV none 0 0],[]⟩=true:=by kernel_rfl
 have f:DataW.whole c yP ((World.doorLaid yP 24 a).forCall (λ_ _=>0) ⟨#[],#[lV none 0 0],[]⟩).memory f3.params.toList Rows.showsSpec.vars false #[Value.slice none 0 0].toList 8=some ([.nil],[],[]):=by kernel_rfl
 refine⟨World.doorLaid yP 24 a,λ_ _=>0,⟨#[],#[lV none 0 0],[]⟩,rfl,World.shaped_of_RefB (by kernel_rfl) (by kernel_rfl),(Input.okWide_of_okWideB (base:=0) d).1,(Input.okWide_of_okWideB d).2,?_,?_⟩
 .exact OpenSpec.preRow_of_cond 8 f (by kernel_rfl) (λk e=>by cases e;kernel_rfl) (by kernel_rfl) (Sb a _)
 simp only[Assume.holds];exact⟨by simp,by simp,λ_=>Modest.zero,by simp,by simp⟩
def Xh(g:Os)(L:g.Started)(H:Type)(c:TypeId×Value->H)(F:Stop.Interp):ReturnsInHanded {} checked g 3 .any ((Rows.OpenSpec.upto Rows.showsSpec).preRow c yP f3 Rows.showsUptoRow.domain false Rows.showsUptoRow.laid) (((Rows.OpenSpec.upto Rows.showsSpec).at F).post c yP f3 false true false false):=by
 refine returnsInHanded_of_row (C:=checked) (s:=Rows.OpenSpec.upto Rows.showsSpec) OP L (by kernel_rfl) func3 (Xg g H c) ?_;intro W base args m N M I k _ z _ r _ _;have l:=I;have f:=k;obtain⟨p,q,o,u,rfl,O,P⟩:=k;have i:=o;rw[params3] at i l;obtain⟨v0,d0,rfl,rfl,h0⟩:=trodAll_one i;obtain⟨rfl,rfl⟩:=trodVars_none u;have n:=h0;let⟨fuel,A⟩:=h0;simp only[UU] at f;have B:∀x∈p,x.block<W.heap.size:=λx J=>by simpa using f.lt x J
 have w:∀(d:World),yW W d->DataW.Trod c yP d 0 (λb=>decide (b<W.heap.size)) true 22 v0 d0 p:=
  λd D=>Below.trod Qt (by kernel_rfl) (of_decide_eq_true (by kernel_rfl)) n D B
 have y:Rows.uptoBulk d0<=1048576:=by
  have h:=of_decide_eq_true (z _ rfl);simp only[UU,Rows.uptoBulkAll] at h;omega
 obtain⟨a0,l0,c0,rfl⟩:=okWide_slice underlying22 (l 0 22 v0 rfl rfl);let⟨a,cap,K,G,E⟩:=OY (v0:=.slice a0 l0 c0) (x:=(d0,p)) A y;have T:=Pf r;have e1:Rows.showsSpec.fn H ([d0]++[])= {results:=[.lit (.bool true)],args:=[d0]}:=by simp[Rows.showsSpec]
 injection G with h1 h2 h3;subst h1 h2 h3;refine(Xf _ _ K W E T).mono λe d⟨he,hw⟩=>?_
 subst he;refine⟨_,rfl,_,_,_,[],p,[],f,?_,?_,?_,hw.frame _,λh=>by cases h⟩
 .rw[show((Rows.OpenSpec.upto Rows.showsSpec).at F).fn H ([d0]++[])=_ from e1];exact trodAll_mk1 (shut_bool underlying4 true)
 .rw[show((Rows.OpenSpec.upto Rows.showsSpec).at F).fn H ([d0]++[])=_ from e1];exact trodAll_mk1 (w _ hw)
 rw[show((Rows.OpenSpec.upto Rows.showsSpec).at F).fn H ([d0]++[])=_ from e1];rfl
open Go.ChangeShapes Go.WideShapes Go.ChangeAt Go.WideMaps Go.WideElems Go.RowKit
def Xi:(yP.closure 3).contains 81=true:=by kernel_rfl
def Xj:(((yP.funcs[81]?).elim [] yP.leadsTo).any λh=>(yP.closure h).contains 81)=true:=by kernel_rfl
def Xk:yP.recurses 3=true:=by
 unfold Program.recurses;rw[Bool.or_eq_true];exact .inr (List.any_eq_true.2 ⟨81,List.contains_iff_mem.1 Xi,Xj⟩)
def Xl:joinedFacts yP 3 f3 (Rows.OpenSpec.upto Rows.showsSpec).bare Rows.showsUptoRow=true:=by
 unfold joinedFacts;rw[Xk];kernel_rfl
def Xm:Rows.ShowsUptoSaid:=
 OpenClaim.holds_of_cond 3 f3 rfl rfl rfl rfl rfl rfl rfl ⟨rfl,rfl,rfl,rfl,rfl⟩ rfl rfl rfl rfl rfl (by kernel_rfl) func3 Xl
  (of_decide_eq_true (by kernel_rfl)) (by unfold Func.isWrapper;first| (rw[Uj (by decide+kernel)];kernel_rfl) | (rw[Ui (by decide+kernel)];exact⟨rfl,rfl⟩))
  (λb c H a _ F=>by rw[OpenClaim.pre_eq_preRow];exact Xh b c H a F)
def Xn(f:FuncId)(a:Func)(c:Tryz.pinned.checked.prog.funcNamed "ledger/ledgerkeep.Shows" =some f)(d:Tryz.pinned.checked.prog.funcs[f]? =some a):false=Tryz.pinned.checked.prog.looks []/\∀(j:Nat) t,a.params[j]? =some t->Tryz.pinned.checked.prog.wantsStandIn t=false:=by
 obtain rfl:f=3:=Option.some.inj ((show yP.funcNamed "ledger/ledgerkeep.Shows" =some 3 by kernel_rfl).symm.trans c) |>.symm;obtain rfl:a=f3:=(Option.some.inj (func3.symm.trans d)).symm;refine⟨by kernel_rfl,fun j t b=>?_⟩;rw[params3] at b;obtain rfl:t=22:=by simpa using Array.mem_of_getElem? b
 exact(show yP.wantsStandIn 22=false by kernel_rfl)
theorem shows_card:Rows.ShowsUptoCardSaid:=
 Claim7.holds_tied_plain_at .later [] _ _ _ _ Xm (λ_ h=>by cases h) (by kernel_rfl) (λ_ h=>by cases h) showsUpto_row_tie rfl ⟨rfl,rfl⟩ (by kernel_rfl) rfl Xn (by kernel_rfl)
end Go.Proofs.YteaodagofkcgbaaGreatDoor
