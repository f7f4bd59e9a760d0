import Derived.Test.YtiimkkahmpmhdaaGreatDoorR
import Derived.Test.YtiimkkahmpmhdaaGreatDoorS
open Go.Proofs.Tryz
open Go.Proofs.Tryz renaming prog→yP
open Go.Value renaming string→sV,pointer→pV,int→iV,slice→lV,bool→bV,tuple→tV,agg→gV
open Go.Ending renaming returned→rV
namespace Go.Proofs.YtiimkkahmpmhdaaGreatDoor
open Go.RowKit
set_option maxRecDepth 100000
set_option maxHeartbeats 0
set_option linter.all false
def mr(G:yB->Option yB)(b a:Bool)(t:Nd)(m:List (yB×yB))(key:yB):Bool:=
 if 40<key.size then true
 else if(aW G t key).2.2≠0 then bQ b a ((aW G t key).2.2:Int)
 else if(aW G t key).2.1=decide ((dj m key).size≠0) then ja G b a (aW G t key).1 (cz m key ⟨#[]⟩) key
 else a
abbrev lL(G:yB->Option yB)(t:Nd)(m:List (yB×yB))(key:yB):Prop:=¬40<key.size/\(aW G t key).2.2=0/\(aW G t key).2.1=decide ((dj m key).size≠0)
def lK(G:yB->Option yB)(t:Nd)(m:List (yB×yB))(key:yB):Nd:=if lL G t m key then bg G (aW G t key).1 key else(aW G t key).1
def lJ(G:yB->Option yB)(t:Nd)(m:List (yB×yB))(key:yB):List (yB×yB):=if lL G t m key then cz m key ⟨#[]⟩ else m
theorem NA{l L w B S o i vs a}(h:Bk l L w B S)(f:cG l L w B.sb B.hb o i vs a)(u:L.ok)(T:az w)(A9:∀k,k<3->l k=0)(key:yB)(D:key.size<=maxLen)(hn:B.m.length<3999999999):
 Calls yP 15 #[pV (qA B.bb),sV key] w fun e w'=>e=rV (bV (mr (ae a) o i B.t B.m key))/\tP l L w B (lK (ae a) B.t B.m key) (lJ (ae a) B.t B.m key) w':=by
 obtain⟨hO,A2⟩:=h.over f u T;obtain⟨_,c1,_,_,_⟩:=h.cells;have h3:=T.size;have H:Hid (Calls yP 35 #[pV (qA B.tb),sV key] w fun e w'=>e=rV (tV #[bV (aW (ae a) B.t key).2.1,iV .i64 ((aW (ae a) B.t key).2.2:Int)])/\e8 l L w {B with t:=(aW (ae a) B.t key).1} w'):=
  (Ap h.tr h.loose hO A2 key D).mono fun e w' ⟨h1,h2⟩=>⟨h1,h.wT u h2 (zB h.tr.ok h.loose)⟩
 have z:Hid (∀W,Calls yP 32 #[sV key,sV ⟨#[]⟩] W fun e w'=>e=rV (bV (decide (40<key.size)))/\w'=W):=fun W=>by
  have:=vw key ⟨#[]⟩ D (by decide) W;have e:lg key ⟨#[]⟩=decide (40<key.size):=by
   unfold lg;by_cases h:40<key.size
   ·rw[Ra h,Ra (.inl h)]
   ·rw[Q9 h,Q9];rintro (O|O);exact h O;exact absurd O (by decide)
  rw[e] at this;exact this
 have J:Hid (mr (ae a) o i B.t B.m key=if 40<key.size then true else if(aW (ae a) B.t key).2.2≠0 then bQ o i ((aW (ae a) B.t key).2.2:Int) else if(aW (ae a) B.t key).2.1=decide ((dj B.m key).size≠0) then ja (ae a) o i (aW (ae a) B.t key).1 (cz B.m key ⟨#[]⟩) key else i):=rfl;have I:Hid ((lL (ae a) B.t B.m key->lK (ae a) B.t B.m key=bg (ae a) (aW (ae a) B.t key).1 key/\lJ (ae a) B.t B.m key=cz B.m key ⟨#[]⟩)/\(¬lL (ae a) B.t B.m key->lK (ae a) B.t B.m key=(aW (ae a) B.t key).1/\lJ (ae a) B.t B.m key=B.m)):=by
  unfold lK lJ;exact⟨fun h=>by rw[QX h,QX h];exact⟨rfl,rfl⟩,fun h=>by rw[QW h,QW h];exact⟨rfl,rfl⟩⟩
 have G:Hid (lL (ae a) B.t B.m key↔(¬40<key.size/\(aW (ae a) B.t key).2.2=0/\(aW (ae a) B.t key).2.1=decide ((dj B.m key).size≠0))):=Iff.rfl;have A5:Hid (40<key.size->(aW (ae a) B.t key).2.2=1/\(aW (ae a) B.t key).2.1=false):=fun h=>by unfold aW;rw[QX h];exact⟨rfl,rfl⟩
 have V:Hid (∀w1 c,e8 l L w {B with t:=(aW (ae a) B.t key).1} w1->Calls yP 33 #[pV (qA B.bb),iV .i64 c] w1 fun r w'=>r=rV (bV (bQ o i c))/\w'=w1):=fun w1 c ⟨l1,S1,m1,h1⟩=>by
  obtain⟨_,_,_,_,a4⟩:=h1.cells;obtain⟨b0,b1⟩:=(f.to u m1).cells;exact qN a4 b0 b1 c
 have Q:Hid (∀w1,e8 l L w {B with t:=(aW (ae a) B.t key).1} w1->w1.cell? ⟨B.bb,2,none⟩=some B.mv/\B.bb<w1.heap.size/\(Calls yP 36 #[B.mv,sV key] w1 fun e w'=>e=rV (sV (dj B.m key))/\w'=w1)/\Calls yP 34 #[B.mv,sV key,sV ⟨#[]⟩] w1 fun e w'=>∃b,e=rV b/\(∃g n c,b=lV g n c)/\w'.cell? ⟨B.bb,2,none⟩=some B.mv/\w'.frozen? ⟨B.bb,2,none⟩=false/\(key.size<=40->Hid (∃l3 S3,Mv (fun x=>x=L.tr\/x=L.bk) l l3 w (w'.setCell ⟨B.bb,2,none⟩ b)/\Bk l3 L (w'.setCell ⟨B.bb,2,none⟩ b) {B with t:=(aW (ae a) B.t key).1,m:=cz B.m key ⟨#[]⟩,mv:=b} S3))):=fun w1 ⟨l1,S1,m1,h1⟩=>by
  obtain⟨_,_,a2,_,_⟩:=h1.cells;refine⟨a2,h1.bk.lt,mY w1 _ B.m key h1.pm (by omega),(yI w1 B.mv B.m key ⟨#[]⟩ h1.pm (by omega)).mono ?_⟩;rintro e w' ⟨⟨b,rfl,ho⟩,hb⟩;obtain⟨ga,gc,B0,_⟩:=dr ho;have A0:rE w' B.bb B.sb B.tb B.mv B.bv B.hb:=(hb.block _ h1.bk.lt).trans h1.bk;refine⟨b,rfl,⟨ga,_,gc,B0⟩,by rw[Q5 w' _ 2 _ _ _ A0];rfl,Rx w' _ 2 _ _ A0,fun B1=>?_⟩;exact Bk.writes u m1 h1 b _ ho hb (by have:=m1.size;omega) (DH h1.om key ⟨#[]⟩ B1 (by decide)) (by have:=tS B.m key ⟨#[]⟩;omega)
 have A6:Hid (∀W b,(∃l3 S3,Mv (fun x=>x=L.tr\/x=L.bk) l l3 w W/\Bk l3 L W {B with t:=(aW (ae a) B.t key).1,m:=cz B.m key ⟨#[]⟩,mv:=b} S3)->Calls yP 16 #[pV (qA B.bb),sV key] W fun e w'=>e=rV (bV (ja (ae a) o i (aW (ae a) B.t key).1 (cz B.m key ⟨#[]⟩) key))/\e8 l L w {B with t:=bg (ae a) (aW (ae a) B.t key).1 key,m:=cz B.m key ⟨#[]⟩,mv:=b} w'):=fun W b ⟨l3,S3,m3,h3⟩=>
  (yK h3 (f.to u m3) u (T.mv m3 fun k D hT=>by rw[A9 k D] at hT;exact u.apart.2.2 hT) key D).mono fun e w' ⟨g1,g2⟩=>⟨g1,e8.trans m3 g2⟩
 have A7:Hid (bQ o i 0=i):=by show _=_;unfold bQ;simp
 clear h f u T hO A2;generalize mr (ae a) o i B.t B.m key=R at*;generalize lK (ae a) B.t B.m key=FT at*;generalize lJ (ae a) B.t B.m key=FM at*;generalize hDD:lL (ae a) B.t B.m key=DD at*;clear hDD;generalize ja (ae a) o i (aW (ae a) B.t key).1 (cz B.m key ⟨#[]⟩) key=TK at*;generalize bg (ae a) (aW (ae a) B.t key).1 key=T2 at*;generalize (aW (ae a) B.t key).1=T1 at*;generalize (aW (ae a) B.t key).2.1=WAS at*;generalize (aW (ae a) B.t key).2.2=E at*;generalize dj B.m key=HV at*;by_cases p:40<key.size
 ·have v:Hid (R=true):=by rw[J.out,QX p];rfl
  obtain⟨rfl,rfl⟩:=A5.out p;have j:Hid (FT=T1/\FM=B.m):=I.out.2 fun h=>(G.out.1 h).1 p
  rw[Ra p] at z;go_enter func15,ntmps15
  go_wp2_with fail
  refine H.out.mono ?_;rintro e w1 ⟨rfl,d⟩;have A:=aa d;clear d;go_wp2_with fail
  refine(z.out _).mono ?_;rintro e P ⟨rfl,y⟩;subst y;go_wp2_with fail
  go_ret
  exact⟨by rw[v.out];rfl,by rw[j.out.1,j.out.2];exact A.out.same⟩
 ·rw[Q9 p] at z;by_cases h0:E=0
  ·subst h0;by_cases q:WAS=decide (HV.size≠0)
   ·have v:Hid (R=TK):=by rw[J.out,QW p,QW (by simp),QX q];rfl
    have j:Hid (FT=T2/\FM=cz B.m key ⟨#[]⟩):=I.out.1 (G.out.2 ⟨p,rfl,q⟩);have A3:HV.toList.isEmpty= !WAS:=by
     rw[q];by_cases s:HV.size=0
     ·rw[Q9 (by simpa using s),(gH HV).mpr s];rfl
     ·rw[Ra s,(gT HV).mpr s];rfl
    clear q;have B2:key.size<=40:=by omega
    cases WAS
    all_goals
     simp only[Bool.not_false,Bool.not_true] at A3;go_enter func15,ntmps15
     go_wp2_with fail
     refine H.out.mono ?_;rintro e w1 ⟨rfl,d⟩;obtain⟨d2,B3,C,K⟩:=Q.out w1 d;have M:=aa C;have Y:=aa K;clear d K C;go_wp2_with fail
     refine(z.out _).mono ?_;rintro e P ⟨rfl,y⟩;subst y;go_wp2_with fail
     refine M.out.mono ?_;rintro e wy ⟨rfl,F⟩;subst F;go_wp2_with fail
     refine Y.out.mono ?_;rintro e w2 ⟨b,rfl,⟨g,n,c,rfl⟩,e2,e3,A1⟩;have U:=A1 B2;have X:=A6.out _ _ U.out;have A8:Hid (Calls yP 16 #[pV (qA B.bb),sV key] (w2.setCell ⟨B.bb,2,none⟩ (lV g n c)) fun e w'=>e=rV (bV R)/\tP l L w B FT FM w'):=X.mono fun e w' ⟨g1,g2⟩=>⟨by rw[v.out];exact g1,_,by rw[j.out.1,j.out.2];exact g2⟩
     clear A1 X U Y d2;go_wp2_with fail
     refine A8.out.mono ?_;rintro e w3 ⟨rfl,Z⟩;have A4:=aa Z;clear Z;go_wp2_with fail
     go_ret
     exact⟨rfl,A4.out⟩
   ·have v:Hid (R=i):=by rw[J.out,QW p,QW (by simp),QW q];rfl
    have j:Hid (FT=T1/\FM=B.m):=I.out.2 fun h=>q (G.out.1 h).2.2
    have A3:HV.toList.isEmpty=WAS:=by
     by_cases s:HV.size=0
     ·rw[Q9 (by simpa using s)] at q;rw[(gH HV).mpr s];cases WAS<;>simp_all
     ·rw[Ra s] at q;rw[(gT HV).mpr s];cases WAS<;>simp_all
    clear q;cases WAS
    all_goals
     go_enter func15,ntmps15
     go_wp2_with fail
     refine H.out.mono ?_;rintro e w1 ⟨rfl,d⟩;obtain⟨d2,B3,C,K⟩:=Q.out w1 d;have M:=aa C;have A:=aa d;have N:Hid (Calls yP 33 #[pV (qA B.bb),iV .i64 0] w1 fun r w'=>r=rV (bV R)/\w'=w1):=by rw[v.out,<-A7.out];exact V.out w1 _ d
     clear d K C;go_wp2_with fail
     refine(z.out _).mono ?_;rintro e P ⟨rfl,y⟩;subst y;go_wp2_with fail
     refine M.out.mono ?_;rintro e wy ⟨rfl,F⟩;subst F;go_wp2_with fail
     refine N.out.mono ?_;rintro e wz ⟨rfl,B4⟩;subst B4;go_wp2_with fail
     go_ret
     exact⟨rfl,by rw[j.out.1,j.out.2];exact A.out.same⟩
  ·have v:Hid (R=bQ o i E):=by rw[J.out,QW p,QX h0];rfl
   have j:Hid (FT=T1/\FM=B.m):=I.out.2 fun h=>h0 (G.out.1 h).2.1
   have B5:((E:Int) != 0)=true:=by simp;omega
   clear h0;go_enter func15,ntmps15
   go_wp2_with fail
   refine H.out.mono ?_;rintro e w1 ⟨rfl,d⟩;have A:=aa d;have N:Hid (Calls yP 33 #[pV (qA B.bb),iV .i64 (E:Int)] w1 fun r w'=>r=rV (bV R)/\w'=w1):=by rw[v.out];exact V.out w1 _ d
   generalize (E:Int)=EI at*;clear d;go_wp2_with fail
   refine(z.out _).mono ?_;rintro e P ⟨rfl,y⟩;subst y;go_wp2_with fail
   refine N.out.mono ?_;rintro e wy ⟨rfl,F⟩;subst F;go_wp2_with fail
   go_ret
   exact⟨rfl,by rw[j.out.1,j.out.2];exact A.out.same⟩
theorem oV{t}(a:aI t):(bM t).length=32:=by
 cases t with
 |nil=>exact jY _
 |unread h=>
  rw[nN (t:=.unread h) trivial];split
  ·exact jY _
  ·exact a
 |leaf h p v=>
  rw[nN (t:=.leaf h p v) trivial];split
  ·exact jY _
  ·next e=>exact a.1.two.resolve_left e
 |ext h p k=>
  rw[nN (t:=.ext h p k) trivial];split
  ·exact jY _
  ·next e=>exact a.1.two.resolve_left e
 |branch h v ks=>
  rw[nN (t:=.branch h v ks) trivial];split
  ·exact jY _
  ·next e=>exact a.1.two.resolve_left e
theorem IC{F}(h:gv [] F):F=.nil:=by
 by_cases a:F.some
 ·obtain⟨x,h1,h2⟩:=qd F 0 h.ok h.all a;exact absurd (h.find x h1) h2
 ·cases F<;>first|rfl|exact absurd trivial a
theorem PR(a:Int):aP [] a=.nil:=IC (tq DI a)
def ya(b:Bool)(t:Nd)(m:List (yB×yB))(a:Int):Bool:=
 if m≠[]/\bM (aP m a)=cw then cQ ((bj bJ (aP m a) (m.getD 0 (⟨#[]⟩,⟨#[]⟩)).1).map str++[aX]) ((bj bJ (aP m a) (m.getD 0 (⟨#[]⟩,⟨#[]⟩)).1).map str++[aX]).length
 else if bM t=bM (aP m a) then true
 else b
theorem Nk{l L w B S J j vs ps}(h:Bk l L w B S)(f:cG l L w B.sb B.hb J j vs ps)(T:az w)(b:Int)(hr:Rg b):
 Calls yP 20 #[pV (qA B.bb),iV .i64 b] w fun e w'=>e=rV (bV (ya j B.t B.m b))/\yW w w':=by
 have G8:=h.nm;have A6:∀p∈B.m,p.1.size<=maxLen/\p.2.size<=maxLen:=fun p o=>by have:=h.om.size p o;unfold maxLen;omega
 have Z:=tq h.om b;have D4:=zK B.m b;obtain⟨mv,F4⟩:=yX B.mv
 obtain⟨a,cap,G⟩:=h.pm.form;have M:Hid (∀W,yW w W->W.cell? ⟨B.bb,1,none⟩=some (pV (qA B.tb))/\W.cell? ⟨B.bb,2,none⟩=some (lV a B.m.length cap)/\W.cell? ⟨B.bb,4,none⟩=some (pV (qA B.hb))/\W.cell? ⟨B.hb,0,none⟩=some (bV J)/\W.cell? ⟨B.hb,1,none⟩=some (bV j)/\B.bb<W.heap.size/\B.hb<W.heap.size):=fun W d=>by
  obtain⟨_,c1,c2,_,c4⟩:=h.cells;obtain⟨d0,d1⟩:=f.cells;rw[G] at c2;exact⟨dC d c1,dC d c2,dC d c4,dC d d0,dC d d1,Q6 h.bk.lt d.size,Q6 f.hu.lt d.size⟩
 have C4:Hid (Calls yP 38 #[pV (qA B.tb)] w fun e w'=>e=rV (sV (str (bM B.t)))/\yW w w'):=by
  obtain⟨⟨u,h1,h2⟩,h3,_⟩:=h.tr;exact pM w B.tb _ u B.t S h1 h2 h3.aJ T
 have A8:Hid (∀W,yW w W->Calls yP 44 #[lV a B.m.length cap,iV .i64 b] W fun e w'=>∃sb i,e=rV (pV (qA i))/\Own (fun x=>x<W.heap.size) w' sb i (aP B.m b)/\yW W w'):=fun W d=>by
  have:=yR W B.mv B.m b (h.pm.below d) (by omega) hr A6 (T.below d);rw[G] at this;exact this
 have A9:Hid (∀W,yW w W->Calls yP 44 #[lV none 0 0,iV .i64 b] W fun e w'=>∃sb i,e=rV (pV (qA i))/\Own (fun x=>x<W.heap.size) w' sb i .nil/\yW W w'):=fun W d=>by
  have:=yR W (lV none 0 0) [] b (dP.nil W) (by decide) hr (fun p o=>by cases o) (T.below d);rw[PR] at this;exact this
 have C2:Hid (∀K W sb i,Own K W sb i (aP B.m b)->yW w W->Calls yP 38 #[pV (qA i)] W fun e w'=>e=rV (sV (str (bM (aP B.m b))))/\Own K w' sb i (aP B.m b)/\yW W w'):=fun K W sb i D d=>D.root (T.below d)
 have C3:Hid (∀K W sb i,Own K W sb i .nil->yW w W->Calls yP 38 #[pV (qA i)] W fun e w'=>e=rV (sV (str (bM .nil)))/\Own K w' sb i .nil/\yW W w'):=fun K W sb i D d=>D.root (T.below d)
 have B0:Hid (∀W,yW w W->Calls yP 11 #[] W fun e w'=>e=rV (sV (str cw))/\yW W w'):=fun W d=>og W (T.below d)
 have B8:Hid (∀K sb i W key,Own K W sb i (aP B.m b)->yW w W->(∀x,x<w.heap.size->K x)->key.size<=maxLen->Calls yP 45 #[pV (qA i),sV key] W fun e w'=>∃u,e=rV (tV #[u,iV .i64 (cE bJ (aP B.m b) key:Int)])/\w'.ownsRow W.heap.size 9 1 u ((bj bJ (aP B.m b) key).map str).length (((bj bJ (aP B.m b) key).map str).map Value.string)/\yW w w'/\W.heap.size<=w'.heap.size):=fun K sb i W key D d hK hk=>
  (D.prove (T.below d) key hk).mono fun e w' ⟨⟨u,e1,e2⟩,e3,e4⟩=>⟨u,e1,by rw[Rr,<-tZ];exact e2,d.trans ((e4.less hK).below d.size),e4.size⟩
 have E3:Hid (∀W u l,yW w W->fD W u l->l.length<=4200000000000->(∀p∈l,p.size<=maxLen)->Calls yP 46 #[u] W fun e w'=>e=rV (bV (cQ l l.length))/\yW W w'):=fun W u l d hu hl hs=>oh W u l hu hl hs (T.below d)
 have B9:Hid (∀key,(bj bJ (aP B.m b) key).length<=81/\∀c∈bj bJ (aP B.m b) key,c.length<=4096):=fun key=>xU Z.ok D4 key
 have B2:Hid (∀W,W.cell? ⟨B.bb,4,none⟩=some (pV (qA B.hb))->W.cell? ⟨B.hb,0,none⟩=some (bV J)->W.cell? ⟨B.hb,1,none⟩=some (bV j)->Calls yP 33 #[pV (qA B.bb),iV .i64 0] W fun r w'=>r=rV (bV j)/\w'=W):=fun W h1 h2 h3=>by
  have:=qN h1 h2 h3 0;have e:bQ J j 0=j:=by unfold bQ;simp
  rw[e] at this;exact this
 have B1:Hid (∀W,yW w W->0<B.m.length->∃g key,a=some ⟨g,0,none⟩/\key=(B.m.getD 0 (⟨#[]⟩,⟨#[]⟩)).1/\W.cell? ⟨g,0,none⟩=some (sV key)/\key.size<=maxLen/\g<W.heap.size):=fun W d h0=>by
  have o:B.m[0]? =some B.m[0]:=QV h0;have E1:=h.pm;rw[G] at E1;obtain⟨g,e,hg,c,_⟩:=E1.at_ 0 _ o;exact⟨g,_,e,rfl,by rw[Q3,o];exact dC d c,by rw[Q3,o];exact(A6 _ (RV h0)).1,Q6 hg d.size⟩
 have A:Hid (ya j B.t B.m b=if B.m≠[]/\bM (aP B.m b)=cw then cQ ((bj bJ (aP B.m b) (B.m.getD 0 (⟨#[]⟩,⟨#[]⟩)).1).map str++[aX]) ((bj bJ (aP B.m b) (B.m.getD 0 (⟨#[]⟩,⟨#[]⟩)).1).map str++[aX]).length else if bM B.t=bM (aP B.m b) then true else j):=rfl;have H0:((str (bM B.t)).size:Int)=32:=by rw[aH,oV h.tr.ok.aJ];rfl
 have H1:((str (bM (aP B.m b))).size:Int)=32:=by rw[aH,oV Z.ok.aJ];rfl
 have E2:((str (bM (aP B.m b))).toList == (str cw).toList)=decide (bM (aP B.m b)=cw):=oT _ _;have I:((str (bM B.t)).toList == (str (bM (aP B.m b))).toList)=decide (bM B.t=bM (aP B.m b)):=oT _ _;have G9:((str (bM .nil)).toList == (str cw).toList)=true:=by rw[oT];exact Ra rfl
 have O:Hid (B.m≠[]↔0<B.m.length):=⟨fun h=>Sj.2 h,fun h=>Sj.1 h⟩
 obtain⟨i0,F0,F7,F8,F9⟩:=Sf ng;obtain⟨c1,_⟩:=M.out w (Q1 _ _);clear h f T A6 Z D4 G F4 hr;generalize ya j B.t B.m b=R at*;generalize bM (aP B.m b)=RB at*;generalize aP B.m b=q at*;generalize bM B.t=RT at*;generalize bM .nil=RN at*;generalize B.m.length=N at*;generalize (B.m.getD 0 (⟨#[]⟩,⟨#[]⟩)).1=KEY at*;go_enter func20,ntmps20
 go_wp2_with fail
 refine C4.out.mono ?_;rintro e w1 ⟨rfl,A0⟩;have F:=aa A0;obtain⟨_,c2,_⟩:=M.out w1 A0;clear A0 c1 C4;go_wp2_with fail
 refine(A8.out w1 F.out).mono ?_;rintro e w2 ⟨sb,i,rfl,C9,D5⟩;have Q:=aa (F.out.trans (D5.mono F.out.size));have B4:=aa C9;clear D5 C9 c2 A8;go_wp2_with fail
 refine(C2.out _ _ _ _ B4.out Q.out).mono ?_;rintro e w3 ⟨rfl,D0,D6⟩;have U:=aa (Q.out.trans (D6.mono Q.out.size));have B5:=aa D0;clear D6 D0 B4;go_wp2_with fail
 refine(A9.out w3 U.out).mono ?_;rintro e w4 ⟨G0,G1,rfl,D1,A1⟩;have V:=aa (U.out.trans (A1.mono U.out.size));have B6:=aa D1;have C6:=aa (B5.out.below A1);clear A1 D1 B5 A9;go_wp2_with fail
 refine(C3.out _ _ _ _ B6.out V.out).mono ?_;rintro e w5 ⟨rfl,_,A2⟩;have X:=aa (V.out.trans (A2.mono V.out.size));have C7:=aa (C6.out.below A2);clear A2 B6 C6;go_wp2_with fail
 refine(B0.out w5 X.out).mono ?_;rintro e w6 ⟨rfl,A3⟩;have y:=aa (X.out.trans (A3.mono X.out.size));have E7:=aa (C7.out.below A3);obtain⟨_,c2,c4,d0,d1,G4,G5⟩:=M.out w6 y.out;clear A3 C7 B0 C2 C3;by_cases H:0<N
 ·have G7:(0:Int)<(N:Int):=by omega
  by_cases z:RB=cw
  ·rw[Ra z] at E2;have s:Hid (R=cQ ((bj bJ q KEY).map str++[aX]) ((bj bJ q KEY).map str++[aX]).length):=by rw[A.out,QX ⟨O.out.2 H,z⟩];rfl
   obtain⟨g,key,rfl,F1,k0,F2,G3⟩:=B1.out w6 y.out H;subst F1;have C0:=B8.out _ _ _ _ key E7.out y.out (fun x hx=>Q6 hx F.out.size) F2;obtain⟨E8,D2⟩:=B9.out key;generalize (cE bJ q key:Int)=E at*;generalize bj bJ q key=C at*;have C1:=aa C0;have E4:Hid (∀p∈C.map str++[aX],p.size<=maxLen):=fun p o=>by
    rcases Re.1 o with o|o
    ·obtain⟨c,hc,rfl⟩:=Rt.1 o;have:=D2 c hc;rw[aH];unfold maxLen;omega
    ·rw[Q2.1 o];decide
   clear C0 B8 D2 B9 A B1 z;go_wp2_with fail
   refine C1.out.mono ?_;rintro e w7 ⟨u,rfl,A5,D7,F5⟩;have Y:=aa D7;have B7:=aa A5;obtain⟨a7,G2,F6,_⟩:=dr A5;have G6:(C.map str).length<=81:=by rw[Rr];exact E8
   have H2:=F5;generalize C.map str=CS at*;subst F6;clear A5 D7 C1;go_wp2_with (at_builtin;refine RG _ rfl (.tmp 68) (.tmp 69) 63 rfl w6.heap.size 9 i0 (sV ⟨#[]⟩) 1 16 underlying63 F0 F7 F8 F9 rfl (by decide) _ CS.length (CS.map Value.string) rfl (B7.out.alloc _) ⟨w7.heap.size,0,none⟩ 1 1 [sV aX] rfl rfl (So _ _ _) ?f2 (by omega) ?f3 ?f4 ?f5 _ rfl ?f6)
   case f2=>first|rfl| (intro v hv;simp at hv;subst hv;rfl)
   case f3=>unfold maxLen;omega
   case f4=>omega
   case f5=>first|omega| (simp;omega)
   intro g5 C8 w8 E0 D9 E9 F3;have A4:yW w w8:=(Y.out.alloc Y.out.size _).grown D9 (by have:=Y.out.size;simp;omega) (fun k hk=>by have:=(B7.out.lt k hk).1;have:=y.out.size;omega);have D3:fD w8 (lV (qA g5) (CS.length+1) C8) (CS++[aX]):=oZ (base:=w6.heap.size) (by rw[Q4,R9];exact E0);have E5:Hid (Calls yP 46 #[lV (qA g5) (CS.length+1) C8] w8 fun e w'=>e=rV (bV R)/\yW w8 w'):=by
    rw[s.out];exact E3.out w8 _ _ A4 D3 (by rw[Q4,Sa];omega) E4.out
   have C5:=aa A4;clear E0 D9 E9 F3 A4 D3;go_wp2_with fail
   refine E5.out.mono ?_;rintro e w9 ⟨rfl,D8⟩;have E6:=aa (C5.out.trans (D8.mono C5.out.size));clear D8;go_wp2_with fail
   go_ret
   exact⟨rfl,E6.out⟩
  ·rw[Q9 z] at E2;by_cases n:RT=RB
   ·rw[Ra n] at I;have s:Hid (R=true):=by rw[A.out,QW (fun h=>z h.2),QX n];rfl
    clear z n;go_wp2_with fail
    go_ret
    exact⟨by rw[s.out];rfl,y.out⟩
   ·rw[Q9 n] at I;have s:Hid (R=j):=by rw[A.out,QW (fun h=>z h.2),QW n];rfl
    have B3:=B2.out w6 c4 d0 d1;have P:=aa B3;clear z n B3;go_wp2_with fail
    refine P.out.mono ?_;rintro e wz ⟨rfl,A7⟩;subst A7;go_wp2_with fail
    go_ret
    exact⟨by rw[s.out];rfl,y.out⟩
 ·obtain rfl:N=0:=by omega
  by_cases n:RT=RB
  ·rw[Ra n] at I;have s:Hid (R=true):=by rw[A.out,QW (fun h=>H (O.out.1 h.1)),QX n];rfl
   clear n;go_wp2_with fail
   go_ret
   exact⟨by rw[s.out];rfl,y.out⟩
  ·rw[Q9 n] at I;have s:Hid (R=j):=by rw[A.out,QW (fun h=>H (O.out.1 h.1)),QW n];rfl
   have P:=aa (B2.out w6 c4 d0 d1);clear n;go_wp2_with fail
   refine P.out.mono ?_;rintro e wz ⟨rfl,A7⟩;subst A7;go_wp2_with fail
   go_ret
   exact⟨by rw[s.out];rfl,y.out⟩
def fX(k x y z:Int)(s t:yB):Value:=gV #[iV .i64 k,iV .i64 x,iV .i64 y,iV .i64 z,sV s,sV t]
def kO(l:Nat->Nat)(L:jm)(w:World)(sb a:Nat)(d c:Bool)(b:List (yB×yB))(w':World):Prop:=∃l' vs',Mv (fun x=>x=L.st\/x=L.hu) l l' w w'/\cG l' L w' sb a d c vs' b
theorem cG.uD{l L w sb a j e f d}(h:cG l L w sb a j e f d)(g:L.ok):cG l L (w.setCell ⟨a,0,none⟩ (bV true)) sb a true e f d/\Mv (fun x=>x=L.st\/x=L.hu) l l w (w.setCell ⟨a,0,none⟩ (bV true)):=by
 have M:Mv (fun x=>x=L.hu) l l w (w.setCell ⟨a,0,none⟩ (bV true)):=by have:=qg (l:=l) (w:=w) (b:=a) (i:=0) (v:=bV true);rw[h.lh] at this;exact this
 refine⟨⟨?_,h.lh,h.st.kept fun x c=>M.kept (h.st.st.dQ x c) (h.ls x c) g.b.1,h.ls⟩,M.mono fun _ c=>.inr c⟩;show(w.setCell ⟨a,0,none⟩ (bV true)).heap[a]? =_;rw[RM w a 0 _ _ (0,0) _ h.hu,R7 w a _ _ _ _ h.hu];rfl
theorem cG.JH{l L w sb a f j e d}(h:cG l L w sb a f j e d)(g:L.ok):cG l L (w.setCell ⟨a,1,none⟩ (bV true)) sb a f true e d/\Mv (fun x=>x=L.st\/x=L.hu) l l w (w.setCell ⟨a,1,none⟩ (bV true)):=by
 have M:Mv (fun x=>x=L.hu) l l w (w.setCell ⟨a,1,none⟩ (bV true)):=by have:=qg (l:=l) (w:=w) (b:=a) (i:=1) (v:=bV true);rw[h.lh] at this;exact this
 refine⟨⟨?_,h.lh,h.st.kept fun x c=>M.kept (h.st.st.dQ x c) (h.ls x c) g.b.1,h.ls⟩,M.mono fun _ c=>.inr c⟩;show(w.setCell ⟨a,1,none⟩ (bV true)).heap[a]? =_;rw[RM w a 1 _ _ (0,0) _ h.hu,R7 w a _ _ _ _ h.hu];rfl
theorem cG.step{l L w w' sb f j g i r a}(h:cG l L w sb f j g i r)(o:L.ok)(k:dv 3 w w' sb i a)(h3:3<=w.heap.size)(p:a.length<4000000000000)(q:∀k t,ae a k=some t->t.size<=4096):kO l L w sb f j g a w':=by
 obtain⟨l',s,m,h1,h2,n⟩:=Bi h.ls k (h.st.st.dQ sb (.inl rfl));refine⟨l',s,m.mono fun _ c=>.inl c,⟨(m.kept h.hu.lt h.lh (fun e=>o.b.1 e.symm)).trans h.hu,(m.aM _ h.hu.lt).trans h.lh,⟨h1,p,q,fun x c=>?_⟩,h2⟩⟩;rcases n x c with d|d
 ·exact h.st.m3 x d
 ·omega
theorem kO.trans{l l1}{L:jm}{w w1 w2 sb a d c b}(m:Mv (fun x=>x=L.st\/x=L.hu) l l1 w w1)(h:kO l1 L w1 sb a d c b w2):kO l L w sb a d c b w2:=by
 obtain⟨l2,e,m2,h2⟩:=h;exact⟨l2,e,m.trans m2,h2⟩
theorem cG.drawn{l L w sb a e c d b}(h:cG l L w sb a e c d b)(n:Nat):kO l L w sb a e c b (w.drewN n):=
 ⟨l,d,⟨rfl,rfl,rfl,QU _,fun _ _=>rfl,fun _ _ _=>rfl⟩,⟨h.hu,h.lh,h.st.kept fun _ _=>rfl,h.ls⟩⟩
theorem MT{b h}(a:jZ b h≠0)(h32:h.size=32):ae b h=none:=by
 unfold jZ at a;rw[QX h32] at a;cases hl:ae b h with
 |none=>rfl
 |some t=>rw[hl] at a;exact absurd rfl a
theorem MV{a p}(h:p∈a):ae a p.1≠none:=by
 induction a with
 |nil=>cases h
 |cons q a ih=>
  simp only[ae];split
  ·exact fun e=>by cases e
  ·next hne=>
   rcases Rh.1 h with rfl|h
   ·rw[fZ,Ra rfl] at hne;exact absurd rfl hne
   ·exact ih h
theorem Nn{l L w B S u j r d}(h:Bk l L w B S)(f:cG l L w B.sb B.hb u j r d)(M:L.ok)(T:az w)(k x y z:Int)(s t:yB)(hy:Rg y)(hn:d.length+1<4000000000000):
 Calls yP 18 #[pV (qA B.bb),fX k x y z s t] w fun e w'=>e=rV (tV #[])/\kO l L w B.sb B.hb (u || decide (d≠[])) j (jj d k y s) w':=by
 have h3:=T.size;obtain⟨i,O⟩:=yX (w.alloc (.cells #[iV .i64 k,iV .i64 x,iV .i64 y,iV .i64 z,sV s,sV t] 33))
 have J:yW w i:=by rw[O];exact(Q1 _ _).alloc (QU _) _
 have A7:=aa (KS 3 i B.sb r d (f.st.below J).st (by omega));have A1:Hid (∀W,yW w W->cG (fA l w.heap.size) L W B.sb B.hb u j r d/\Mv (fun x=>x=L.st\/x=L.hu) l (fA l w.heap.size) w W):=fun W m=>⟨f.move (Mv.below (fun _=>False) l m) id id,Mv.below _ l m⟩
 have HC:Hid (∀W,yW w W->W.cell? ⟨B.bb,0,none⟩=some (pV (qA B.sb))/\W.cell? ⟨B.bb,4,none⟩=some (pV (qA B.hb))/\W.cell? ⟨B.hb,0,none⟩=some (bV u)/\W.frozen? ⟨B.hb,0,none⟩=false/\B.bb<W.heap.size/\B.hb<W.heap.size/\(W.setCell ⟨B.hb,0,none⟩ (bV true)).cell? ⟨B.bb,0,none⟩=some (pV (qA B.sb))):=fun W m=>by
  obtain⟨c0,_,_,_,c4⟩:=h.cells;obtain⟨d0,_⟩:=f.cells;have p:B.bb≠B.hb:=fun e=>M.b.2.2.2.2.1 (by rw[<-f.lh,<-h.lb,e])
  have D4:rE (W.setCell ⟨B.hb,0,none⟩ (bV true)) B.bb B.sb B.tb B.mv B.bv B.hb:=(Rc _ _ _ _ (show B.bb≠B.hb from p)).trans ((m.block _ h.bk.lt).trans h.bk);exact⟨dC m c0,dC m c4,dC m d0,Rx W _ 0 _ _ ((m.block _ f.hu.lt).trans f.hu),Q6 h.bk.lt m.size,Q6 f.hu.lt m.size,by rw[Q5 _ _ 0 _ _ _ D4];rfl⟩
 have B4:Hid (∀W,0<d.length->Calls yP 13 #[iV .i64 y,iV .i64 d.length] W fun e w'=>e=rV (iV .i64 (bO y d.length))/\w'=W):=fun W h0=>pk y _ hy h0 (by omega) W
 have B1:Hid (0<d.length->bO y d.length<d.length):=fun h0=>kz y _ h0
 have B5:Hid (∀(W:World) (v:Value),0<d.length->W.ownsRow i.heap.size 9 1 v d.length (jg d)->∃g cap,v=lV (qA g) d.length cap/\g<W.heap.size/\w.heap.size<=g/\W.cell? ⟨g,bO y d.length,none⟩=some (sV (d.getD (bO y d.length) (⟨#[]⟩,⟨#[]⟩)).1)):=fun W v h0 Y=>by
  obtain⟨a,cap,rfl,_,_,fo⟩:=dr Y;rcases fo with⟨_,D7,_⟩|⟨g,rfl⟩
  ·omega
  ·have Q:=kz y d.length h0;have hp:d[bO y d.length]? =some d[bO y d.length]:=QV Q;refine⟨g,cap,rfl,(Y.lt g rfl).2,Q7 J.size (Y.lt g rfl).1,dK Y rfl _ _ ?_⟩;rw[Q3,hp];unfold jg;rw[Rp,hp];rfl
 have A9:Hid (∀W o,cG (fA l w.heap.size) L W B.sb B.hb true j r d->Mv (fun x=>x=L.st\/x=L.hu) l (fA l w.heap.size) w W->d≠[]->o=(d.getD (bO y d.length) (⟨#[]⟩,⟨#[]⟩)).1->k=6->Calls yP 41 #[pV (qA B.sb),sV o] W fun e w'=>(∃c,e=rV (iV .i64 c))/\kO l L w B.sb B.hb true j (jj d k y s) w'):=fun W o C E p hv X=>by
  refine(KI 3 W B.sb r d C.st.st o (by omega)).mono ?_;rintro e w' ⟨D,G⟩;refine⟨⟨_,D⟩,kO.trans E ?_⟩;have D5:=Sj.2 p;have Q:=kz y d.length D5;have D6:(d.getD (bO y d.length) (⟨#[]⟩,⟨#[]⟩))∈d:=by
   rw[Q3,QV Q];exact RV Q
  unfold jj;rw[QW p,<-hv];by_cases h32:o.size=32
  ·rw[QW (by simpa using h32),QX X];rcases G with⟨h1,n,rfl⟩|⟨_,h2⟩
   ·exact absurd (MT h1 h32) (by rw[hv];exact MV D6)
   ·refine C.step M h2 (by have:=E.size;omega) (by have:=nR d o;omega) ?_;intro k' t' q;rw[yv] at q;split at q
    ·cases q
    ·exact f.st.sm k' t' q
  ·rw[QX h32];rcases G with⟨_,n,rfl⟩|⟨h1,_⟩
   ·exact C.drawn n
   ·unfold jZ at h1;rw[QW h32] at h1;cases h1
 have B2:Hid (∀W o,cG (fA l w.heap.size) L W B.sb B.hb true j r d->Mv (fun x=>x=L.st\/x=L.hu) l (fA l w.heap.size) w W->d≠[]->o=(d.getD (bO y d.length) (⟨#[]⟩,⟨#[]⟩)).1->k≠6->Calls yP 42 #[pV (qA B.sb),sV o,sV s] W fun e w'=>(∃c,e=rV (iV .i64 c))/\kO l L w B.sb B.hb true j (jj d k y s) w'):=fun W o C E p hv X=>by
  have C2:3<=W.heap.size:=by have:=E.size;omega
  refine(KJ 3 W B.sb r d C.st.st o s (by omega) C2).mono ?_;intro e w' G;have hd:=C.drawn 0;unfold jj;rw[QW p,<-hv];rcases G with⟨h1,D,rfl⟩|⟨h1,h2,D,rfl⟩|⟨h1,h2,D,G⟩
  ·rw[QX h1];exact⟨⟨_,D⟩,kO.trans E hd⟩
  ·rw[QW (by simpa using h1),QW X,QX h2];exact⟨⟨_,D⟩,kO.trans E hd⟩
  ·rw[QW (by simpa using h1),QW X,QW (by omega)];refine⟨⟨_,D⟩,kO.trans E (C.step M G C2 (by have:=yF d o s;omega) ?_)⟩;intro k' t' q;rw[vm] at q;split at q
   ·cases q;exact h2
   ·exact f.st.sm k' t' q
 have B7:Hid (∀W,yW w W->cG (fA l w.heap.size) L (W.setCell ⟨B.hb,0,none⟩ (bV true)) B.sb B.hb true j r d/\Mv (fun x=>x=L.st\/x=L.hu) l (fA l w.heap.size) w (W.setCell ⟨B.hb,0,none⟩ (bV true))):=fun W m=>by
  obtain⟨f1,m1⟩:=A1.out W m;obtain⟨f2,m2⟩:=f1.uD M;exact⟨f2,m1.trans m2⟩
 have C6:Hid (d=[]->jj d k y s=d):=fun h=>by unfold jj;rw[QX h]
 have D0:Hid (0<d.length->d≠[]):=fun h=>Sj.1 h
 have C5:Hid (d.length=0->d=[]):=fun h=>Rm.1 h
 have C1:∀W,yW i W->W.cell? ⟨w.heap.size,0,none⟩=some (iV .i64 k)/\W.cell? ⟨w.heap.size,2,none⟩=some (iV .i64 y)/\W.cell? ⟨w.heap.size,4,none⟩=some (sV s):=fun W m=>by
  have hb:i.heap[w.heap.size]? =some (.cells #[iV .i64 k,iV .i64 x,iV .i64 y,iV .i64 z,sV s,sV t] 33 (0,0)):=by rw[O];exact Rl w _
  have A4:=(m.block w.heap.size (Q0.1 hb).1).trans hb;exact⟨by rw[Q5 W _ 0 _ _ _ A4];rfl,by rw[Q5 W _ 2 _ _ _ A4];rfl,by rw[Q5 W _ 4 _ _ _ A4];rfl⟩
 have A6:=aa C1;have C4:=aa J;obtain⟨c0,_⟩:=HC.out i J;have E1:=h.bk.lt;have E5:=f.hu.lt;clear h f M T hy C1 J;generalize hN:d.length=N at*;generalize jj d k y s=LP at*;have B9:Hid ((u || decide (d≠[]))=(u || decide (d≠[]))):=rfl;generalize hYY:(u || decide (d≠[]))=YY at B9⊢;have C0:=aa hYY;clear hYY B9;unfold fX;go_enter func18,ntmps18
 go_upto_region 1 with fail
 rw[<-O];have F0:i.heap.size=w.heap.size+1:=by rw[O];simp
 have E0:B.bb<i.heap.size:=by omega
 clear O;go_wp2_with fail
 refine A7.out.mono ?_;rintro e w1 ⟨⟨v,rfl,Z⟩,P⟩;have A0:=aa (C4.out.trans (P.mono (by omega)));obtain⟨d0,d4,e0,ef,E7,E8,D3⟩:=HC.out w1 A0.out;obtain⟨b0,b2,b4⟩:=A6.out w1 P;have E2:w.heap.size<w1.heap.size:=by have:=P.size;omega
 clear A7 c0;by_cases U:0<N
 ·have p:=D0.out U;obtain⟨g,cap,rfl,E3,E4,cg⟩:=B5.out w1 v U Z;have Q:=B1.out U;have B6:Hid (∀W,Calls yP 13 #[iV .i64 y,iV .i64 N] W fun e w'=>e=rV (iV .i64 (bO y N))/\w'=W):=fun W=>B4.out W U
  obtain⟨f2,m2⟩:=B7.out w1 A0.out;have C8:=aa f2;have C9:=aa m2;have B8:Hid (YY=true):=by rw[<-C0.out,Ra p];show _=_;simp
  have D8:(N:Int)≠0:=by omega
  have D9:((N:Int) == 0)=false:=by simp;omega
  have E9:((bO y N:Nat):Int)<(N:Int):=by omega
  have D1:(w1.setCell ⟨B.hb,0,none⟩ (bV true)).cell? ⟨w.heap.size,0,none⟩=some (iV .i64 k):=by rw[Rd (w:=w1) (Rc _ _ _ _ (show w.heap.size≠B.hb by omega))];exact b0
  have D2:(w1.setCell ⟨B.hb,0,none⟩ (bV true)).cell? ⟨w.heap.size,4,none⟩=some (sV s):=by rw[Rd (w:=w1) (Rc _ _ _ _ (show w.heap.size≠B.hb by omega))];exact b4
  have B0:=fun A=>A9.out _ _ f2 m2 p rfl A
  have B3:=fun A=>B2.out ((w1.setCell ⟨B.hb,0,none⟩ (bV true)).drew) _ ⟨f2.hu,f2.lh,f2.st.kept fun _ _=>rfl,f2.ls⟩ ⟨m2.os,m2.tape,m2.output,m2.size,m2.aM,m2.ah⟩ p rfl A
  generalize (d.getD (bO y N) (⟨#[]⟩,⟨#[]⟩)).1=H at*;generalize bO y N=I at*;have A2:=aa B0;have A3:=aa B3;clear B0 B3 A9 B2 f2 m2 Z P B5 B4 B1 HC A6 B7 A1;by_cases A:k=6
  ·subst A;have F:=A2.out rfl;have HY:=aa F;clear F A2 A3;go_wp2_with fail
   refine(B6.out _).mono ?_;rintro e wx ⟨rfl,A5⟩;subst A5;go_wp2_with fail
   refine HY.out.mono ?_;rintro e w2 ⟨⟨c,rfl⟩,K⟩;have HF:=aa K;clear K;go_wp2_with fail
   go_end0
   exact⟨rfl,by rw[B8.out];exact HF.out⟩
  ·have E6:(k == 6)=false:=by simpa using A
   have F:=A3.out A;obtain⟨R,V⟩:=yX (w1.setCell ⟨B.hb,0,none⟩ (bV true))
   have F1:R.heap.size=w1.heap.size:=by rw[V];simp
   rw[<-V] at F D1 D2 D3 C8 C9;have HY:=aa F;clear F A2 A3 A;go_wp2_with fail
   refine(B6.out _).mono ?_;rintro e wx ⟨rfl,A5⟩;subst A5;go_upto_region 7 with fail
   rw[<-V];clear V;go_region_with (go_at_call 42;refine HY.out.mono ?_;rintro e1 w2 ⟨⟨c,rfl⟩,K⟩)
   all_goals
    have HF:=aa K;clear K;go_wp2_with fail
    go_end0
    exact⟨rfl,by rw[B8.out];exact HF.out⟩
 ·obtain rfl:N=0:=by omega
  have C3:=C5.out rfl;have A8:Hid (LP=d/\YY=u):=⟨C6.out C3,by rw[<-C0.out,C3];simp⟩
  obtain⟨a,cap,rfl,_⟩:=dr Z;obtain⟨f1,m1⟩:=A1.out w1 A0.out;have C7:Hid (kO l L w B.sb B.hb YY j LP w1):=by rw[A8.out.1,A8.out.2];exact⟨_,_,m1,f1⟩
  clear f1 m1 Z P;go_wp2_with fail
  (try simp only[Exit.inBlock,Exit.then])
  refine Rf (results_none rfl _ _ _) rfl ?_;exact⟨rfl,C7.out⟩
def jr(b key:yB)(a:List yB):Value:=
 if b.size≠32 then tV #[sV ⟨#[]⟩,iV .i64 2]
 else if 40<key.size\/jV a=true then tV #[sV ⟨#[]⟩,iV .i64 1]
 else qB (iR 81 (cl b.data.toList) (aC key) 0 false a [])
theorem rO{r:yL}(h:r.length=32):aw (cl r) 0:=by
 unfold cl;split
 ·exact lB 0
 ·exact⟨trivial,trivial,by show 0<=80;omega,h⟩
theorem LD(x:Option yL):∃s c,qB x=tV #[sV s,iV .i64 c]:=by
 cases x with
 |none=>exact⟨_,_,rfl⟩
 |some v=>exact⟨_,_,rfl⟩
theorem zV(w)(d key:yB)(a)(cap:Nat)(b:List yB)(l:fD w (lV a b.length cap) b)(t:b.length<=maxLen)(n:∀p∈b,p.size<=maxLen)(U:key.size<=maxLen)(T:az w):
 Calls yP 47 #[sV d,sV key,lV a b.length cap] w fun e w'=>e=rV (jr d key b)/\yW w w':=by
 unfold maxLen at U;by_cases h32:d.size=32
 ·by_cases h40:40<key.size
  ·have j:Hid (jr d key b=tV #[sV ⟨#[]⟩,iV .i64 1]):=by show _=_;unfold jr;rw[QW (by omega),QX (.inl h40)]
   have K:((d.size:Int) != 32)=false:=by rw[h32];rfl
   have V:(40:Int)<(key.size:Int):=by omega
   clear l t n T h32 h40;generalize jr d key b=X at*;generalize b.length=N at*;go_enter func47,ntmps47
   go_wp2_with fail
   go_ret2
   rw[j.out];exact⟨rfl,Q1 _ _⟩
  ·have k:=aa (IM w _ b l t n);have K:((d.size:Int) != 32)=false:=by rw[h32];rfl
   have V:decide ((40:Int)<(key.size:Int))=false:=by simp;omega
   cases hlb:jV b with
   |true=>
    rw[hlb] at k;have j:Hid (jr d key b=tV #[sV ⟨#[]⟩,iV .i64 1]):=by show _=_;unfold jr;rw[QW (by omega),QX (.inr hlb)]
    clear l t n T h32 h40 hlb;generalize jr d key b=X at*;generalize b.length=N at*;go_enter func47,ntmps47
    go_wp2_with fail
    refine k.out.mono ?_;rintro e w1 ⟨rfl,A⟩;subst A;clear k;go_wp2_with fail
    go_ret2
    rw[j.out];exact⟨rfl,Q1 _ _⟩
   |false=>
    rw[hlb] at k;have h96:b.length<=96:=by
     unfold jV at hlb;have:decide (96<b.length)=false:=by
      cases hd:decide (96<b.length) with
      |true=>rw[hd] at hlb;cases hlb
      |false=>rfl
     simpa using this
    have J:d.data.toList.length=32:=by simpa using h32
    have F:Hid (Calls yP 30 #[sV d] w (Made w (fun _=>False) (cl d.data.toList))):=by
     have:=AN w d.data.toList T;rw[jc] at this;exact this
    have E:Hid (∀(u:Option Addr) (W:World),Calls yP 80 #[pV u,sV key] W fun e w'=>e=rV (gV #[pV u,sV (str (aC key)),iV .i64 0,bV false])/\yW W w'):=fun u W=>uo u key (by omega) W
    have C:Hid (∀r u,At r (cl d.data.toList) (fun x=>False\/w.heap.size<=x) (pV u)->yW w r->Calls yP 89 #[gV #[pV u,sV (str (aC key)),iV .i64 0,bV false],lV a b.length cap] r fun e w'=>∃s c,e=rV (tV #[sV s,iV .i64 c])/\Hid (tV #[sV s,iV .i64 c]=qB (iR 81 (cl d.data.toList) (aC key) 0 false b [])/\yW w w')):=fun r u Q f=>by
     refine(Ou r u (cl d.data.toList) _ (aC key) a cap b Q (rO J) (ch key) (by rw[gA];omega) (T.below f) (fun x q=>?_) (fun W R=>?_) n h96).mono fun e w' m=>?_
     ·have:=T.size;rcases q with h|h
      ·exact h.elim
      ·omega
     ·obtain⟨O,P,h1,h2⟩:=l;refine⟨O,P,h1,h2.imp id fun⟨g,o,h3,h4⟩=>⟨g,o,h3,fun i p Y=>?_⟩⟩;have I:=h4 i p Y;have z:=Rj w _ I;have S:W.heap[g]? =w.heap[g]? :=(R.block g (Q6 z f.size) fun q=>by
       rcases q with h|h
       ·exact h.elim
       ·exact absurd z (SE.2 h)).trans (f.block g z)
      exact(Rd (a:=⟨g,o+i,none⟩) S).trans I
     ·obtain⟨s,c,L⟩:=LD (iR 81 (cl d.data.toList) (aC key) 0 false b []);refine⟨s,c,by rw[m.1,L],L.symm,⟨m.2.os.trans f.os,m.2.tape.trans f.tape,m.2.output.trans f.output,Q7 f.size m.2.size,fun x q=>?_⟩⟩;rw[m.2.block x (Q6 q f.size) fun h=>?_]
      ·exact f.block x q
      ·rcases h with h|h
       ·exact h.elim
       ·omega
    have j:Hid (jr d key b=qB (iR 81 (cl d.data.toList) (aC key) 0 false b [])):=by
     show _=_;unfold jr;rw[QW (by omega),QW];rintro (h|h)
     ·exact h40 h
     ·rw[hlb] at h;cases h
    clear l t n T h32 h40 hlb h96 J;generalize jr d key b=X at*;generalize iR 81 (cl d.data.toList) (aC key) 0 false b []=FO at*;generalize cl d.data.toList=TP at*;generalize str (aC key)=KP at*;generalize b.length=N at*;go_enter func47,ntmps47
    go_wp2_with fail
    refine k.out.mono ?_;rintro e w1 ⟨rfl,A⟩;subst A;clear k;go_wp2_with fail
    refine F.out.mono ?_;rintro e w2 ⟨u2,rfl,G,H⟩;have v:Hid (At w2 TP (fun x=>False\/w1.heap.size<=x) (pV u2)/\yW w1 w2):=⟨G,H⟩
    clear G H F;go_wp2_with fail
    refine(E.out u2 _).mono ?_;rintro e w3 ⟨rfl,y⟩;have M:=v.out.2.size;have B:Hid (∀o,Calls yP 89 #[gV #[pV u2,sV KP,iV .i64 0,bV false],lV a N cap] (w3.alloc o) fun e w'=>∃s c,e=rV (tV #[sV s,iV .i64 c])/\Hid (tV #[sV s,iV .i64 c]=qB FO/\yW w1 w')):=fun o=>C.out _ u2 ((v.out.1.below y).below ((Q1 _ _).alloc (QU _) _)) ((v.out.2.trans (y.mono M)).alloc (by have:=y.size;omega) _)
    clear y E C v M;go_wp2_with fail
    refine(B.out _).mono ?_;rintro e w4 ⟨s4,c4,rfl,D⟩;clear B;go_wp2_with fail
    go_ret2
    rw[j.out,<-D.out.1];exact⟨rfl,D.out.2⟩
 ·have j:Hid (jr d key b=tV #[sV ⟨#[]⟩,iV .i64 2]):=by show _=_;unfold jr;rw[QX h32]
  have K:((d.size:Int) != 32)=true:=by simp;omega
  clear l t n T h32;generalize jr d key b=X at*;generalize b.length=N at*;go_enter func47,ntmps47
  go_wp2_with fail
  go_ret2
  rw[j.out];exact⟨rfl,Q1 _ _⟩
theorem Bk.row{l1 L}{w1 w2:World}{B S g}(h:Bk l1 L w1 B S)(i:L.ok)(q:w1.heap.size<=w2.heap.size)(d:∀k,k<w1.heap.size->k≠g->w2.heap[k]? =w1.heap[k]?)(f:l1 g=0)(o:B.mv.ownBlock≠some g)(l:B.bv.ownBlock≠some g):Bk (fA l1 w1.heap.size) L w2 B S:=by
 obtain⟨_,_,a3,a4⟩:=i.a;have m:B.bb≠g:=fun e=>by have:=h.lb;rw[e,f] at this;omega
 have p:B.tb≠g:=fun e=>by have:=h.lt;rw[e,f] at this;omega
 have j:∀x,S x->x≠g:=fun x c e=>by have:=h.lS x c;rw[e,f] at this;omega
 exact
  {bk:=(d _ h.bk.lt m).trans h.bk
   lb:=(j5 h.bk.lt).trans h.lb
   pm:=cK h.pm fun k b=>d k (h.pm.lt k b).2 fun e=>o (e▸b)
   lm:=fun k b=>(j5 (h.pm.lt k b).2).trans (h.lm k b)
   pb:=cK h.pb fun k b=>d k (h.pb.lt k b).2 fun e=>l (e▸b)
   lv:=fun k b=>(j5 (h.pb.lt k b).2).trans (h.lv k b)
   tr:=h.tr.same q fun x c n=>d x n (by rcases c with rfl|c;exact p;exact j x c)
   loose:=h.loose
   lS:=fun x c=>(j5 (h.tr.own x c).2.2).trans (h.lS x c)
   lt:=(j5 h.tr.lt).trans h.lt
   om:=h.om
   ob:=h.ob
   nm:=h.nm
   nb:=h.nb}
theorem cG.row{l1 L}{w1 w2:World}{sb c m j l i g}(h:cG l1 L w1 sb c m j l i)(n:L.ok)(f:∀k,k<w1.heap.size->k≠g->w2.heap[k]? =w1.heap[k]?)(d:l1 g=0):cG (fA l1 w1.heap.size) L w2 sb c m j l i:=by
 obtain⟨a1,a2,_,_⟩:=n.a;exact
  {hu:=(f _ h.hu.lt fun e=>by have:=h.lh;rw[e,d] at this;omega).trans h.hu
   lh:=(j5 h.hu.lt).trans h.lh
   st:=h.st.kept fun x b=>f x (h.st.st.dQ x b) fun e=>by have:=h.ls x b;rw[e,d] at this;omega
   ls:=fun x b=>(j5 (h.st.st.dQ x b)).trans (h.ls x b)}
theorem Mv.row{T l l1}{w w1 w2:World}{g}(m:Mv T l l1 w w1)(d:w2.os=w1.os)(f:w2.tape=w1.tape)(e:w2.output=w1.output)(h:w1.heap.size<=w2.heap.size)(b:∀k,k<w1.heap.size->k≠g->w2.heap[k]? =w1.heap[k]?)(i:w.heap.size<=g):Mv T l (fA l1 w1.heap.size) w w2:=
 ⟨d.trans m.os,f.trans m.tape,e.trans m.output,Q7 m.size h,fun k a=>(j5 (Q6 a m.size)).trans (m.aM k a),fun k a c=>(b k (Q6 a m.size) (by omega)).trans (m.ah k a c)⟩
theorem Ih:∀(f:Nat) (t) (r) (d:Nat),aw t d->dw t r->ak r->(eG f t r d).length<=f/\∀c∈eG f t r d,c.length<=4096:=by
 intro f;induction f with
 |zero=>intro t r d _ _ _;exact⟨QU _,fun c h=>by cases h⟩
 |succ f ih=>
  intro t r d g j m;by_cases i:t.isNil=true
  ·simp only[eG,QX i];exact⟨Ri _,fun c h=>by cases h⟩
  ·have p:t.some:=(gn t).1 (by simpa using i);have o:t.read:=by cases t<;>first|exact p.elim|exact j.elim|trivial
   have l:aw (aA t r d).1 (aA t r d).2.2.1/\dw (aA t r d).1 (aA t r d).2.1/\ak (aA t r d).2.1:=by
    have b:aw (Nd.nil) 0/\dw .nil []/\ak []:=⟨lB 0,trivial,fun _ h=>by cases h⟩
    cases t with
    |nil=>exact b
    |unread _=>exact b
    |leaf _ _ _=>exact b
    |ext h q k=>
     simp only[aA];split
     ·next e=>exact⟨dY g,j e,cS m _⟩
     ·exact b
    |branch h v ks=>
     cases r with
     |nil=>exact b
     |cons c r=>
      have a:=m c (QY ..);exact⟨di g _ a,j,fun y s=>m y (QZ _ s)⟩
   obtain⟨i1,i2⟩:=ih _ _ _ l.1 l.2.1 l.2.2;simp only[eG,QW i];have n:(dZ t d).length<=1/\∀c∈dZ t d,c.length<=4096:=by
    unfold dZ;split
    ·exact⟨QU _,fun c a=>by rw[Q2.1 a];exact(g.aJ.nw o).2⟩
    ·exact⟨Ri _,fun c h=>by cases h⟩
   exact⟨by rw[Q4];omega,fun c a=>(Re.1 a).elim (n.2 c) (i2 c)⟩
theorem uJ{G t}(a:aw t 0)(key):(bj G t key).length<=81/\∀c∈bj G t key,c.length<=4096:=by
 unfold bj;split
 ·exact⟨Ri _,fun c h=>by cases h⟩
 ·next h40=>
  split
  ·next h0=>exact Ih 81 _ (aC key) 0 (jf G t key a) (kA G t key a (by omega) h0) (ch key)
  ·exact⟨Ri _,fun c h=>by cases h⟩
def rK(b key:yB)(a:List yB):Option yL:=iR 81 (cl b.data.toList) (aC key) 0 false a []
def eo(b key:yB)(a:List yB):yB:=if b.size≠32 then⟨#[]⟩ else if 40<key.size\/jV a=true then⟨#[]⟩ else match rK b key a with|none=>⟨#[]⟩|some v=>str v
def gf(b key:yB)(a:List yB):Int:=if b.size≠32 then 2 else if 40<key.size\/jV a=true then 1 else match rK b key a with|none=>12 |some _=>0
theorem wP(b key)(a:List yB):jr b key a=tV #[sV (eo b key a),iV .i64 (gf b key a)]:=by
 unfold jr eo gf rK;split
 ·rfl
 ·split
  ·rfl
  ·cases iR 81 (cl b.data.toList) (aC key) 0 false a []<;>rfl
def qu(b:Bool)(a:yB)(m:List (yB×yB))(key:yB)(cs:List yB):Bool:=
 if 2*key.size+1<cs.length then false
 else if cs.any (fun c=>decide (693<c.size))=true then false
 else if gf a key cs=0/\eo a key cs=dj m key then true
 else if cQ (cs++[aX]) (cs++[aX]).length=true then true
 else decide (gf a key cs=0) && b
def qt(G:yB->Option yB)(b a:Bool)(t:Nd)(m:List (yB×yB))(key:yB):Bool:=
 if 40<key.size then true
 else if cE G t key≠0 then bQ b a (cE G t key)
 else qu a (str (bM (bg G t key))) m key ((bj G t key).map str)
structure QK(l:Nat->Nat)(L:jm)(w:World)(B:dI)(yes ag:Bool)(ps:List (yB×yB))(v:Value)(cs:List yB)(w':World)(l1:Nat->Nat)(S1:Nat->Prop)(vs:Nat->Value)(b0:Nat):Prop where
 mv:Mv (fun x=>x=L.tr\/x=L.bk) l l1 w w'
 bk:Bk l1 L w' B S1
 cI:cG l1 L w' B.sb B.hb yes ag vs ps
 row:w'.ownsRow b0 9 1 v cs.length (cs.map Value.string)
 low:w.heap.size<=b0
 hi:b0<=w'.heap.size
 aM:∀g,v.ownBlock=some g->l1 g=0
 mm:∀g,B.mv.ownBlock=some g->g<w.heap.size
 bb:∀g,B.bv.ownBlock=some g->g<w.heap.size
def gd(l:Nat->Nat)(L:jm)(w:World)(B:dI)(c b:Bool)(a:List (yB×yB))(v:Value)(cs:List yB)(w':World):Prop:=∃l1 S1 vs b0,QK l L w B c b a v cs w' l1 S1 vs b0
theorem gd.to{l L w B d c b v cs w'}(h:gd l L w B d c b v cs w'):e8 l L w B w':=by
 obtain⟨l1,a,e,b0,h⟩:=h;exact⟨l1,a,h.mv,h.bk⟩
theorem gd.below{l L w B f e d v cs w' w2}(h:gd l L w B f e d v cs w')(b:Below w'.heap.size w' w2):gd l L w B f e d v cs w2:=by
 obtain⟨l1,i,j,b0,h⟩:=h;have c:=Mv.below (fun _=>False) l1 b;exact⟨_,i,j,b0,⟨h.mv.trans (c.mono fun _ hx=>hx.elim),h.bk.move c id id id,h.cI.move c id id,cK h.row fun g a=>b.block g (h.row.lt g a).2,h.low,Q7 h.hi b.size,fun g a=>(j5 (h.row.lt g a).2).trans (h.aM g a),h.mm,h.bb⟩⟩
theorem gd.cells{l L w B b a c v cs w'}(h:gd l L w B b a c v cs w'):w'.cell? ⟨B.bb,1,none⟩=some (pV (qA B.tb))/\w'.cell? ⟨B.bb,2,none⟩=some B.mv/\w'.cell? ⟨B.bb,4,none⟩=some (pV (qA B.hb))/\w'.cell? ⟨B.hb,0,none⟩=some (bV b)/\w'.cell? ⟨B.hb,1,none⟩=some (bV a)/\dP w' B.mv B.m/\fD w' v cs:=by
 obtain⟨l1,d,e,b0,h⟩:=h;obtain⟨_,c1,c2,_,c4⟩:=h.bk.cells;obtain⟨d0,d1⟩:=h.cI.cells;exact⟨c1,c2,c4,d0,d1,h.bk.pm,oZ h.row⟩
theorem gd.grown{l L w B m j i v cs w' w2}(h:gd l L w B m j i v cs w')(f:L.ok)(a:w'.grownBy w2 v.ownBlock):∃l2 S2 vs2,Mv (fun x=>x=L.tr\/x=L.bk) l l2 w w2/\Bk l2 L w2 B S2/\cG l2 L w2 B.sb B.hb m j vs2 i:=by
 cases hv:v.ownBlock with
 |none=>
  have n:Below w'.heap.size w' w2:=⟨a.os,a.tape,a.output,a.size,fun k c=>a.block k c fun e=>by rw[hv] at e;cases e⟩
  obtain⟨l1,b,d,b0,h⟩:=h.below n;exact⟨l1,b,d,h.mv,h.bk,h.cI⟩
 |some g=>
  obtain⟨l1,b,d,b0,h⟩:=h;have g1:=Q7 h.low (h.row.lt g hv).1;have g2:=h.aM g hv;have g3:∀k,k<w'.heap.size->k≠g->w2.heap[k]? =w'.heap[k]? :=fun k c o=>a.block k c fun e=>o (by rw[hv] at e;injection e)
  exact⟨_,b,d,h.mv.row a.os a.tape a.output a.size g3 g1,h.bk.row f a.size g3 g2 (fun e=>by have:=h.mm g e;omega) (fun e=>by have:=h.bb g e;omega),h.cI.row f g3 g2⟩
theorem Bk.ly{l L w B S p n o a}(h:Bk l L w B S)(f:cG l L w B.sb B.hb p n o a)(c:L.ok)(T:az w)(key:yB)(z:key.size<=maxLen):
 Calls yP 45 #[pV (qA B.tb),sV key] w fun e w'=>∃v,e=rV (tV #[v,iV .i64 (cE (ae a) B.t key:Int)])/\gd l L w {B with t:=bg (ae a) B.t key} p n a v ((bj (ae a) B.t key).map str) w'/\(cE (ae a) B.t key≠0->v=lV none 0 0):=by
 obtain⟨u,_⟩:=h.over f c T;refine(zZ h.tr u key z).mono ?_;rintro e w' ⟨v,w1,y,s,i,j,A⟩;obtain⟨l',S',m,h1,h2⟩:=wS h.lS h.lt s;have q:=h.nI c m h1 h2 (qS h.tr.ok h.loose);have k:Mv (fun x=>x=L.tr\/x=L.bk) l l' w w1:=m.mono fun _ hx=>.inl hx
 have r:=f.to c k;have d:=Mv.below (fun _=>False) l' i;refine⟨v,y,⟨_,S',o,w1.heap.size,⟨k.trans (d.mono fun _ hx=>hx.elim),q.move d id id id,r.move d id id,by rw[Rr,<-tZ];exact j,m.size,i.size,fun g b=>nr (j.lt g b).1,fun g b=>(h.pm.lt g b).2,fun g b=>(h.pb.lt g b).2⟩⟩,A⟩
theorem Ee(key:yB)(b:key.size<=maxLen)(W):Calls yP 32 #[sV key,sV ⟨#[]⟩] W fun e w'=>e=rV (bV (decide (40<key.size)))/\w'=W:=by
 have:=vw key ⟨#[]⟩ b (by decide) W;have e:lg key ⟨#[]⟩=decide (40<key.size):=by
  unfold lg;by_cases h:40<key.size
  ·rw[Ra h,Ra (.inl h)]
  ·rw[Q9 h,Q9];rintro (a|a);exact h a;exact absurd a (by decide)
 rw[e] at this;exact this
theorem Ed{l L w B S q j vs b}(h:Bk l L w B S)(f:cG l L w B.sb B.hb q j vs b)(Q:L.ok)(T:az w)(B9:∀k,k<3->l k=0)(key:yB)(s:key.size<=maxLen):
 Calls yP 21 #[pV (qA B.bb),sV key] w fun e w'=>e=rV (bV (qt (ae b) q j B.t B.m key))/\e8 l L w {B with t:=bg (ae b) B.t key} w':=by
 obtain⟨_,c1,_,_,_⟩:=h.cells;have G8:key.size<=9223372036854775807:=by unfold maxLen at s;omega
 have A4:=aa (h.ly f Q T key s);have J:Hid (∀W,Calls yP 32 #[sV key,sV ⟨#[]⟩] W fun e w'=>e=rV (bV (decide (40<key.size)))/\w'=W):=fun W=>Ee key s W
 have D1:Hid (40<key.size->cE (ae b) B.t key=1):=fun h=>by unfold cE;rw[QX h]
 have A3:Hid (qt (ae b) q j B.t B.m key=if 40<key.size then true else if cE (ae b) B.t key≠0 then bQ q j (cE (ae b) B.t key) else qu j (str (bM (bg (ae b) B.t key))) B.m key ((bj (ae b) B.t key).map str)):=rfl;obtain⟨E0,E1⟩:=uJ (G:=ae b) h.tr.ok key;have A6:∀c∈(bj (ae b) B.t key).map str,c.size<=4096:=fun c C=>by
  obtain⟨d,hd,rfl⟩:=Rt.1 C;rw[aH];exact E1 d hd
 have G4:((bj (ae b) B.t key).map str).length<=81:=by rw[Rr];exact E0
 have D6:Hid (∀v w',gd l L w {B with t:=bg (ae b) B.t key} q j b v ((bj (ae b) B.t key).map str) w'->az w'):=fun v w' ⟨l1,S1,C7,b0,i⟩=>T.mv i.mv fun k s V=>by rw[B9 k s] at V;exact Q.apart.2.2 V
 have x:Hid (∀v w',gd l L w {B with t:=bg (ae b) B.t key} q j b v ((bj (ae b) B.t key).map str) w'->Calls yP 38 #[pV (qA B.tb)] w' fun e w2=>e=rV (sV (str (bM (bg (ae b) B.t key))))/\gd l L w {B with t:=bg (ae b) B.t key} q j b v ((bj (ae b) B.t key).map str) w2):=fun v w' i=>by
  have Tw:=D6.out v w' i;obtain⟨l1,S1,C7,b0,D⟩:=id i;obtain⟨⟨u,h1,h2⟩,h3,_⟩:=D.bk.tr;exact(pM w' B.tb _ u _ S1 h1 h2 h3.aJ Tw).mono fun e w2 ⟨e1,e2⟩=>⟨e1,i.below e2⟩
 have F3:Hid (∀v a cap w',v=lV a ((bj (ae b) B.t key).map str).length cap->gd l L w {B with t:=bg (ae b) B.t key} q j b v ((bj (ae b) B.t key).map str) w'->Calls yP 47 #[sV (str (bM (bg (ae b) B.t key))),sV key,v] w' fun e w2=>e=rV (tV #[sV (eo (str (bM (bg (ae b) B.t key))) key ((bj (ae b) B.t key).map str)),iV .i64 (gf (str (bM (bg (ae b) B.t key))) key ((bj (ae b) B.t key).map str))])/\gd l L w {B with t:=bg (ae b) B.t key} q j b v ((bj (ae b) B.t key).map str) w2):=fun v a cap w' y i=>by
  subst y;obtain⟨_,_,_,_,_,_,C4⟩:=i.cells;rw[<-wP];exact(zV w' _ key a cap _ C4 (by unfold maxLen;omega) (fun p i=>by have:=A6 p i;unfold maxLen;omega) s (D6.out _ w' i)).mono fun e w2 ⟨e1,e2⟩=>⟨e1,i.below e2⟩
 have F1:Hid (∀W,dP W B.mv B.m->Calls yP 36 #[B.mv,sV key] W fun e w'=>e=rV (sV (dj B.m key))/\w'=W):=fun W hW=>mY W _ B.m key hW (by have:=h.nm;omega)
 have D2:Hid (∀W c,W.cell? ⟨B.bb,4,none⟩=some (pV (qA B.hb))->W.cell? ⟨B.hb,0,none⟩=some (bV q)->W.cell? ⟨B.hb,1,none⟩=some (bV j)->Calls yP 33 #[pV (qA B.bb),iV .i64 c] W fun r w'=>r=rV (bV (bQ q j c))/\w'=W):=fun W c h1 h2 h3=>qN h1 h2 h3 c
 have F2:Hid (bQ q j 0=j):=by show _=_;unfold bQ;simp
 have C9:Hid (∀W u (l:List yB),az W->fD W u l->l.length<=4200000000000->(∀p∈l,p.size<=maxLen)->Calls yP 46 #[u] W fun e w'=>e=rV (bV (cQ l l.length))/\yW W w'):=fun W u l hW hu hl hs=>oh W u l hu hl hs hW
 have D0:Hid (∀v w' w2,gd l L w {B with t:=bg (ae b) B.t key} q j b v ((bj (ae b) B.t key).map str) w'->w'.grownBy w2 v.ownBlock->az w2/\∀w3,yW w2 w3->e8 l L w {B with t:=bg (ae b) B.t key} w3/\w3.cell? ⟨B.bb,4,none⟩=some (pV (qA B.hb))/\w3.cell? ⟨B.hb,0,none⟩=some (bV q)/\w3.cell? ⟨B.hb,1,none⟩=some (bV j)):=fun v w' w2 i hg=>by
  obtain⟨l2,S2,H1,m2,h2,f2⟩:=i.grown Q hg;refine⟨T.mv m2 fun k s V=>by rw[B9 k s] at V;exact Q.apart.2.2 V,fun w3 hb=>?_⟩;have mb:=Mv.below (fun _=>False) l2 hb;have h3:=h2.move mb id id id;have f3:=f2.move mb id id;obtain⟨_,_,_,_,a4⟩:=h3.cells;obtain⟨b0,b1⟩:=f3.cells;exact⟨⟨_,S2,m2.trans (mb.mono fun _ hx=>hx.elim),h3⟩,a4,b0,b1⟩
 have G9:=h.pm.form;obtain⟨i0,E3,E6,E7,E8⟩:=Sf ng;clear h f Q T B9 E0 E1;generalize qt (ae b) q j B.t B.m key=R at*;generalize hBT:bg (ae b) B.t key=BT at*;clear hBT;generalize cE (ae b) B.t key=E at*;generalize (bj (ae b) B.t key).map str=cs at*;generalize str (bM BT)=RT at*;have q44:∀(w:World) (a:Option Addr) (n c n' c':Nat),(binOp .eql 63 (lV a n c) (lV none n' c')).run yP w=.ok (bV a.isNone) w:=fun w a n c n' c'=>Lib.run_eql_slice_nil w _ _ a n c n' c' underlying63
 by_cases h40:40<key.size
 ·have z:Hid (R=true):=by rw[A3.out,QX h40];rfl
  obtain rfl:E=1:=D1.out h40;rw[Ra h40] at J;go_enter func21,ntmps21
  go_wp2_with fail
  refine A4.out.mono ?_;rintro e w1 ⟨v,rfl,i,A0⟩;obtain rfl:=A0 (by decide);have A:=aa i.to;clear i A0;go_wp2_with fail
  refine(J.out _).mono ?_;rintro e wx ⟨rfl,A2⟩;subst A2;go_wp2_with fail
  go_ret
  exact⟨by rw[z.out];rfl,A.out⟩
 ·rw[Q9 h40] at J;by_cases h0:E=0
  ·subst h0;have z:Hid (R=qu j RT B.m key cs):=by rw[A3.out,QW h40,QW (by simp)];rfl
   have A9:=aa A6;clear A3 A6 D1;go_enter func21,ntmps21
   go_wp2_with fail
   refine A4.out.mono ?_;rintro e w1 ⟨v,rfl,i,_⟩;have B3:=aa i;obtain⟨a,cap,y,_⟩:∃a cap,v=lV a cs.length cap/\True:=by
    obtain⟨l1,S1,C7,b0,D⟩:=i;obtain⟨a,cap,e,_⟩:=dr D.row;exact⟨a,cap,e,trivial⟩
   subst y;obtain⟨d1,_⟩:=i.cells;have C8:Hid (∀k (_:k<cs.length),∃c g o,cs[k]? =some c/\a=some ⟨g,o,none⟩/\w1.cell? ⟨g,o+k,none⟩=some (sV c)/\c.size<=4096):=fun k s=>by
    have C:cs[k]? =some cs[k]:=QV s;obtain⟨_,_,_,_,_,_,a',G1,e,C4⟩:=i.cells;cases e
    rcases C4 with h|⟨g,o,e,h⟩
    ·rw[h] at s;cases s
    ·exact⟨_,g,o,C,e,h k _ C,A9.out _ (RV s)⟩
   clear i A4;go_wp2_with fail
   refine(J.out _).mono ?_;rintro e wx ⟨rfl,A2⟩;subst A2;have G7:(key.size:Int)<=40:=by omega
   by_cases C2:2*key.size+1<cs.length
   ·have B5:Hid (R=false):=by rw[z.out];unfold qu;rw[QX C2];rfl
    have F7:(2*(key.size:Int)+1)<(cs.length:Int):=by omega
    have A:=aa B3.out.to;go_wp2_with fail
    go_ret
    exact⟨by rw[B5.out];rfl,A.out⟩
   ·have F7:¬(2*(key.size:Int)+1)<(cs.length:Int):=by omega
    have B6:Hid (qu j RT B.m key cs=if cs.any (fun c=>decide (693<c.size))=true then false else if gf RT key cs=0/\eo RT key cs=dj B.m key then true else if cQ (cs++[aX]) (cs++[aX]).length=true then true else decide (gf RT key cs=0) && j):=by show _=_;unfold qu;rw[QW C2]
    generalize hN:cs.length=N at*;clear C2;go_wp2_with fail
    go_loopg [9] N (fun g r wr=>∃k:Nat,g=N - k/\k<=N/\r=iV .i64 k/\Hid ((cs.take k).any (fun c=>decide (693<c.size))=false)/\wr=wx)
    case atStart=>exact⟨0,rfl,by omega,rfl,by show List.any _ _=false;simp,rfl⟩
    case round=>
     obtain⟨k,hg,G6,rfl,B8,rfl⟩:=hrel;have HG:=aa hg;clear hg;by_cases F8:k<N
     ·obtain⟨c,g,o,C,rfl,cc,A6⟩:=C8.out k F8;have F6:(k:Int)<(N:Int):=by omega
      have D7:Hid ((cs.take (k+1)).any (fun c=>decide (693<c.size))=decide (693<c.size)):=by
       show List.any _ _=_;rw[Sx,C,List.any_append,B8.out];simp
      by_cases h693:693<c.size
      ·have B5:Hid (R=false):=by
        rw[z.out,B6.out,QX]
        ·rfl
        ·rw[List.any_eq_true];exact⟨c,Rv C,Ra h693⟩
       have F4:(693:Int)<(c.size:Int):=by omega
       have A:=aa B3.out.to;go_wp2_with fail
       go_ret
       exact⟨by rw[B5.out];rfl,A.out⟩
      ·have F4:¬(693:Int)<(c.size:Int):=by omega
       rw[Q9 h693] at D7;go_wp2_with fail
       go_roundg (N - (k+1))
       case measure=>have:=HG.out;omega
       case rel=>exact⟨k+1,rfl,by omega,by go_num,D7,rfl⟩
     ·obtain rfl:k=N:=by omega
      have F6:¬(k:Int)<(k:Int):=by omega
      have E2:cs.any (fun c=>decide (693<c.size))=false:=by
       have:=B8.out;rw[<-hN,SG] at this;exact this
      have B7:Hid (R=if gf RT key cs=0/\eo RT key cs=dj B.m key then true else if cQ (cs++[aX]) (cs++[aX]).length=true then true else decide (gf RT key cs=0) && j):=by rw[z.out,B6.out,QW (by rw[E2];exact Bool.false_ne_true)];rfl
      clear z B6 E2 B8 C8;have D4:=x.out _ _ B3.out;have D5:=aa D4;clear D4;go_wp2_with fail
      refine D5.out.mono ?_;rintro e w2 ⟨rfl,E4⟩;have D8:Hid (Calls yP 47 #[sV RT,sV key,lV a k cap] w2 fun e w3=>e=rV (tV #[sV (eo RT key cs),iV .i64 (gf RT key cs)])/\gd l L w {B with t:=BT} q j b (lV a k cap) cs w3):=F3.out _ a cap w2 rfl E4;clear E4 D5 d1;go_wp2_with fail
      refine D8.out.mono ?_;rintro e w3 ⟨rfl,A8⟩;obtain⟨_,d2,d4,e0,e1,D9,_⟩:=A8.cells;have B4:Hid (gd l L w {B with t:=BT} q j b (lV a k cap) cs w3):=A8;have F0:=aa (F1.out w3 D9);have E9:=aa A8.to;clear A8 D9 D8;simp only at d2;go_wp2_with fail
      refine F0.out.mono ?_;rintro e F ⟨rfl,G0⟩;subst G0;generalize dj B.m key=HV at*;generalize eo RT key cs=VS at*;generalize gf RT key cs=VC at*;have G5:cs.length<=81:=by omega
      by_cases A7:VC=0/\VS=HV
      ·obtain⟨rfl,rfl⟩:=A7;have x:Hid (R=true):=by rw[B7.out,QX ⟨rfl,rfl⟩];rfl
       go_wp2_with fail
       go_ret
       exact⟨by rw[x.out];rfl,E9.out⟩
      ·have A5:Hid (R=if cQ (cs++[aX]) (cs++[aX]).length=true then true else decide (VC=0) && j):=by rw[B7.out,QW A7];rfl
       obtain⟨l1,S1,C7,b0,D⟩:=id B4.out;have D3:=aa D.row;have G3:=D.hi;clear D B7;have F5:(VC=0/\(VS.toList == HV.toList)=false)\/(VC == 0)=false:=by
        by_cases C5:VC=0
        ·refine .inl ⟨C5,?_⟩;rw[fZ];exact Q9 fun e=>A7 ⟨C5,e⟩
        ·exact .inr (by simpa using C5)
       clear A7;rcases F5 with⟨rfl,H0⟩|F9
       ·have H:Hid (gd l L w {B with t:=BT} q j b (lV a k cap) cs (F.alloc (.cells #[sV aX] 9))):=B4.out.below ((Q1 _ _).alloc (QU _) _);go_wp2_with (at_builtin;refine RG _ rfl (.tmp 87) (.tmp 88) 63 rfl b0 9 i0 (sV ⟨#[]⟩) 1 16 underlying63 E3 E6 E7 E8 rfl (by decide) _ cs.length (cs.map Value.string) rfl (D3.out.alloc _) ⟨F.heap.size,0,none⟩ 1 1 [sV aX] rfl rfl (So _ _ _) ?ka2 (by omega) ?ka3 ?ka4 ?ka5 _ rfl ?ka6)
        case ka2=>first|rfl| (intro v y;simp at y;subst y;rfl)
        case ka3=>unfold maxLen;omega
        case ka4=>omega
        case ka5=>first|omega| (simp;omega)
        intro g8 M w8 A1 Z C0 C3;obtain⟨K,Y⟩:=D0.out _ _ w8 H.out Z;have C1:(cs++[aX]).length=k+1:=by rw[Q4,hN];rfl
        have U:fD w8 (lV (qA g8) (k+1) M) (cs++[aX]):=oZ (base:=b0) (by rw[C1,R9];exact A1);have P:=C9.out w8 _ (cs++[aX]) K U (by rw[Q4,Sa];omega) (fun p i=>by
         rcases Re.1 i with i|i
         ·have:=A9.out p i;unfold maxLen;omega
         ·rw[Q2.1 i];decide)
        have B1:=aa Y;generalize cQ (cs++[aX]) (cs++[aX]).length=CK at*;have B0:=aa P;clear A1 Z C0 C3 Y U P K H;go_wp2_with fail
        refine B0.out.mono ?_;rintro e w9 ⟨rfl,X⟩;obtain⟨O,f4,f0,f1⟩:=B1.out w9 X;have I:=aa O;clear X O;cases CK with
        |true=>
         have x:Hid (R=true):=by rw[A5.out,QX rfl];rfl
         go_wp2_with fail
         go_ret
         exact⟨by rw[x.out];rfl,I.out⟩
        |false=>
         have x:Hid (R=j):=by rw[A5.out,QW Bool.false_ne_true];show _=_;simp
         have B2:Hid (Calls yP 33 #[pV (qA B.bb),iV .i64 0] w9 fun r w'=>r=rV (bV j)/\w'=w9):=by rw[<-F2.out];exact D2.out w9 0 f4 f0 f1
         go_wp2_with fail
         refine B2.out.mono ?_;rintro e wz ⟨rfl,C6⟩;subst C6;go_wp2_with fail
         go_ret
         exact⟨by rw[x.out];rfl,I.out⟩
       ·have H:Hid (gd l L w {B with t:=BT} q j b (lV a k cap) cs (F.alloc (.cells #[sV aX] 9))):=B4.out.below ((Q1 _ _).alloc (QU _) _);go_wp2_with (at_builtin;refine RG _ rfl (.tmp 87) (.tmp 88) 63 rfl b0 9 i0 (sV ⟨#[]⟩) 1 16 underlying63 E3 E6 E7 E8 rfl (by decide) _ cs.length (cs.map Value.string) rfl (D3.out.alloc _) ⟨F.heap.size,0,none⟩ 1 1 [sV aX] rfl rfl (So _ _ _) ?kb2 (by omega) ?kb3 ?kb4 ?kb5 _ rfl ?kb6)
        case kb2=>first|rfl| (intro v y;simp at y;subst y;rfl)
        case kb3=>unfold maxLen;omega
        case kb4=>omega
        case kb5=>first|omega| (simp;omega)
        intro g8 M w8 A1 Z C0 C3;obtain⟨K,Y⟩:=D0.out _ _ w8 H.out Z;have C1:(cs++[aX]).length=k+1:=by rw[Q4,hN];rfl
        have U:fD w8 (lV (qA g8) (k+1) M) (cs++[aX]):=oZ (base:=b0) (by rw[C1,R9];exact A1);have P:=C9.out w8 _ (cs++[aX]) K U (by rw[Q4,Sa];omega) (fun p i=>by
         rcases Re.1 i with i|i
         ·have:=A9.out p i;unfold maxLen;omega
         ·rw[Q2.1 i];decide)
        have B1:=aa Y;generalize cQ (cs++[aX]) (cs++[aX]).length=CK at*;have B0:=aa P;clear A1 Z C0 C3 Y U P K H;go_wp2_with fail
        refine B0.out.mono ?_;rintro e w9 ⟨rfl,X⟩;obtain⟨O,f4,f0,f1⟩:=B1.out w9 X;have I:=aa O;clear X O;cases CK with
        |true=>
         have x:Hid (R=true):=by rw[A5.out,QX rfl];rfl
         go_wp2_with fail
         go_ret
         exact⟨by rw[x.out];rfl,I.out⟩
        |false=>
         have E5:VC≠0:=by simpa using F9
         have x:Hid (R=false):=by rw[A5.out,QW Bool.false_ne_true,Q9 E5];rfl
         clear E5;go_wp2_with fail
         go_ret
         exact⟨by rw[x.out];rfl,I.out⟩
  ·have z:Hid (R=bQ q j E):=by rw[A3.out,QW h40,QX h0];rfl
   have G2:((E:Int) != 0)=true:=by simp;omega
   go_enter func21,ntmps21
   go_wp2_with fail
   refine A4.out.mono ?_;rintro e w1 ⟨v,rfl,i,A0⟩;obtain rfl:=A0 h0;obtain⟨_,d2,d4,e0,e1,_,_⟩:=i.cells;have A:=aa i.to;have B2:=aa (D2.out w1 E d4 e0 e1);generalize bQ q j (E:Int)=MK at*;clear i A0 h0;go_wp2_with fail
   refine(J.out _).mono ?_;rintro e wx ⟨rfl,A2⟩;subst A2;go_wp2_with fail
   refine B2.out.mono ?_;rintro e wz ⟨rfl,C6⟩;subst C6;cases MK<;>
    (go_wp2_with fail;go_ret;exact⟨by rw[z.out];rfl,A.out⟩)
def pr(a b:Nat):Nat:=2 ^ a*(2*b+1)
theorem si(b:Nat):pr 0 b=2*b+1:=by unfold pr;rw[Nat.pow_zero,Nat.one_mul]
theorem sj(a b:Nat):pr (a+1) b=2*pr a b:=by unfold pr;rw[Nat.pow_succ,Nat.mul_comm (2 ^ a) 2,Nat.mul_assoc]
theorem ie:∀(a b:Nat),0<pr a b
 | 0,b=>by rw[si];omega
 |a+1,b=>by rw[sj];have:=ie a b;omega
theorem gz:∀{a b c d},pr a b=pr c d->a=c/\b=d:=by
 intro a;induction a with
 |zero=>
  intro b c d h;cases c with
  |zero=>rw[si,si] at h;omega
  |succ c=>rw[si,sj] at h;omega
 |succ a ih=>
  intro b c d h;cases c with
  |zero=>rw[si,sj] at h;omega
  |succ c=>
   rw[sj,sj] at h;have:=ih (b:=b) (c:=c) (d:=d) (by omega);omega
def Of(a:Nat)(x:Nat):Prop:=∃b,x=pr a b
theorem mf(a:Nat):¬Of a 0:=fun⟨b,h⟩=>by have:=ie a b;omega
theorem mg{a c d}(h:a≠c):¬Of a (pr c d):=fun⟨_,e⟩=>h (gz e).1.symm
structure pI(l:Nat->Nat)(w:World)(sp sb tb:Nat)(t:Nd)(S:Nat->Prop):Prop where
 tr:dH w tb (qA sb) S t
 loose:bD t
 lt:l tb=pr sp (tb+1)
 lS:∀x,S x->l x=pr sp (tb+1)
theorem pI.move{T l l' w w' b sb c t S}(h:pI l w b sb c t S)(m:Mv T l l' w w')(e:¬T (pr b (c+1))):pI l' w' b sb c t S:=
 {tr:=h.tr.same m.size fun x a d=>m.kept d (by rcases a with rfl|a;exact h.lt;exact h.lS x a) e
  loose:=h.loose
  lt:=(m.aM _ h.tr.lt).trans h.lt
  lS:=fun x a=>(m.aM x (h.tr.own x a).2.2).trans (h.lS x a)}
structure jD(l:Nat->Nat)(w:World)(sp sb tw:Nat)(D:List Nat)(vs:Nat->Value)(sh:Nat->List b6)(tr:Nat->Nd)(Ss:Nat->Nat->Prop):Prop where
 ah:cJ 3 w sp sb tw vs sh
 jh:l sp=pr sp 0
 ji:∀c g,c<256->(vs c).ownBlock=some g->l g=pr sp 0
 gU:∀(c k:Nat) (e:b6),c<256->(sh c)[k]? =some e->∃tb,e.2=some ⟨tb,0,none⟩/\tb∈D
 fT:∀(c k d j:Nat) (e f:b6),c<256->d<256->(sh c)[k]? =some e->(sh d)[j]? =some f->e.2=f.2->c=d/\k=j
 g7:tw∈D
 kZ:D.Nodup
 gF:∀tb,tb∈D->pI l w sp sb tb (tr tb) (Ss tb)
theorem cJ.lt{base w b sb c d a}(h:cJ base w b sb c d a):b<w.heap.size:=(Q0.1 h.ah).1
theorem cJ.kept{base}{w w':World}{b sb f a e}(h:cJ base w b sb f a e)(i:w'.heap[b]? =w.heap[b]?)(k:∀c g,c<256->(a c).ownBlock=some g->w'.heap[g]? =w.heap[g]?):cJ base w' b sb f a e:=
 ⟨i.trans h.ah,fun c d=>cK (h.own c d) fun g j=>k c g d j,h.sep,h.ff⟩
theorem jD.move{T l l' w w' f sb n D o j k i}(h:jD l w f sb n D o j k i)(m:Mv T l l' w w')(e:∀b,¬T (pr f b)):jD l' w' f sb n D o j k i:=
 {ah:=h.ah.kept (m.kept h.ah.lt h.jh (e 0)) fun c g a d=>m.kept ((h.ah.own c a).lt g d).2 (h.ji c g a d) (e 0)
  jh:=(m.aM _ h.ah.lt).trans h.jh
  ji:=fun c g a d=>(m.aM g ((h.ah.own c a).lt g d).2).trans (h.ji c g a d)
  gU:=h.gU
  fT:=h.fT
  g7:=h.g7
  kZ:=h.kZ
  gF:=fun q p=>(h.gF q p).move m (e _)}
def bf{α:Type}(f:Nat->α)(a:Nat)(v:α):Nat->α:=fun x=>if x=a then v else f x
theorem de{α:Type}(f:Nat->α)(a:Nat)(v:α):bf f a v a=v:=by simp[bf]
theorem cZ{α:Type}(f:Nat->α){a x}(v:α)(h:x≠a):bf f a v x=f x:=by simp[bf,h]
theorem jD.nI{l w w' i sb t a D u r s k q}(h:jD l w i sb t D u r s k)(n:a∈D)(y:fQ w a (qA sb) (k a) q w')(v:bD q):
 ∃l' S',Mv (Of i) l l' w w'/\jD l' w' i sb t D u r (bf s a q) (bf k a S'):=by
 have j:=h.gF a n;obtain⟨l',S',m,h1,h2⟩:=wS j.lS j.lt y;have o:∀b,b≠a+1->pr i b≠pr i (a+1):=fun b n e=>n (gz e).2
 refine⟨l',S',m.mono fun x p=>⟨_,p⟩,?_⟩;exact
  {ah:=h.ah.kept (m.kept h.ah.lt h.jh (o 0 (by omega))) fun c g d f=>m.kept ((h.ah.own c d).lt g f).2 (h.ji c g d f) (o 0 (by omega))
   jh:=(m.aM _ h.ah.lt).trans h.jh
   ji:=fun c g d f=>(m.aM g ((h.ah.own c d).lt g f).2).trans (h.ji c g d f)
   gU:=h.gU
   fT:=h.fT
   g7:=h.g7
   kZ:=h.kZ
   gF:=fun x p=>by
    by_cases e:x=a
    ·subst e;rw[de,de];exact⟨h1,v,(m.aM _ j.tr.lt).trans j.lt,h2⟩
    ·rw[cZ _ _ e,cZ _ _ e];exact(h.gF x p).move m (o _ (by omega))}
def dq(f:Nat->Nat):List Nat->Nat
 | []=>0
 |x::r=>f x+dq f r
theorem Bc{f g a k}(b:∀x,x≠a->g x=f x)(c:g a<=f a+k):∀(D:List Nat),D.Nodup->dq g D<=dq f D+k
 | [],_=>Ri _
 |x::r,hd=>by
  obtain⟨h1,h2⟩:=List.nodup_cons.1 hd
  unfold dq
  by_cases e:x=a
  ·subst e
   have:dq g r=dq f r:=by
    clear hd h2;induction r with
    |nil=>rfl
    |cons y r ih=>
     unfold dq;rw[b y (fun e=>h1 (by rw[e];exact QY ..)),ih fun d=>h1 (QZ _ d)]
   omega
  ·have:=Bc b c r h2;rw[b x e];omega
theorem Bd(f):∀{D a},a∈D->dq f D=f a+dq f (D.erase a)
 | [],a,h=>by cases h
 |x::r,a,h=>by
  by_cases e:x=a
  ·subst e;rw[List.erase_cons_head];rfl
  ·have b:a∈r:=by rcases Rh.1 h with h|h;exact absurd h.symm e;exact h
   rw[List.erase_cons_tail (by simpa using e)]
   unfold dq
   rw[Bd f b]
   omega
theorem xi(f):∀{A D:List Nat},A.Nodup->(∀x∈A,x∈D)->dq f A<=dq f D
 | [],_,_,_=>Ri _
 |a::r,D,hd,hs=>by
  obtain⟨h1,h2⟩:=List.nodup_cons.1 hd
  have c:=hs a (QY ..)
  rw[Bd f c]
  have:=xi f (A:=r) (D:=D.erase a) h2 fun x b=>(List.mem_erase_of_ne (fun e:x=a=>h1 (by rw[<-e];exact b))).2 (hs x (QZ _ b))
  show f a+dq f r<=_
  omega
def e9(a:List (yB×yB))(c:yL):Bool:=(ae a (ai (str c))).isNone
def fI(a:List (yB×yB))(b:Nat->Nd)(x:Nat):Nat:=cO (e9 a) (b x)+1
structure SX(l:Nat->Nat)(w:World)(sp sb tw:Nat)(D:List Nat)(N:Nat)(us:Nat->Value)(ps:List (yB×yB)):Prop where
 st:∃vs sh tr Ss,jD l w sp sb tw D vs sh tr Ss/\dq (fI ps tr) D<=N
 ko:eI w sb us ps
 ls:∀x,bW sb us x->l x=pr sb 0
 bt:az w
 l3:∀k,k<3->l k=0
 ne:sp≠sb
def ix(l:Nat->Nat)(w:World)(a sb c:Nat)(D:List Nat)(N:Nat)(d:Nat->Value)(b:List (yB×yB))(K:Nat)(w':World):Prop:=∃l' D',Mv (Of a) l l' w w'/\(∀x∈D,x∈D')/\SX l' w' a sb c D' (N+K) d b
theorem SX.rest{l l' w w' g sb i D N c e T}(h:SX l w g sb i D N c e)(m:Mv T l l' w w')(h0:¬T 0)(f:¬T (pr sb 0)):eI w' sb c e/\(∀x,bW sb c x->l' x=pr sb 0)/\az w'/\∀k,k<3->l' k=0:=
 ⟨h.ko.kept fun x a=>m.kept (h.ko.st.dQ x a) (h.ls x a) f,fun x a=>(m.aM x (h.ko.st.dQ x a)).trans (h.ls x a),h.bt.mv m fun k b d=>by rw[h.l3 k b] at d;exact h0 d,fun k b=>(m.aM k (by have:=h.bt.size;omega)).trans (h.l3 k b)⟩
theorem SX.move{l l' w w' a sb d D N e c T}(h:SX l w a sb d D N e c)(m:Mv T l l' w w')(h0:¬T 0)(i:¬T (pr sb 0))(g:∀b,¬T (pr a b)):SX l' w' a sb d D N e c:=by
 obtain⟨n,j,k,f,h1,h2⟩:=h.st;obtain⟨r1,r2,r3,r4⟩:=h.rest m h0 i;exact⟨⟨n,j,k,f,h1.move m g,h2⟩,r1,r2,r3,r4,h.ne⟩
theorem SX.more{l w b sb c D N d a}(h:SX l w b sb c D N d a)(K:Nat):SX l w b sb c D (N+K) d a:=by
 obtain⟨i,f,g,e,h1,h2⟩:=h.st;exact⟨⟨i,f,g,e,h1,by omega⟩,h.ko,h.ls,h.bt,h.l3,h.ne⟩
theorem SX.below{l w w' b sb c D N d a}(h:SX l w b sb c D N d a)(e:yW w w'):SX (fA l w.heap.size) w' b sb c D N d a:=
 h.move (Mv.below (fun _=>False) l e) id id fun _=>id
theorem SX.go{l w w' c sb d D N e b}(h:SX l w c sb d D N e b)(a:yW w w')(K:Nat):ix l w c sb d D N e b K w':=
 ⟨_,D,(Mv.below (fun _=>False) l a).mono fun _ hx=>hx.elim,fun _ hx=>hx,(h.below a).more K⟩
theorem ix.below{l w w1 w2 d sb e D N K f c}(h:ix l w d sb e D N f c K w1)(b:yW w1 w2):ix l w d sb e D N f c K w2:=by
 obtain⟨l',g,m,i,a⟩:=h;exact⟨_,g,m.trans ((Mv.below (fun _=>False) l' b).mono fun _ a=>a.elim),i,a.below b⟩
theorem ix.trans{l l1 w w1 w2 b sb e D c N K K1 f d}(m:Mv (Of b) l l1 w w1)(i:∀x∈D,x∈c)(h:ix l1 w1 b sb e c (N+K) f d K1 w2):ix l w b sb e D N f d (K+K1) w2:=by
 obtain⟨l2,g,m2,j,a⟩:=h;exact⟨l2,g,m.trans m2,fun x a=>j x (i x a),by rw[<-Nat.add_assoc];exact a⟩
theorem ix.mono{l w w1 b sb c D N K K' d a}(h:ix l w b sb c D N d a K w1)(i:K<=K'):ix l w b sb c D N d a K' w1:=by
 obtain⟨l',e,m,f,g⟩:=h;refine⟨l',e,m,f,?_⟩;have:=g.more (K' - K);rw[show N+K+(K' - K)=N+K' by omega] at this;exact this
theorem SX.over{l w d sb m a D N f k s q r g}(h:SX l w d sb m D N f k)(n:jD l w d sb m D s q r g)(o:a∈D):lp (bW sb f) w (qA sb) (ae k) (g a)/\¬bW sb f a:=by
 have i:=n.gF a o;have j:∀b,pr d b≠pr sb 0:=fun b e=>h.ne (gz e).1
 exact⟨h.ko.over h.bt fun x p c=>j _ ((i.lS x p).symm.trans (h.ls x c)),fun c=>j _ (i.lt.symm.trans (h.ls _ c))⟩
theorem SX.now{l w w' e sb n c D N K r b s q d o i}(h:SX l w e sb n D N r b)(p:jD l w e sb n D s q d o)(A:dq (fI b d) D<=N)(y:c∈D)(v:fQ w c (qA sb) (o c) i w')(u:bD i)(z:cO (e9 b) i<=cO (e9 b) (d c)+K):ix l w e sb n D N r b K w':=by
 obtain⟨l',S',m,t⟩:=p.nI y v u;obtain⟨r1,r2,r3,r4⟩:=h.rest m (mf e) (mg h.ne);refine⟨l',D,m,fun _ j=>j,⟨⟨s,q,_,_,t,?_⟩,r1,r2,r3,r4,h.ne⟩⟩;have:=Bc (f:=fI b d) (g:=fI b (bf d c i)) (a:=c) (k:=K) (fun x j=>by unfold fI;rw[cZ _ _ j]) (by unfold fI;rw[de];omega) D p.kZ;omega
theorem SX.get{l w i sb j f D N k g}(h:SX l w i sb j D N k g)(d:f∈D)(key:yB)(p:key.size<=maxLen):
 Calls yP 37 #[pV (qA f),sV key] w fun e w'=>∃(v:yB) (c:Nat),e=rV (tV #[sV v,iV .i64 c])/\v.size<=160/\ix l w i sb j D N k g 250 w':=by
 obtain⟨u,s,t,r,b,q⟩:=h.st;have a:=b.gF f d;obtain⟨n,_⟩:=h.over b d;refine(Al a.tr n key p).mono ?_;rintro e w' ⟨o,m⟩;exact⟨_,_,o,Oj _ _ _ a.tr.ok,h.now b q d m (qS a.tr.ok a.loose) (Q7 (Dh _ _ _ _ a.tr.ok) (by omega))⟩
theorem SX.put{l w i sb j f D N k g}(h:SX l w i sb j D N k g)(d:f∈D)(key value:yB)(p:key.size<=maxLen)(r:value.size<=maxLen):
 Calls yP 31 #[pV (qA f),sV key,sV value] w fun e w'=>∃c:Nat,e=rV (iV .i64 c)/\ix l w i sb j D N k g 250 w':=by
 obtain⟨v,t,u,s,b,q⟩:=h.st;have a:=b.gF f d;obtain⟨n,_⟩:=h.over b d;refine(zY a.tr n key value p r).mono ?_;rintro e w' ⟨o,m⟩;exact⟨_,o,h.now b q d m (xR a.tr.ok a.loose) (Q7 (Mj _ _ _ _ _ a.tr.ok) (by omega))⟩
theorem Ku{G t key value}(b:aw t 0)(a:bD t):bD (fb G t key value):=by
 unfold fb;split
 ·exact a
 ·split
  ·exact a
  ·exact nS G t key b a
theorem SX.xJ{l w i sb j f D N k g}(h:SX l w i sb j D N k g)(d:f∈D)(key value:yB)(p:key.size<=maxLen)(s:value.size<=maxLen):
 Calls yP 132 #[pV (qA f),sV key,sV value] w fun e w'=>∃(r:yB) (c:Nat),e=rV (tV #[sV r,iV .i64 c])/\r.size<=32/\(c=0->r.size=32)/\ix l w i sb j D N k g 250 w':=by
 obtain⟨x,u,v,t,b,q⟩:=h.st;have a:=b.gF f d;obtain⟨n,_⟩:=h.over b d;refine(QI a.tr n key value p s).mono ?_;rintro e w' ⟨o,m⟩;refine⟨_,_,o,?_,fun h0=>?_,h.now b q d m (Ku a.tr.ok a.loose) (Q7 (Dg _ _ _ _ _ a.tr.ok) (by omega))⟩
 ·split
  ·next h0=>rw[aH,oV (qq a.tr.ok h0).aJ];exact QU _
  ·exact Ri _
 ·rw[QX h0,aH,oV (qq a.tr.ok h0).aJ]
theorem SX.del{l w j sb k g D N m i}(h:SX l w j sb k D N m i)(f:g∈D)(key:yB)(q:key.size<=maxLen):
 Calls yP 35 #[pV (qA g),sV key] w fun e w'=>∃(b:Bool) (c:Nat),e=rV (tV #[bV b,iV .i64 c])/\ix l w j sb k D N m i 250 w':=by
 obtain⟨x,u,v,t,d,s⟩:=h.st;have a:=d.gF g f;obtain⟨o,r⟩:=h.over d f;refine(Ap a.tr a.loose o r key q).mono ?_;rintro e w' ⟨p,n⟩;exact⟨_,_,p,h.now d s f n (zB a.tr.ok a.loose) (Q7 (Ml _ _ _ _ a.tr.ok) (by omega))⟩
theorem SX.root{l w i sb j a D N k g}(h:SX l w i sb j D N k g)(d:a∈D):
 Calls yP 38 #[pV (qA a)] w fun e w'=>∃r:yB,e=rV (sV r)/\r.size=32/\yW w w':=by
 obtain⟨q,o,p,m,b,n⟩:=h.st;obtain⟨⟨u,h1,h2⟩,h3,_⟩:=(b.gF a d).tr;refine(pM w a _ u _ _ h1 h2 h3.aJ h.bt).mono ?_;rintro e w' ⟨f,c⟩;exact⟨_,f,by rw[aH,oV h3.aJ],c⟩
theorem SX.prove{l w i sb j d D N k b}(h:SX l w i sb j D N k b)(g:d∈D)(key:yB)(r:key.size<=maxLen):
 Calls yP 45 #[pV (qA d),sV key] w fun e w'=>∃(v:Value) (c:Nat) (cs:List yB) (w1:World),e=rV (tV #[v,iV .i64 c])/\ix l w i sb j D N k b 250 w1/\yW w1 w'/\w'.ownsRow w1.heap.size 9 1 v cs.length (cs.map Value.string)/\cs.length<=81/\(∀x∈cs,x.size<=4096):=by
 obtain⟨B,A,y,z,f,t⟩:=h.st;have a:=f.gF d g;obtain⟨n,_⟩:=h.over f g;refine(zZ a.tr n key r).mono ?_;rintro e w' ⟨v,w1,q,m,o,s,_⟩;obtain⟨f1,f2⟩:=uJ (G:=ae b) a.tr.ok key;refine⟨v,_,(bj (ae b) (y d) key).map str,w1,q,h.now f t g m (qS a.tr.ok a.loose) (Q7 (Dh _ _ _ _ a.tr.ok) (by omega)),o,by rw[Rr,<-tZ];exact s,by rw[Rr];exact f1,fun x u=>?_⟩;obtain⟨c,p,rfl⟩:=Rt.1 u;rw[aH];exact f2 c p
def ui(e:b6):Nat:=match e.2 with
 |some a=>a.block
 |none=>0
theorem Be:∀(A:List Nat),dq (fun _=>1) A=A.length
 | []=>rfl
 |a::r=>by show 1+dq _ r=_;rw[Be r,Ro];omega
theorem rQ{f g}(h:∀x,f x<=g x):∀(A:List Nat),dq f A<=dq g A
 | []=>QU _
 |a::r=>by have:=rQ h r;have:=h a;show f a+_<=g a+_;omega
theorem jD.qT{l w y sb z D A d p q}(h:jD l w y sb z D A d p q)(v)(c:Nat)(f:c<256):(d c).length<=dq (fI v p) D:=by
 have h1:((d c).map ui).Nodup:=by
  rw[List.Nodup,List.pairwise_iff_getElem];intro i j hi k B e;rw[Rr] at hi k;rw[List.getElem_map,List.getElem_map] at e;have m:(d c)[i]? =some ((d c)[i]'hi):=QV hi;have n:(d c)[j]? =some ((d c)[j]'k):=QV k;obtain⟨a,g,_⟩:=h.gU c i _ f m;obtain⟨b,o,_⟩:=h.gU c j _ f n;have:a=b:=by unfold ui at e;rw[g,o] at e;exact e
  have:=(h.fT c i c j _ _ f f m n (by rw[g,o,this])).2;omega
 have h2:∀x∈(d c).map ui,x∈D:=fun x u=>by
  obtain⟨e,s,rfl⟩:=Rt.1 u;obtain⟨i,hi,t⟩:=List.mem_iff_getElem.1 s;obtain⟨a,g,r⟩:=h.gU c i e f (by rw[QV hi,t]);unfold ui;rw[g];exact r
 have h3:=xi (fun _=>1) h1 h2;rw[Be,Rr] at h3;exact Q7 h3 (rQ (fun x=>by unfold fI;omega) D)
theorem zO{w W:World}(h1:W.heap=w.heap)(h2:W.os=w.os)(h3:W.tape=w.tape)(h4:W.output=w.output):yW w W:=⟨h2,h3,h4,by rw[h1];exact QU _,fun k _=>by rw[h1]⟩
def QG(l:Nat->Nat)(w:World)(a sb d:Nat)(D:List Nat)(N:Nat)(e:Nat->Value)(b:List (yB×yB))(K c:Nat)(w':World):Prop:=∃l' D',Mv (Of a) l l' w w'/\(∀x∈D,x∈D')/\c∈D'/\SX l' w' a sb d D' (N+K) e b
theorem pq{L:List b6}{k i x e}(a:k<=L.length)(h:(L.take k++[x]++L.drop k)[i]? =some e):(i=k/\e=x)\/(i<k/\L[i]? =some e)\/(k<i/\L[i - 1]? =some e):=by
 have h1:(L.take k).length=k:=by rw[Rs];omega
 rcases Nat.lt_trichotomy i k with hi|hi|hi
 ·refine .inr (.inl ⟨hi,?_⟩);rw[Rn,RA (by omega),Sm,QX hi] at h;exact h
 ·refine .inl ⟨hi,?_⟩;rw[Rn,RY (by omega),h1,hi,Nat.sub_self] at h;exact(Option.some.inj h).symm
 ·refine .inr (.inr ⟨hi,?_⟩);rw[RY (by rw[Q4,h1];simp;omega),Q4,h1,Sw] at h;rw[show i - 1=k+(i - (k+ [x].length)) by simp;omega];exact h
theorem SX.slotsOf{l w B sb tw D N us G}(h:SX l w B sb tw D N us G)(o E:yB)(v:0<o.size)(hr:E.size=32)(hN:N<4000000000):
 Calls yP 96 #[pV (qA B),sV o,sV E] w fun e w'=>∃b,e=rV (pV (qA b))/\QG l w B sb tw D N us G 1 b w':=by
 obtain⟨U,J,T,Ss,i,A9⟩:=h.st;have h3:=h.bt.size;have R:(o[0]'v).toNat<256:=(o[0]'v).toNat_lt;have A8:=i.qT G _ R;have A5:str E.data.toList=E:=by unfold str;simp
 have A1:E.data.toList.length=32:=by rw[<-hr];simp
 refine(Js (fun b w1=>∃u,w.heap.size<=b/\eU w1 b (qA sb) u/\At w1 (cl E.data.toList) (fun x=>w.heap.size<=x/\x≠b) (pV u)) w B sb tw U J i.ah o E v (by omega) (by omega) (fun W e1 e2 e3 e4=>?_)).mono ?_
 ·have hW:=zO e1 e2 e3 e4;have:=rn W (qA sb) E.data.toList A1 (h.bt.below hW);rw[A5,e1] at this;refine this.mono ?_;rintro e w' ⟨b,u,t,h1,h2,h3,h4⟩;exact⟨b,t,⟨u,h1,h2,h3⟩,hW.trans h4⟩
 ·rintro e w' (⟨p,q,hp,rfl,e1,e2,e3,e4⟩|⟨b,v',w1,rfl,⟨u,k1,k2,k3⟩,H,P,hS,A3⟩)
  ·obtain⟨b,ht,F⟩:=i.gU _ _ _ R hp;cases ht
   have H:=zO e1 e2 e3 e4;exact⟨b,rfl,_,D,(Mv.below (fun _=>False) l H).mono fun _ s=>s.elim,fun _ s=>s,F,(h.below H).more 1⟩
  ·refine⟨b,rfl,?_⟩;have B0:=H.size;have B1:=P.size;have A2:b<w1.heap.size:=k2.lt;have S:∀g,(U (o[0]'v).toNat).ownBlock=some g->g<w.heap.size/\l g=pr B 0:=fun g I=>⟨((i.ah.own _ R).lt g I).2,i.ji _ g R I⟩
   have A6:=i.ah.lt;obtain⟨l',V⟩:∃l':Nat->Nat,l'=fun k=>if k<w.heap.size then l k else if k<w1.heap.size then pr B (b+1) else pr B 0:=⟨_,rfl⟩
   have lo:∀k,k<w.heap.size->l' k=l k:=fun k Q=>by rw[V];simp[Q]
   have l1:∀k,w.heap.size<=k->k<w1.heap.size->l' k=pr B (b+1):=fun k h1 h2=>by rw[V];simp[SE.2 h1,h2]
   have l2:∀k,w1.heap.size<=k->l' k=pr B 0:=fun k h1=>by rw[V];simp[SE.2 h1,show ¬k<w.heap.size by omega]
   have A7:∀k,k<w.heap.size->¬(k=B\/(U (o[0]'v).toNat).ownBlock=some k)->w'.heap[k]? =w.heap[k]? :=fun k Q X=>(P.block k (by omega) X).trans (H.block k Q)
   have m:Mv (fun x=>x=pr B 0) l l' w w':=⟨P.os.trans H.os,P.tape.trans H.tape,P.output.trans H.output,by omega,lo,fun k Q X=>A7 k Q fun L=>X (by rcases L with rfl|L;exact i.jh;exact(S k L).2)⟩
   have mo:Mv (Of B) l l' w w':=m.mono fun x s=>⟨0,s⟩
   have A0:∀x,w.heap.size<=x->x<w1.heap.size->w'.heap[x]? =w1.heap[x]? :=fun x h1 h2=>P.block x h2 fun L=>by
    rcases L with rfl|L
    ·omega
    ·have:=(S x L).1;omega
   have A4:dH w' b (qA sb) (fun x=>(w.heap.size<=x/\x≠b)/\x<w1.heap.size) (cl E.data.toList):=
    ⟨⟨u,k2.kept (A0 b k1 A2),k3.cut.kept fun x s _=>A0 x s.1.1 s.2⟩,rO A1,fun x s=>⟨by omega,s.1.2,by omega⟩⟩
   have Z:b∉D:=fun F=>by have:=(i.gF b F).tr.lt;omega
   have Y:∀d,d∈D->d≠b:=fun d F e=>Z (e▸F)
   refine⟨l',b::D,mo,fun x s=>QZ _ s,QY ..,?_⟩;obtain⟨r1,r2,r3,r4⟩:=h.rest mo (mf B) (mg h.ne);have M:=xY (J (o[0]'v).toNat) o;refine⟨⟨aU U (o[0]'v).toNat v',aL J (o[0]'v).toNat ((J (o[0]'v).toNat).take (ev (J (o[0]'v).toNat) o)++[(o,some ⟨b,0,none⟩)]++(J (o[0]'v).toNat).drop (ev (J (o[0]'v).toNat) o)),bf T b (cl E.data.toList),bf Ss b (fun x=>(w.heap.size<=x/\x≠b)/\x<w1.heap.size),?_,?_⟩,r1,r2,r3,r4,h.ne⟩
   ·refine
     {ah:=hS
      jh:=(lo B A6).trans i.jh
      ji:=fun c g n I=>?_
      gU:=fun c k e n t=>?_
      fT:=fun c k d j e f n O t z y=>?_
      g7:=QZ _ i.g7
      kZ:=List.nodup_cons.2 ⟨Z,i.kZ⟩
      gF:=fun x s=>?_}
    ·by_cases C:c=(o[0]'v).toNat
     ·subst C;simp only[aU,RJ] at I;rcases A3 g I with h1|h1
      ·rw[lo g (S g h1).1];exact(S g h1).2
      ·exact l2 g h1
     ·simp only[aU,C,Ry] at I;rw[lo g ((i.ah.own c n).lt g I).2];exact i.ji c g n I
    ·by_cases C:c=(o[0]'v).toNat
     ·subst C;simp only[aL,RJ] at t;rcases pq M t with⟨_,rfl⟩|⟨_,h1⟩|⟨_,h1⟩
      ·exact⟨b,rfl,QY ..⟩
      ·obtain⟨t0,e0,d0⟩:=i.gU _ _ _ n h1;exact⟨t0,e0,QZ _ d0⟩
      ·obtain⟨t0,e0,d0⟩:=i.gU _ _ _ n h1;exact⟨t0,e0,QZ _ d0⟩
     ·simp only[aL,C,Ry] at t;obtain⟨t0,e0,d0⟩:=i.gU _ _ _ n t;exact⟨t0,e0,QZ _ d0⟩
    ·have key:∀(d j:Nat) (f:b6),d<256->(J d)[j]? =some f->f.2≠some ⟨b,0,none⟩:=fun d j f F z e0=>by
      obtain⟨t0,e1,d0⟩:=i.gU d j f F z;rw[e0] at e1;cases e1
      exact Z d0
     by_cases C:c=(o[0]'v).toNat
     ·by_cases K:d=(o[0]'v).toNat
      ·subst C;subst K;simp only[aL,RJ] at t z;refine⟨rfl,?_⟩;rcases pq M t with⟨a1,rfl⟩|⟨a1,a2⟩|⟨a1,a2⟩
       ·rcases pq M z with⟨b1,rfl⟩|⟨b1,b2⟩|⟨b1,b2⟩
        ·omega
        ·exact absurd y.symm (key _ _ _ n b2)
        ·exact absurd y.symm (key _ _ _ n b2)
       ·rcases pq M z with⟨b1,rfl⟩|⟨b1,b2⟩|⟨b1,b2⟩
        ·exact absurd y (key _ _ _ n a2)
        ·exact(i.fT _ _ _ _ _ _ n n a2 b2 y).2
        ·have:=(i.fT _ _ _ _ _ _ n n a2 b2 y).2;omega
       ·rcases pq M z with⟨b1,rfl⟩|⟨b1,b2⟩|⟨b1,b2⟩
        ·exact absurd y (key _ _ _ n a2)
        ·have:=(i.fT _ _ _ _ _ _ n n a2 b2 y).2;omega
        ·have:=(i.fT _ _ _ _ _ _ n n a2 b2 y).2;omega
      ·subst C;simp only[aL,RJ] at t;simp only[aL,K,Ry] at z;rcases pq M t with⟨a1,rfl⟩|⟨a1,a2⟩|⟨a1,a2⟩
       ·exact absurd y.symm (key _ _ _ O z)
       ·exact absurd (i.fT _ _ _ _ _ _ n O a2 z y).1.symm K
       ·exact absurd (i.fT _ _ _ _ _ _ n O a2 z y).1.symm K
     ·by_cases K:d=(o[0]'v).toNat
      ·subst K;simp only[aL,RJ] at z;simp only[aL,C,Ry] at t;rcases pq M z with⟨a1,rfl⟩|⟨a1,a2⟩|⟨a1,a2⟩
       ·exact absurd y (key _ _ _ n t)
       ·exact absurd (i.fT _ _ _ _ _ _ n O t a2 y).1 C
       ·exact absurd (i.fT _ _ _ _ _ _ n O t a2 y).1 C
      ·simp only[aL,C,K,Ry] at t z;exact i.fT _ _ _ _ _ _ n O t z y
    ·rcases Rh.1 s with rfl|s
     ·rw[de,de];exact⟨A4,by unfold cl;split<;>trivial,l1 _ k1 A2,fun x s=>l1 x s.1.1 s.2⟩
     ·rw[cZ _ _ (Y x s),cZ _ _ (Y x s)];exact(i.gF x s).move m fun e=>by have:=(gz e).2;omega
   ·show fI G _ b+dq _ D<=_;have e1:fI G (bf T b (cl E.data.toList)) b=1:=by unfold fI;rw[de,yg]
    have e2:∀(A:List Nat),(∀d∈A,d≠b)->dq (fI G (bf T b (cl E.data.toList))) A=dq (fI G T) A:=by
     intro A hA;induction A with
     |nil=>rfl
     |cons a r ih=>
      show fI G _ a+_=fI G _ a+_;rw[ih fun d F=>hA d (QZ _ F)];unfold fI;rw[cZ _ _ (hA a (QY ..))]
    rw[e1,e2 D Y];omega
theorem OJ{L:List b6}{k i e}(h:(L.eraseIdx k)[i]? =some e):∃j,L[j]? =some e/\j=if i<k then i else i+1:=by
 rw[List.getElem?_eraseIdx] at h;by_cases hi:i<k
 ·rw[QX hi] at h;exact⟨i,h,by rw[QX hi]⟩
 ·rw[QW hi] at h;exact⟨i+1,h,by rw[QW hi]⟩
theorem tp{L h i e}(a:(qY L h)[i]? =some e):∃j,L[j]? =some e/\j=if jX L h=true/\ev L h<=i then i+1 else i:=by
 unfold qY at a;by_cases b:jX L h=true
 ·rw[QX b] at a;obtain⟨j,h1,h2⟩:=OJ a;refine⟨j,h1,h2.trans ?_⟩;by_cases hi:i<ev L h
  ·rw[QX hi,QW (by omega)]
  ·rw[QW hi,QX ⟨b,by omega⟩]
 ·rw[QW b] at a;exact⟨i,a,by rw[QW (fun c=>b c.1)]⟩
theorem SX.zJ{l w t sb F D N J E}(h:SX l w t sb F D N J E)(a:yB)(n:0<a.size)(T:N<4000000000):
 Calls yP 131 #[pV (qA t),sV a] w fun e w'=>e=rV (tV #[])/\ix l w t sb F D N J E 0 w':=by
 obtain⟨G,A,R,K,b,P⟩:=h.st;have B:(a[0]'n).toNat<256:=(a[0]'n).toNat_lt;have U:=b.qT E _ B;refine(Pr w t sb F G A b.ah a n (by omega)).mono ?_;rintro e w' ⟨i,⟨S,L,Q⟩,y⟩;refine⟨i,?_⟩;have H:∀g,(G (a[0]'n).toNat).ownBlock=some g->g<w.heap.size/\l g=pr t 0:=fun g s=>⟨((b.ah.own _ B).lt g s).2,b.ji _ g B s⟩
 have m:Mv (fun x=>x=pr t 0) l l w w':=⟨y.os,y.tape,y.output,y.size,fun _ _=>rfl,fun k M O=>y.block k M fun u=>O (by rcases u with rfl|u;exact b.jh;exact(H k u).2)⟩
 have I:Mv (Of t) l l w w':=m.mono fun x q=>⟨0,q⟩
 obtain⟨r1,r2,r3,r4⟩:=h.rest I (mf t) (mg h.ne);refine⟨l,D,I,fun _ q=>q,⟨⟨aU G (a[0]'n).toNat S,aL A (a[0]'n).toNat (qY (A (a[0]'n).toNat) a),R,K,?_,P⟩,r1,r2,r3,r4,h.ne⟩⟩;exact
  {ah:=L
   jh:=b.jh
   ji:=fun c g p s=>by
    by_cases o:c=(a[0]'n).toNat
    ·subst o;simp only[aU,RJ] at s;rw[Q] at s;exact(H g s).2
    ·simp only[aU,o,Ry] at s;exact b.ji c g p s
   gU:=fun c k e p i=>by
    by_cases o:c=(a[0]'n).toNat
    ·subst o;simp only[aL,RJ] at i;obtain⟨j,h1,_⟩:=tp i;exact b.gU _ _ _ p h1
    ·simp only[aL,o,Ry] at i;exact b.gU _ _ _ p i
   fT:=fun c k d j e f p C i r z=>by
    by_cases o:c=(a[0]'n).toNat
    ·by_cases v:d=(a[0]'n).toNat
     ·subst o;subst v;simp only[aL,RJ] at i r;obtain⟨i1,a1,b1⟩:=tp i;obtain⟨i2,a2,b2⟩:=tp r;have:=(b.fT _ _ _ _ _ _ p p a1 a2 z).2;refine⟨rfl,?_⟩;rw[b1,b2] at this;by_cases u:jX (A (a[0]'n).toNat) a=true
      ·simp only[u,true_and] at this;split at this<;>split at this<;>omega
      ·rw[QW (fun q=>u q.1),QW (fun q=>u q.1)] at this;exact this
     ·subst o;simp only[aL,RJ] at i;simp only[aL,v,Ry] at r;obtain⟨i1,a1,b1⟩:=tp i;exact absurd (b.fT _ _ _ _ _ _ p C a1 r z).1.symm v
    ·by_cases v:d=(a[0]'n).toNat
     ·subst v;simp only[aL,RJ] at r;simp only[aL,o,Ry] at i;obtain⟨i1,a1,b1⟩:=tp r;exact absurd (b.fT _ _ _ _ _ _ p C i a1 z).1 o
     ·simp only[aL,o,v,Ry] at i r;exact b.fT _ _ _ _ _ _ p C i r z
   g7:=b.g7
   kZ:=b.kZ
   gF:=fun x q=>(b.gF x q).move m fun e=>by have:=(gz e).2;omega}
structure jF where
 l:Nat->Nat
 w:World
 sp:Nat
 sb:Nat
 tw:Nat
 D:List Nat
 N:Nat
 us:Nat->Value
 ps:List (yB×yB)
def mx(A:jF):Nat:=pr (A.sp+A.sb+1) 7
theorem Gp(A:jF):¬Of A.sp (mx A):=mg (by omega)
def SC(A:jF)(K:Nat)(c:List Nat)(a:List (Nat×Obj))(w:World):Prop:=∃l' D',Mv (Of A.sp) A.l l' A.w w/\(∀x∈A.D,x∈D')/\(∀t∈c,t∈D')/\SX l' w A.sp A.sb A.tw D' (A.N+K) A.us A.ps/\∀b∈a,w.heap[b.1]? =some b.2/\l' b.1=mx A/\A.w.heap.size<=b.1
theorem SC.start{l w b sb c D N d a}(h:SX l w b sb c D N d a):SC ⟨l,w,b,sb,c,D,N,d,a⟩ 0 [] [] w:=
 ⟨l,D,Mv.refl _ _ _,fun _ hx=>hx,fun _ hx=>absurd hx (Si),h,fun _ hx=>absurd hx (Si)⟩
theorem SC.go{A K d b w}(h:SC A K d b w):ix A.l A.w A.sp A.sb A.tw A.D A.N A.us A.ps K w:=by
 obtain⟨l',a,m,h1,_,c,_⟩:=h;exact⟨l',a,m,h1,c⟩
theorem SC.bt{A K c a w}(h:SC A K c a w):az w:=by
 obtain⟨l',d,m,h1,_,b,_⟩:=h;exact b.bt
theorem SC.size{A K b a w}(h:SC A K b a w):A.w.heap.size<=w.heap.size:=by
 obtain⟨l',c,m,h1,_,d,_⟩:=h;exact m.size
theorem SC.mono{A K K' b a w}(h:SC A K b a w)(e:K<=K'):SC A K' b a w:=by
 obtain⟨l',c,m,h1,h2,d,h3⟩:=h;have:=d.more (K' - K);rw[show A.N+K+(K' - K)=A.N+K' by omega] at this;exact⟨l',c,m,h1,h2,this,h3⟩
theorem SC.drop{A K d e a c w}(h:SC A K d a w)(i:∀t∈e,t∈d)(g:∀b∈c,b∈a):SC A K e c w:=by
 obtain⟨l',f,m,h1,h2,j,h3⟩:=h;exact⟨l',f,m,h1,fun t h=>h2 t (i t h),j,fun b h=>h3 b (g b h)⟩
theorem SC.step{A:jF}{K K1 e c w w2 l' a}(m:Mv (Of A.sp) A.l l' A.w w)(h1:∀x∈A.D,x∈a)(h2:∀t∈e,t∈a)(h3:∀b∈c,w.heap[b.1]? =some b.2/\l' b.1=mx A/\A.w.heap.size<=b.1)(h:ix l' w A.sp A.sb A.tw a (A.N+K) A.us A.ps K1 w2):SC A (K+K1) e c w2:=by
 obtain⟨l2,f,m2,d2,k⟩:=h;refine⟨l2,f,m.trans m2,fun x j=>d2 x (h1 x j),fun t i=>d2 t (h2 t i),by rw[<-Nat.add_assoc];exact k,fun b g=>?_⟩;obtain⟨b1,b2,b3⟩:=h3 b g;have d:b.1<w.heap.size:=(Q0.1 b1).1;exact⟨(m2.kept d b2 (Gp A)).trans b1,(m2.aM _ d).trans b2,b3⟩
theorem SC.below{A K b a w w2}(h:SC A K b a w)(c:yW w w2):SC A K b a w2:=by
 obtain⟨l',e,m,h1,h2,d,h3⟩:=h;exact SC.step m h1 h2 h3 (d.go c 0)
theorem SC.same{A K b a}{w w2:World}(h:SC A K b a w)(e1:w2.heap=w.heap)(e2:w2.os=w.os)(e3:w2.tape=w.tape)(e4:w2.output=w.output):SC A K b a w2:=h.below (zO e1 e2 e3 e4)
theorem SC.drew{A K b a w}(h:SC A K b a w):SC A K b a w.drew:=h.same rfl rfl rfl rfl
theorem SC.box{A K l f w}(h:SC A K l f w)(cs:Array Value)(t):SC A K l ((w.heap.size,.cells cs t (0,0))::f) (w.alloc (.cells cs t)):=by
 have a:yW w (w.alloc (.cells cs t)):=(Q1 _ _).alloc (QU _) _;have o:=h.size;obtain⟨l',n,m,h1,h2,e,h3⟩:=h;obtain⟨l2,g⟩:=yX (fun k=>if k<w.heap.size then l' k else mx A)
 have lo:∀k,k<w.heap.size->l2 k=l' k:=fun k c=>by rw[g];simp[c]
 have p:∀k,w.heap.size<=k->l2 k=mx A:=fun k c=>by rw[g];simp[SE.2 c]
 have j:Mv (fun _=>False) l' l2 w (w.alloc (.cells cs t)):=⟨a.os,a.tape,a.output,a.size,lo,fun k c _=>a.block k c⟩
 refine⟨l2,n,m.trans (j.mono fun _ e=>e.elim),h1,h2,e.move j id id fun _=>id,fun b d=>?_⟩;rcases Rh.1 d with rfl|d
 ·exact⟨Rl w _,p _ (QU _),o⟩
 ·obtain⟨b1,b2,b3⟩:=h3 b d;have i:b.1<w.heap.size:=(Q0.1 b1).1;exact⟨(a.block _ i).trans b1,(lo _ i).trans b2,b3⟩
theorem SC.wrote{A K i n o g c}{w w2:World}(h:SC A K i ((n,o)::c) w)(l:∀b∈c,b.1≠n)(e1:w2.os=w.os)(e2:w2.tape=w.tape)(e3:w2.output=w.output)(e4:w2.heap.size=w.heap.size)(e5:∀k,k≠n->w2.heap[k]? =w.heap[k]?)(e6:w2.heap[n]? =some g):SC A K i ((n,g)::c) w2:=by
 obtain⟨l',j,m,h1,h2,p,h3⟩:=h;obtain⟨q1,q2,q3⟩:=h3 (n,o) (QY ..);have q:Mv (fun x=>x=mx A) l' l' w w2:=⟨e1,e2,e3,by omega,fun _ _=>rfl,fun k f d=>e5 k fun e=>d (by rw[e];exact q2)⟩
 have r:=m.size;refine⟨l',j,⟨e1.trans m.os,e2.trans m.tape,e3.trans m.output,by omega,m.aM,fun k f d=>(e5 k (by omega)).trans (m.ah k f d)⟩,h1,h2,p.move q (fun e=>by have:=ie (A.sp+A.sb+1) 7;unfold mx at e;omega) (fun e=>by have:=(gz e).1;omega) (fun b e=>by have:=(gz e).1;omega),fun b a=>?_⟩;rcases Rh.1 a with rfl|a
 ·exact⟨e6,q2,q3⟩
 ·obtain⟨b1,b2,b3⟩:=h3 b (QZ _ a);exact⟨(e5 _ (l b a)).trans b1,b2,b3⟩
theorem SC.at_{A K b n o a w}(h:SC A K b ((n,o)::a) w):w.heap[n]? =some o:=by
 obtain⟨l',c,m,h1,h2,d,h3⟩:=h;exact(h3 (n,o) (QY ..)).1
theorem SC.cells{A K d b w}(h:SC A K d b w):w.cell? ⟨A.sp,0,none⟩=some (pV (qA A.sb))/\w.cell? ⟨A.sp,1,none⟩=some (pV (qA A.tw)):=by
 obtain⟨l',e,m,h1,h2,c,h3⟩:=h;obtain⟨j,g,i,f,a,_⟩:=c.st;exact⟨by rw[Q5 w A.sp 0 _ _ _ a.ah.ah];exact Bm _ _ _,by rw[Q5 w A.sp 1 _ _ _ a.ah.ah];exact Bl _ _ _⟩
def pQ(A:jF)(b:List Nat)(a:Nat):Prop:=a=A.tw\/a∈b
theorem SC.get{A K b d w}(h:SC A K b d w){a}(j:pQ A b a)(key:yB)(o:key.size<=maxLen):
 Calls yP 37 #[pV (qA a),sV key] w fun e w'=>∃(v:yB) (c:Nat),e=rV (tV #[sV v,iV .i64 c])/\v.size<=160/\SC A (K+250) b d w':=by
 obtain⟨l',g,m,h1,h2,f,h3⟩:=h;have k:a∈g:=j.elim (fun e=>by rw[e];obtain⟨_,_,_,_,i,_⟩:=f.st;exact i.g7) (h2 a);refine(f.get k key o).mono ?_;rintro e w' ⟨v,c,l,p,n⟩;exact⟨v,c,l,p,SC.step m h1 h2 h3 n⟩
theorem SC.put{A K b d w}(h:SC A K b d w){a}(j:pQ A b a)(key value:yB)(o:key.size<=maxLen)(p:value.size<=maxLen):
 Calls yP 31 #[pV (qA a),sV key,sV value] w fun e w'=>∃c:Nat,e=rV (iV .i64 c)/\SC A (K+250) b d w':=by
 obtain⟨l',g,m,h1,h2,f,h3⟩:=h;have k:a∈g:=j.elim (fun e=>by rw[e];obtain⟨_,_,_,_,i,_⟩:=f.st;exact i.g7) (h2 a);refine(f.put k key value o p).mono ?_;rintro e w' ⟨c,l,n⟩;exact⟨c,l,SC.step m h1 h2 h3 n⟩
theorem SC.xJ{A K b d w}(h:SC A K b d w){a}(j:pQ A b a)(key value:yB)(o:key.size<=maxLen)(s:value.size<=maxLen):
 Calls yP 132 #[pV (qA a),sV key,sV value] w fun e w'=>∃(r:yB) (c:Nat),e=rV (tV #[sV r,iV .i64 c])/\r.size<=32/\(c=0->r.size=32)/\SC A (K+250) b d w':=by
 obtain⟨l',g,m,h1,h2,f,h3⟩:=h;have k:a∈g:=j.elim (fun e=>by rw[e];obtain⟨_,_,_,_,i,_⟩:=f.st;exact i.g7) (h2 a);refine(f.xJ k key value o s).mono ?_;rintro e w' ⟨r,c,l,p,q,n⟩;exact⟨r,c,l,p,q,SC.step m h1 h2 h3 n⟩
theorem SC.del{A K d f w}(h:SC A K d f w){a}(k:pQ A d a)(key:yB)(p:key.size<=maxLen):
 Calls yP 35 #[pV (qA a),sV key] w fun e w'=>∃(b:Bool) (c:Nat),e=rV (tV #[bV b,iV .i64 c])/\SC A (K+250) d f w':=by
 obtain⟨l',i,m,h1,h2,g,h3⟩:=h;have l:a∈i:=k.elim (fun e=>by rw[e];obtain⟨_,_,_,_,j,_⟩:=g.st;exact j.g7) (h2 a);refine(g.del l key p).mono ?_;rintro e w' ⟨b,c,n,o⟩;exact⟨b,c,n,SC.step m h1 h2 h3 o⟩
theorem SC.root{A K b c w}(h:SC A K b c w){a}(j:pQ A b a):
 Calls yP 38 #[pV (qA a)] w fun e w'=>∃r:yB,e=rV (sV r)/\r.size=32/\SC A K b c w':=by
 have g:=h;obtain⟨l',f,m,h1,h2,d,h3⟩:=h;have k:a∈f:=j.elim (fun e=>by rw[e];obtain⟨_,_,_,_,i,_⟩:=d.st;exact i.g7) (h2 a);refine(d.root k).mono ?_;rintro e w' ⟨r,l,o,n⟩;exact⟨r,l,o,g.below n⟩
theorem SC.prove{A K b d w}(h:SC A K b d w){a}(j:pQ A b a)(key:yB)(o:key.size<=maxLen):
 Calls yP 45 #[pV (qA a),sV key] w fun e w'=>∃(v:Value) (c:Nat) (cs:List yB) (w1:World),e=rV (tV #[v,iV .i64 c])/\SC A (K+250) b d w1/\yW w1 w'/\w'.ownsRow w1.heap.size 9 1 v cs.length (cs.map Value.string)/\cs.length<=81/\(∀x∈cs,x.size<=4096):=by
 obtain⟨l',g,m,h1,h2,f,h3⟩:=h;have k:a∈g:=j.elim (fun e=>by rw[e];obtain⟨_,_,_,_,i,_⟩:=f.st;exact i.g7) (h2 a);refine(f.prove k key o).mono ?_;rintro e w' ⟨v,c,cs,w1,l,n,r1,r2,r3,r4⟩;exact⟨v,c,cs,w1,l,SC.step m h1 h2 h3 n,r1,r2,r3,r4⟩
theorem SC.slotsOf{A K n j w}(h:SC A K n j w)(c g:yB)(u:0<c.size)(s:g.size=32)(o:A.N+K<4000000000):
 Calls yP 96 #[pV (qA A.sp),sV c,sV g] w fun e w'=>∃a,e=rV (pV (qA a))/\SC A (K+1) (a::n) j w':=by
 obtain⟨l',v,m,h1,h2,f,h3⟩:=h;refine(f.slotsOf c g u s o).mono ?_;rintro e w' ⟨a,r,l2,i,m2,d2,q,l⟩;obtain⟨l3,y,q1,q2,q3,q4,q5⟩:=SC.step m h1 h2 h3 (K1:=1) ⟨l2,i,m2,d2,l⟩;refine⟨a,r,l2,i,m.trans m2,fun x f=>d2 x (h1 x f),fun t d=>?_,by rw[<-Nat.add_assoc];exact l,fun b p=>?_⟩
 ·rcases Rh.1 d with rfl|d
  ·exact q
  ·exact d2 t (h2 t d)
 ·obtain⟨b1,b2,b3⟩:=h3 b p;have k:b.1<w.heap.size:=(Q0.1 b1).1;exact⟨(m2.kept k b2 (Gp A)).trans b1,(m2.aM _ k).trans b2,b3⟩
theorem SC.zJ{A K c b w}(h:SC A K c b w)(a:yB)(i:0<a.size)(d:A.N+K<4000000000):
 Calls yP 131 #[pV (qA A.sp),sV a] w fun e w'=>e=rV (tV #[])/\SC A K c b w':=by
 obtain⟨l',k,m,h1,h2,j,h3⟩:=h;refine(j.zJ a i d).mono ?_;rintro e w' ⟨f,g⟩;exact⟨f,SC.step m h1 h2 h3 g⟩
theorem SC.fresh{A K d a w}(h:SC A K d a w):∀b∈a,b.1≠w.heap.size:=fun b c e=>by
 obtain⟨l',f,m,h1,h2,g,h3⟩:=h
 have:=(Q0.1 (h3 b c).1).1
 omega
theorem SC.cH{A K d n t x0 x1 x2 x3 c w}(h:SC A K d ((n,.cells #[x0,x1,x2,x3] t (0,0))::c) w)(e:∀b∈c,b.1≠n)(y0 y1 y2 y3):SC A K d ((n,.cells #[y0,y1,y2,y3] t (0,0))::c) ((((w.setCell ⟨n,0,none⟩ y0).setCell ⟨n,1,none⟩ y1).setCell ⟨n,2,none⟩ y2).setCell ⟨n,3,none⟩ y3):=by
 refine h.wrote e rfl rfl rfl (by simp) (fun k a=>?_) ?_
 ·rw[Rq _ _ _ k a,Rq _ _ _ k a,Rq _ _ _ k a,Rq _ _ _ k a]
 ·have e0:=h.at_;have s0:(w.setCell ⟨n,0,none⟩ y0).heap[n]? =some (.cells #[y0,x1,x2,x3] t (0,0)):=by rw[RM w n 0 _ _ (0,0) _ e0,R7 w n _ _ _ _ e0];rfl
  have s1:((w.setCell ⟨n,0,none⟩ y0).setCell ⟨n,1,none⟩ y1).heap[n]? =some (.cells #[y0,y1,x2,x3] t (0,0)):=by rw[RM _ n 1 _ _ (0,0) _ s0,R7 _ n _ _ _ _ s0];rfl
  have s2:(((w.setCell ⟨n,0,none⟩ y0).setCell ⟨n,1,none⟩ y1).setCell ⟨n,2,none⟩ y2).heap[n]? =some (.cells #[y0,y1,y2,x3] t (0,0)):=by rw[RM _ n 2 _ _ (0,0) _ s1,R7 _ n _ _ _ _ s1];rfl
  rw[RM _ n 3 _ _ (0,0) _ s2,R7 _ n _ _ _ _ s2];rfl
theorem SC.BL{A K c n t x0 x1 x2 x3 a w}(h:SC A K c ((n,.cells #[x0,x1,x2,x3] t (0,0))::a) w)(d:∀b∈a,b.1≠n)(y)(i:Nat):SC A K c ((n,.cells ((#[x0,x1,x2,x3]:Array Value).setIfInBounds i y) t (0,0))::a) (w.setCell ⟨n,i,none⟩ y):=by
 refine h.wrote d rfl rfl rfl (by simp) (fun k e=>Rq _ _ _ k e) ?_;have e0:=h.at_;rw[RM w n i _ _ (0,0) _ e0,R7 w n _ _ _ _ e0]
theorem SC.iu{A K b n t x0 x1 x2 x3 a w}(h:SC A K b ((n,.cells #[x0,x1,x2,x3] t (0,0))::a) w):(w.cell? ⟨n,0,none⟩=some x0/\w.cell? ⟨n,1,none⟩=some x1/\w.cell? ⟨n,2,none⟩=some x2/\w.cell? ⟨n,3,none⟩=some x3)/\w.frozen? ⟨n,0,none⟩=false/\w.frozen? ⟨n,1,none⟩=false/\w.frozen? ⟨n,2,none⟩=false/\w.frozen? ⟨n,3,none⟩=false:=fH.cells h.at_
theorem SC.unbox{A K b x a w}(h:SC A K b (x::a) w):SC A K b a w:=h.drop (fun _ ht=>ht) fun _ hb=>QZ _ hb
def jK(e:Ending):Prop:=∃(a:jL) (b:Bool) (c:Nat),e=rV (tV #[cy a,bV b,iV .i64 c])/\iX a/\(c=0->a.root.size=32/\a.code.size=32/\a.aj.size<=32)
theorem tC{A K g d w}(h:SC A K g d w)(j:yB)(E:j.size<=maxLen):
 Calls yP 94 #[pV (qA A.sp),sV j] w fun e w'=>jK e/\SC A (K+250) g d w':=by
 have p:=h.box #[iV .i64 0,sV ⟨#[]⟩,sV ⟨#[]⟩,sV ⟨#[]⟩] 103;obtain⟨l,o⟩:=yX (w.alloc (.cells #[iV .i64 0,sV ⟨#[]⟩,sV ⟨#[]⟩,sV ⟨#[]⟩] 103))
 rw[<-o] at p;have k:Hid (Calls yP 37 #[pV (qA A.tw),sV j] l fun e w'=>∃(v:yB) (c:Nat),e=rV (tV #[sV v,iV .i64 c])/\v.size<=160/\SC A (K+250) g ((w.heap.size,.cells #[iV .i64 0,sV ⟨#[]⟩,sV ⟨#[]⟩,sV ⟨#[]⟩] 103 (0,0))::d) w'):=p.get (.inl rfl) j E;have t:=aa h.fresh;obtain⟨c0,c1⟩:=h.cells;have F:A.sp<w.heap.size:=Rj w _ c0;clear h p;go_enter func94,ntmps94
 go_wp2_with fail
 rw[<-o];clear o c0 c1 F;refine k.out.mono ?_;rintro e w1 ⟨v,c,rfl,I,f⟩;have u:=aa f;obtain⟨⟨k0,k1,k2,k3⟩,f0,f1,f2,f3⟩:=f.iu;by_cases q:c=0
 ·subst q;have s:Hid (Calls yP 98 #[sV v] w1 (wE w1)):=GJ w1 v (by unfold maxLen;omega) f.bt;clear f k k0 k1 k2 k3 f0 f1 f2 f3;go_wp2_with fail
  refine s.out.mono ?_;rintro e w2 ⟨⟨a,r,c,rfl,y,z⟩,x⟩;have m:=u.out.below x;have B:=aa m;obtain⟨⟨k0,k1,k2,k3⟩,f0,f1,f2,f3⟩:=m.iu;have i:Hid (jK (rV (tV #[cy a,bV r,iV .i64 c]))):=⟨a,r,c,rfl,y,z⟩
  obtain⟨n,C,G,D⟩:=a;unfold cy at i⊢;clear m x y z s;go_wp2_with fail
  exact Rf (v:=tV #[gV #[iV .i64 n,sV C,sV G,sV D],bV r,iV .i64 c]) (by simp[results,results94,go_sem,k0,k1,k2,k3]) rfl ⟨i.out,(B.out.cH t.out _ _ _ _).unbox⟩
 ·have H:((c:Int) != 0)=true:=by simp;omega
  have i:Hid (jK (rV (tV #[gV #[iV .i64 0,sV ⟨#[]⟩,sV ⟨#[]⟩,sV ⟨#[]⟩],bV false,iV .i64 c]))):=⟨pS,false,c,rfl,rH,fun h=>absurd h q⟩
  clear f k q;go_wp2_with fail
  exact Rf (v:=tV #[gV #[iV .i64 0,sV ⟨#[]⟩,sV ⟨#[]⟩,sV ⟨#[]⟩],bV false,iV .i64 c]) (by simp[results,results94,go_sem,k0,k1,k2,k3]) rfl ⟨i.out,(u.out.cH t.out _ _ _ _).unbox⟩
theorem Ki(a:jL):(nO a).size<=4096:=zz _
theorem qi{A K j i w}(h:SC A K j i w)(l:yB)(Q:0<l.size)(J:l.size<=maxLen)(a:jL)(H:iX a)(S:A.N+K+250<4000000000):
 Calls yP 103 #[pV (qA A.sp),sV l,cy a] w fun e w'=>(∃c:Nat,e=rV (iV .i64 c))/\SC A (K+250) j i w':=by
 have E:Hid (∀W,Calls yP 130 #[cy a] W fun e w'=>e=rV (sV (nO a))/\yW W w'):=fun W=>Kh W a H
 have P:=Ki a;obtain⟨n,d,g,f⟩:=a;have q:=h.box #[iV .i64 n,sV d,sV g,sV f] 103;obtain⟨r,z⟩:=yX (w.alloc (.cells #[iV .i64 n,sV d,sV g,sV f] 103))
 rw[<-z] at q;have G:=aa q;have u:Hid (Calls yP 124 #[] r.drew fun e w'=>e=rV (gV #[iV .i64 0,sV ⟨#[]⟩,sV (str cw),sV fO])/\SC A K j ((w.heap.size,.cells #[iV .i64 n,sV d,sV g,sV f] 103 (0,0))::i) w'):=(uv r.drew q.drew.bt).mono fun e w' ⟨h1,h2⟩=>⟨h1,q.drew.below h2⟩
 have D:Hid (∀W,SC A K j ((w.heap.size,.cells #[iV .i64 n,sV d,sV g,sV f] 103 (0,0))::i) W->Calls yP 31 #[pV (qA A.tw),sV l,sV (nO ⟨n,d,g,f⟩)] W fun e w'=>∃c:Nat,e=rV (iV .i64 c)/\SC A (K+250) j ((w.heap.size,.cells #[iV .i64 n,sV d,sV g,sV f] 103 (0,0))::i) w'):=fun W o=>o.put (.inl rfl) l _ J (by unfold maxLen;omega)
 have t:Hid (∀W c,SC A K j ((w.heap.size,.cells c 103 (0,0))::i) W->Calls yP 35 #[pV (qA A.tw),sV l] W fun e w'=>∃(b:Bool) (c:Nat),e=rV (tV #[bV b,iV .i64 c])/\SC A (K+250) j i w'):=fun W c o=>(o.del (.inl rfl) l J).mono fun e w' ⟨b,c,h1,h2⟩=>⟨b,c,h1,h2.unbox⟩
 have B:Hid (∀W,SC A (K+250) j i W->Calls yP 131 #[pV (qA A.sp),sV l] W fun e w'=>e=rV (tV #[])/\SC A (K+250) j i w'):=fun W o=>o.zJ l Q (by omega)
 have x:Hid (∀W,SC A K j ((w.heap.size,.cells #[iV .i64 n,sV d,sV g,sV f] 103 (0,0))::i) W->Calls yP 130 #[gV #[iV .i64 n,sV d,sV g,sV f]] W.drew fun e w'=>e=rV (sV (nO ⟨n,d,g,f⟩))/\SC A K j ((w.heap.size,.cells #[iV .i64 n,sV d,sV g,sV f] 103 (0,0))::i) w'):=fun W o=>(E.out W.drew).mono fun e w' ⟨h1,h2⟩=>⟨h1,o.drew.below h2⟩
 obtain⟨⟨k0,k1,k2,k3⟩,_⟩:=q.iu;generalize nO ⟨n,d,g,f⟩=RB at*;generalize str cw=ER at*;generalize fO=NC at*;unfold cy;have L:∀w,(binOp .neq 103 (gV #[iV .i64 n,sV d,sV g,sV f]) (gV #[iV .i64 0,sV ⟨#[]⟩,sV ER,sV NC])).run yP w=.ok (bV (!qm n 0 d ⟨#[]⟩ g ER f NC)) w:=fun w=>BO w _ _ _ _ _ _ _ _
 generalize qm n 0 d ⟨#[]⟩ g ER f NC=SA at*;clear h q P E H;go_enter func103,ntmps103
 go_upto_region 1 with fail
 rw[<-z];clear z;go_cut [11] (fun v R=>v=bV (!SA)/\Hid (SC A K j ((w.heap.size,.cells #[iV .i64 n,sV d,sV g,sV f] 103 (0,0))::i) R))
 case first=>
  go_region_held3 (fun w'=>w'.cell? ⟨w.heap.size,0,none⟩=some (iV .i64 n)/\w'.cell? ⟨w.heap.size,1,none⟩=some (sV d)/\w'.cell? ⟨w.heap.size,2,none⟩=some (sV g)/\w'.cell? ⟨w.heap.size,3,none⟩=some (sV f)) (go_keep) ((go_at_call 124;refine u.out.mono ?_;rintro e w2 ⟨rfl,k⟩;obtain⟨⟨m0,m1,m2,m3⟩,_⟩:=k.iu;have p:Hid (SC A K j ((w.heap.size,.cells #[iV .i64 n,sV d,sV g,sV f] 103 (0,0))::i) w2):=k;clear k))
  all_goals
   go_wp2_with fail
   go_meet
   exact⟨rfl,p⟩
 case rest=>
  obtain⟨rfl,s⟩:=hcut;obtain⟨c0,c1⟩:=s.out.cells;cases SA with
  |false=>
   obtain⟨⟨m0,m1,m2,m3⟩,_⟩:=s.out.iu;have F:=x.out wc s.out;have O:=aa F;clear F x t B u G L k0 k1 k2 k3;go_upto_region 2 with fail
   go_region_held3 (fun w'=>w'.cell? ⟨A.sp,1,none⟩=some (pV (qA A.tw))/\w'.cell? ⟨w.heap.size,0,none⟩=some (iV .i64 n)/\w'.cell? ⟨w.heap.size,1,none⟩=some (sV d)/\w'.cell? ⟨w.heap.size,2,none⟩=some (sV g)/\w'.cell? ⟨w.heap.size,3,none⟩=some (sV f)) (go_keep) (first| (go_at_call 130;refine O.out.mono ?_;rintro e w2 ⟨rfl,k⟩;obtain⟨⟨n0,n1,n2,n3⟩,_⟩:=k.iu;obtain⟨_,c12⟩:=k.cells;have p:Hid (SC A K j ((w.heap.size,.cells #[iV .i64 n,sV d,sV g,sV f] 103 (0,0))::i) w2):=k;clear k) | (go_at_call 31;refine(D.out _ p.out).mono ?_;rintro e w3 ⟨c,rfl,m⟩;obtain⟨⟨p0,p1,p2,p3⟩,_⟩:=m.iu;obtain⟨_,c13⟩:=m.cells;have y:Hid (SC A (K+250) j ((w.heap.size,.cells #[iV .i64 n,sV d,sV g,sV f] 103 (0,0))::i) w3):=m;clear m))
   all_goals
    go_wp2_with fail
    go_ret
    exact⟨⟨c,rfl⟩,y.out.unbox⟩
  |true=>
   have C:=t.out wc _ s.out;have M:=aa C;clear C x D t u G L k0 k1 k2 k3;go_wp2_with fail
   refine M.out.mono ?_;rintro e w2 ⟨b,c,rfl,k⟩;have p:=aa k;clear k c0 c1;by_cases I:c=0
   ·subst I;go_wp2_with fail
    refine(B.out _ p.out).mono ?_;rintro e w3 ⟨rfl,m⟩;have y:=aa m;clear m;go_wp2_with fail
    go_ret
    exact⟨⟨0,rfl⟩,y.out⟩
   ·have T:((c:Int) != 0)=true:=by simp;omega
    clear I;go_wp2_with fail
    go_ret
    exact⟨⟨c,rfl⟩,p.out⟩
def Av(b:Bool)(e:Ending):Prop:=∃(h:yB) (a:jL) (c:Nat),e=rV (tV #[sV h,cy a,iV .i64 c])/\iX a/\(c=0->h.size=32/\b=true)
theorem SC.sum{A K b a w}(h:SC A K b a w)(s:yB)(c:s.size<=maxLen):Calls yP 24 #[sV s] w fun e w'=>e=rV (sV (ai s))/\SC A K b a w':=
 (iE s c w h.bt).mono fun _ _ ⟨h1,h2⟩=>⟨h1,h.below h2⟩
theorem uf{A K ts bx w}(h:SC A K ts bx w)(addr:yB)(hk:addr.size<=maxLen)(A1:Bool):
 Calls yP 102 #[pV (some ⟨A.sp,0,none⟩),sV addr,bV A1] w fun e w'=>Av A1 e/\SC A (K+250) ts bx w':=by
 have hb:=h.box #[iV .i64 0,sV ⟨#[]⟩,sV ⟨#[]⟩,sV ⟨#[]⟩] 103;obtain⟨W0,A0⟩:=yX (w.alloc (.cells #[iV .i64 0,sV ⟨#[]⟩,sV ⟨#[]⟩,sV ⟨#[]⟩] 103))
 rw[<-A0] at hb;have A2:Hid (∀b∈bx,b.1≠w.heap.size):=h.fresh;have B0:Hid (SC A K ts ((w.heap.size,.cells #[iV .i64 0,sV ⟨#[]⟩,sV ⟨#[]⟩,sV ⟨#[]⟩] 103 (0,0))::bx) W0):=hb;have B3:Hid (Calls yP 24 #[sV addr] W0 fun e w'=>e=rV (sV (ai addr))/\SC A K ts ((w.heap.size,.cells #[iV .i64 0,sV ⟨#[]⟩,sV ⟨#[]⟩,sV ⟨#[]⟩] 103 (0,0))::bx) w'):=hb.sum addr hk;have h32:(ai addr).size=32:=eL _;have A7:Hid (∀W,SC A K ts ((w.heap.size,.cells #[iV .i64 0,sV ⟨#[]⟩,sV ⟨#[]⟩,sV ⟨#[]⟩] 103 (0,0))::bx) W->Calls yP 94 #[pV (some ⟨A.sp,0,none⟩),sV (ai addr)] W fun e w'=>jK e/\SC A (K+250) ts ((w.heap.size,.cells #[iV .i64 0,sV ⟨#[]⟩,sV ⟨#[]⟩,sV ⟨#[]⟩] 103 (0,0))::bx) w'):=fun W hW=>tC hW _ (by rw[h32];decide)
 have A5:Hid (∀c:Nat,c≠0->Av A1 (rV (tV #[sV ⟨#[]⟩,gV #[iV .i64 0,sV ⟨#[]⟩,sV ⟨#[]⟩,sV ⟨#[]⟩],iV .i64 c]))):=fun c hc=>⟨⟨#[]⟩,pS,c,rfl,rH,fun h=>absurd h hc⟩
 have A3:Hid (∀K',SC A K ts ((w.heap.size,.cells #[iV .i64 0,sV ⟨#[]⟩,sV ⟨#[]⟩,sV ⟨#[]⟩] 103 (0,0))::bx) K'->SC A (K+250) ts bx ((((K'.setCell ⟨w.heap.size,0,none⟩ (iV .i64 0)).setCell ⟨w.heap.size,1,none⟩ (sV ⟨#[]⟩)).setCell ⟨w.heap.size,2,none⟩ (sV ⟨#[]⟩)).setCell ⟨w.heap.size,3,none⟩ (sV ⟨#[]⟩))):=fun W hW=>((hW.cH A2.out _ _ _ _).unbox).mono (by omega)
 have A4:Hid (SC A (K+250) ts bx W0):=hb.unbox.mono (by omega);have B6:Hid ((ai addr).size=32):=h32;obtain⟨⟨k0,k1,k2,k3⟩,f0,f1,f2,f3⟩:=hb.iu;clear h hb h32;unfold maxLen at hk;generalize ai addr=HA at*;by_cases h20:addr.size=20
 ·have B9:(addr.size:Int)=20:=by omega
  cases A1 with
  |false=>
   go_enter func102,ntmps102
   go_wp2_with fail
   (try rw[<-A0])
   exact Rf (v:=tV #[sV ⟨#[]⟩,gV #[iV .i64 0,sV ⟨#[]⟩,sV ⟨#[]⟩,sV ⟨#[]⟩],iV .i64 3]) (by simp[results,results102,go_sem,k0,k1,k2,k3]) rfl ⟨A5.out 3 (by decide),by first|exact A4.out|exact A3.out _ B0.out⟩
  |true=>
   clear k0 k1 k2 k3 f0 f1 f2 f3 A5 A3 A4;go_enter func102,ntmps102
   go_wp2_with fail
   rw[<-A0];clear A0;refine B3.out.mono ?_;rintro e w1 ⟨rfl,B4⟩;have B1:Hid (SC A K ts ((w.heap.size,.cells #[iV .i64 0,sV ⟨#[]⟩,sV ⟨#[]⟩,sV ⟨#[]⟩] 103 (0,0))::bx) w1):=B4;clear B4 B3;go_wp2_with fail
   refine(A7.out _ B1.out).mono ?_;rintro e w2 ⟨⟨a,th,c,rfl,B5,hz⟩,A6⟩;have B2:Hid (SC A (K+250) ts ((w.heap.size,.cells #[iV .i64 0,sV ⟨#[]⟩,sV ⟨#[]⟩,sV ⟨#[]⟩] 103 (0,0))::bx) w2):=A6;obtain⟨⟨k0,k1,k2,k3⟩,f0,f1,f2,f3⟩:=A6.iu;have C0:w.heap.size<w2.heap.size:=Rj w2 _ k0;have HR:Hid (Av true (rV (tV #[sV HA,cy a,iV .i64 c]))):=⟨HA,a,c,rfl,B5,fun _=>⟨B6.out,rfl⟩⟩
   obtain⟨n,B7,C1,B8⟩:=a;unfold cy at HR⊢;have A8:Hid (∀cs y0 y1 y2 y3,SC A (K+250) ts bx (((((w2.alloc (.cells cs 103)).setCell ⟨w.heap.size,0,none⟩ y0).setCell ⟨w.heap.size,1,none⟩ y1).setCell ⟨w.heap.size,2,none⟩ y2).setCell ⟨w.heap.size,3,none⟩ y3)):=fun cs y0 y1 y2 y3=>((B2.out.below ((Q1 _ _).alloc (QU _) _)).cH A2.out _ _ _ _).unbox
   have A9:Hid (∀cs y0 y1 y2 y3,SC A (K+250) ts bx (((((w2.setCell ⟨w.heap.size,0,none⟩ y0).setCell ⟨w.heap.size,1,none⟩ y1).setCell ⟨w.heap.size,2,none⟩ y2).setCell ⟨w.heap.size,3,none⟩ y3).alloc (.cells cs 103))):=fun cs y0 y1 y2 y3=>((B2.out.cH A2.out y0 y1 y2 y3).unbox).below ((Q1 _ _).alloc (QU _) _)
   clear A6 B5 hz A7 B1;go_upto_region 7 with fail
   go_region
   all_goals
    go_wp2_with fail
    exact Rf (v:=tV #[sV HA,gV #[iV .i64 n,sV B7,sV C1,sV B8],iV .i64 c]) (by simp[results,results102,go_sem,k0,k1,k2,k3,C0]) rfl ⟨HR.out,by first|exact(A8.out _ _ _ _ _).drew|exact(A9.out _ _ _ _ _).drew|exact A8.out _ _ _ _ _ |exact A9.out _ _ _ _ _⟩
 ·have B9:¬(addr.size:Int)=20:=by omega
  go_enter func102,ntmps102
  go_wp2_with fail
  (try rw[<-A0])
  exact Rf (v:=tV #[sV ⟨#[]⟩,gV #[iV .i64 0,sV ⟨#[]⟩,sV ⟨#[]⟩,sV ⟨#[]⟩],iV .i64 2]) (by simp[results,results102,go_sem,k0,k1,k2,k3]) rfl ⟨A5.out 2 (by decide),by first|exact A4.out|exact A3.out _ B0.out⟩
def dc(e:Ending):Prop:=∃c:Nat,e=rV (iV .i64 c)
theorem qh{A K ts bx w}(h:SC A K ts bx w)(addr:yB)(hk:addr.size<=maxLen)(v:yB)(hv:v.size<=maxLen)(hN:A.N+K+500<4000000000):
 Calls yP 68 #[pV (some ⟨A.sp,0,none⟩),sV addr,sV v] w fun e w'=>dc e/\SC A (K+500) ts bx w':=by
 have A5:Hid (Calls yP 102 #[pV (some ⟨A.sp,0,none⟩),sV addr,bV (eY v)] w fun e w'=>Av (eY v) e/\SC A (K+250) ts bx w'):=uf h addr hk (eY v);have A6:Hid (∀A3 a' W,0<A3.size->A3.size<=maxLen->iX a'->SC A (K+250) ts bx W->Calls yP 103 #[pV (some ⟨A.sp,0,none⟩),sV A3,cy a'] W fun e w'=>(∃c:Nat,e=rV (iV .i64 c))/\SC A (K+500) ts bx w'):=fun A3 a' W h0 h1 h2 hW=>qi hW A3 h0 h1 a' h2 (by omega)
 have B1:Hid (∀W,Calls yP 105 #[sV v] W fun e w'=>e=rV (bV (eY v))/\w'=W):=fun W=>sy v hv W
 clear h;go_enter func68,ntmps68
 go_wp2_with fail
 refine(B1.out _).mono ?_;rintro e wx ⟨rfl,B6⟩;subst B6;go_wp2_with fail
 refine A5.out.mono ?_;rintro e w1 ⟨⟨hh,a,c,rfl,A4,hz⟩,A2⟩;obtain⟨n,A9,A1,A0⟩:=a;have A7:=(A2.box #[iV .i64 n,sV A9,sV A1,sV A0] 103)
 have B7:Hid (∀b∈bx,b.1≠w1.heap.size):=A2.fresh;have A8:Hid (SC A (K+500) ts bx (w1.alloc (.cells #[iV .i64 n,sV A9,sV A1,sV A0] 103))):=A7.unbox.mono (by omega);have B4:Hid (SC A (K+250) ts bx (w1.alloc (.cells #[iV .i64 n,sV v,sV A1,sV A0] 103))):=(A2.box #[iV .i64 n,sV v,sV A1,sV A0] 103).unbox;by_cases hc:c=0
 ·subst hc;obtain⟨h32,B5⟩:=hz rfl;have B9:=yV B5;have B3:Hid (Calls yP 103 #[pV (some ⟨A.sp,0,none⟩),sV hh,gV #[iV .i64 n,sV v,sV A1,sV A0]] (w1.alloc (.cells #[iV .i64 n,sV v,sV A1,sV A0] 103)) fun e w'=>(∃c:Nat,e=rV (iV .i64 c))/\SC A (K+500) ts bx w'):=A6.out hh ⟨n,v,A1,A0⟩ _ (by omega) (by unfold maxLen;omega) ⟨A4.n,by show v.size<=_;omega,A4.root,A4.code⟩ B4.out;clear A2 A7 A4 hz A6 A5 A8;unfold cy;go_wp2_with fail
  refine B3.out.mono ?_;rintro e w4 ⟨⟨c4,rfl⟩,B0⟩;have B2:Hid (SC A (K+500) ts bx w4):=B0;clear B0;go_wp2_with fail
  go_ret
  exact⟨⟨c4,rfl⟩,B2.out⟩
 ·have B8:((c:Int) != 0)=true:=by simp;omega
  clear A2 A7 A4 hz A6 A5 hc;unfold cy;go_wp2_with fail
  go_ret
  exact⟨⟨c,rfl⟩,A8.out⟩
theorem JK{A K ts bx w}(h:SC A K ts bx w)(addr:yB)(hk:addr.size<=maxLen)(v:yB)(hv:v.size=32)(hN:A.N+K+500<4000000000):
 Calls yP 69 #[pV (some ⟨A.sp,0,none⟩),sV addr,sV v] w fun e w'=>dc e/\SC A (K+500) ts bx w':=by
 have A5:Hid (Calls yP 102 #[pV (some ⟨A.sp,0,none⟩),sV addr,bV true] w fun e w'=>Av true e/\SC A (K+250) ts bx w'):=uf h addr hk true;have A6:Hid (∀A3 a' W,0<A3.size->A3.size<=maxLen->iX a'->SC A (K+250) ts bx W->Calls yP 103 #[pV (some ⟨A.sp,0,none⟩),sV A3,cy a'] W fun e w'=>(∃c:Nat,e=rV (iV .i64 c))/\SC A (K+500) ts bx w'):=fun A3 a' W h0 h1 h2 hW=>qi hW A3 h0 h1 a' h2 (by omega)
 have B7:(v.size:Int)=32:=by omega
 clear h;go_enter func69,ntmps69
 go_wp2_with fail
 refine A5.out.mono ?_;rintro e w1 ⟨⟨hh,a,c,rfl,A4,hz⟩,A2⟩;obtain⟨n,A0,A1,A9⟩:=a;have A7:=(A2.box #[iV .i64 n,sV A0,sV A1,sV A9] 103)
 have B4:Hid (∀b∈bx,b.1≠w1.heap.size):=A2.fresh;have A8:Hid (SC A (K+500) ts bx (w1.alloc (.cells #[iV .i64 n,sV A0,sV A1,sV A9] 103))):=A7.unbox.mono (by omega);have B3:Hid (SC A (K+250) ts bx (w1.alloc (.cells #[iV .i64 n,sV A0,sV A1,sV v] 103))):=(A2.box #[iV .i64 n,sV A0,sV A1,sV v] 103).unbox;by_cases hc:c=0
 ·subst hc;obtain⟨h32,B6⟩:=hz rfl;have B2:Hid (Calls yP 103 #[pV (some ⟨A.sp,0,none⟩),sV hh,gV #[iV .i64 n,sV A0,sV A1,sV v]] (w1.alloc (.cells #[iV .i64 n,sV A0,sV A1,sV v] 103)) fun e w'=>(∃c:Nat,e=rV (iV .i64 c))/\SC A (K+500) ts bx w'):=A6.out hh ⟨n,A0,A1,v⟩ _ (by omega) (by unfold maxLen;omega) ⟨A4.n,A4.aj,A4.root,by show v.size<=_;omega⟩ B3.out;clear A2 A7 A4 hz A6 A5 A8;unfold cy;go_wp2_with fail
  refine B2.out.mono ?_;rintro e w4 ⟨⟨c4,rfl⟩,B0⟩;have B1:Hid (SC A (K+500) ts bx w4):=B0;clear B0;go_wp2_with fail
  go_ret
  exact⟨⟨c4,rfl⟩,B1.out⟩
 ·have B5:((c:Int) != 0)=true:=by simp;omega
  clear A2 A7 A4 hz A6 A5 hc;unfold cy;go_wp2_with fail
  go_ret
  exact⟨⟨c,rfl⟩,A8.out⟩
theorem JI{A K ts bx w}(h:SC A K ts bx w)(addr:yB)(hk:addr.size<=maxLen)(x:Nat)(hx:x<9223372036854775808)(hN:A.N+K+500<4000000000):
 Calls yP 65 #[pV (some ⟨A.sp,0,none⟩),sV addr,iV .i64 x] w fun e w'=>dc e/\SC A (K+500) ts bx w':=by
 have A6:Hid (Calls yP 102 #[pV (some ⟨A.sp,0,none⟩),sV addr,bV true] w fun e w'=>Av true e/\SC A (K+250) ts bx w'):=uf h addr hk true;have A7:Hid (∀A4 a' W,0<A4.size->A4.size<=maxLen->iX a'->SC A (K+250) ts bx W->Calls yP 103 #[pV (some ⟨A.sp,0,none⟩),sV A4,cy a'] W fun e w'=>(∃c:Nat,e=rV (iV .i64 c))/\SC A (K+500) ts bx w'):=fun A4 a' W h0 h1 h2 hW=>qi hW A4 h0 h1 a' h2 (by omega)
 have B7:(0:Int)<=(x:Int):=by omega
 clear h;go_enter func65,ntmps65
 go_wp2_with fail
 refine A6.out.mono ?_;rintro e w1 ⟨⟨hh,a,c,rfl,A5,hz⟩,A3⟩;obtain⟨n,A0,A2,A1⟩:=a;have A8:=(A3.box #[iV .i64 n,sV A0,sV A2,sV A1] 103)
 have B4:Hid (∀b∈bx,b.1≠w1.heap.size):=A3.fresh;have A9:Hid (SC A (K+500) ts bx (w1.alloc (.cells #[iV .i64 n,sV A0,sV A2,sV A1] 103))):=A8.unbox.mono (by omega);have B3:Hid (SC A (K+250) ts bx (w1.alloc (.cells #[iV .i64 x,sV A0,sV A2,sV A1] 103))):=(A3.box #[iV .i64 x,sV A0,sV A2,sV A1] 103).unbox;by_cases hc:c=0
 ·subst hc;obtain⟨h32,B6⟩:=hz rfl;have B2:Hid (Calls yP 103 #[pV (some ⟨A.sp,0,none⟩),sV hh,gV #[iV .i64 x,sV A0,sV A2,sV A1]] (w1.alloc (.cells #[iV .i64 x,sV A0,sV A2,sV A1] 103)) fun e w'=>(∃c:Nat,e=rV (iV .i64 c))/\SC A (K+500) ts bx w'):=A7.out hh ⟨x,A0,A2,A1⟩ _ (by omega) (by unfold maxLen;omega) ⟨hx,A5.aj,A5.root,A5.code⟩ B3.out;clear A3 A8 A5 hz A7 A6 A9;unfold cy;go_wp2_with fail
  refine B2.out.mono ?_;rintro e w4 ⟨⟨c4,rfl⟩,B0⟩;have B1:Hid (SC A (K+500) ts bx w4):=B0;clear B0;go_wp2_with fail
  go_ret
  exact⟨⟨c4,rfl⟩,B1.out⟩
 ·have B5:((c:Int) != 0)=true:=by simp;omega
  clear A3 A8 A5 hz A7 A6 hc;unfold cy;go_wp2_with fail
  go_ret
  exact⟨⟨c,rfl⟩,A9.out⟩
theorem JJ{A K d b w}(h:SC A K d b w)(addr:yB)(p:addr.size<=maxLen)(x:Int)(t:x<0):
 Calls yP 65 #[pV (qA A.sp),sV addr,iV .i64 x] w fun e w'=>dc e/\SC A (K+500) d b w':=by
 have f:=aa (uf h addr p false);have u:¬(0:Int)<=x:=by omega
 clear h;go_enter func65,ntmps65
 go_wp2_with fail
 refine f.out.mono ?_;rintro e w1 ⟨⟨s,a,c,rfl,q,k⟩,j⟩;have o:c≠0:=fun e=>by have:=(k e).2;cases this
 obtain⟨n,g,l,i⟩:=a;have m:Hid (SC A (K+500) d b (w1.alloc (.cells #[iV .i64 n,sV g,sV l,sV i] 103))):=(j.box #[iV .i64 n,sV g,sV l,sV i] 103).unbox.mono (by omega);have r:((c:Int) != 0)=true:=by simp;omega
 clear j q k f o;unfold cy;go_wp2_with fail
 go_ret
 exact⟨⟨c,rfl⟩,m.out⟩
theorem JL{A K ts bx w}(h:SC A K ts bx w)(addr v:yB)(h32:v.size≠32):
 Calls yP 69 #[pV (some ⟨A.sp,0,none⟩),sV addr,sV v] w fun e w'=>dc e/\SC A (K+500) ts bx w':=by
 have A0:¬(v.size:Int)=32:=by omega
 have HS:Hid (SC A (K+500) ts bx w):=h.mono (by omega);clear h;go_enter func69,ntmps69
 go_wp2_with fail
 go_ret
 exact⟨⟨2,rfl⟩,HS.out⟩
theorem Hb{A K ts bx w}(h:SC A K ts bx w)(addr:yB)(hk:addr.size<=maxLen):
 Calls yP 52 #[pV (some ⟨A.sp,0,none⟩),sV addr] w fun e w'=>(jK e/\(addr.size≠20->∃v,e=rV (tV #[v,bV false,iV .i64 2])))/\SC A (K+250) ts bx w':=by
 have hb:=h.box #[iV .i64 0,sV ⟨#[]⟩,sV ⟨#[]⟩,sV ⟨#[]⟩] 103;obtain⟨W0,A0⟩:=yX (w.alloc (.cells #[iV .i64 0,sV ⟨#[]⟩,sV ⟨#[]⟩,sV ⟨#[]⟩] 103))
 rw[<-A0] at hb;have A3:Hid (∀b∈bx,b.1≠w.heap.size):=h.fresh;have B5:Hid (SC A K ts ((w.heap.size,.cells #[iV .i64 0,sV ⟨#[]⟩,sV ⟨#[]⟩,sV ⟨#[]⟩] 103 (0,0))::bx) W0):=hb;have A5:Hid (Calls yP 24 #[sV addr] W0 fun e w'=>e=rV (sV (ai addr))/\SC A K ts ((w.heap.size,.cells #[iV .i64 0,sV ⟨#[]⟩,sV ⟨#[]⟩,sV ⟨#[]⟩] 103 (0,0))::bx) w'):=hb.sum addr hk;have h32:(ai addr).size=32:=eL _;have A2:Hid (∀W,SC A K ts ((w.heap.size,.cells #[iV .i64 0,sV ⟨#[]⟩,sV ⟨#[]⟩,sV ⟨#[]⟩] 103 (0,0))::bx) W->Calls yP 94 #[pV (some ⟨A.sp,0,none⟩),sV (ai addr)] W fun e w'=>jK e/\SC A (K+250) ts ((w.heap.size,.cells #[iV .i64 0,sV ⟨#[]⟩,sV ⟨#[]⟩,sV ⟨#[]⟩] 103 (0,0))::bx) w'):=fun W hW=>tC hW _ (by rw[h32];decide)
 have A6:Hid (SC A (K+250) ts bx ((((W0.setCell ⟨w.heap.size,0,none⟩ (iV .i64 0)).setCell ⟨w.heap.size,1,none⟩ (sV ⟨#[]⟩)).setCell ⟨w.heap.size,2,none⟩ (sV ⟨#[]⟩)).setCell ⟨w.heap.size,3,none⟩ (sV ⟨#[]⟩))):=((hb.cH A3.out _ _ _ _).unbox).mono (by omega);have A7:Hid (SC A (K+250) ts bx W0):=hb.unbox.mono (by omega);obtain⟨⟨k0,k1,k2,k3⟩,f0,f1,f2,f3⟩:=hb.iu;clear h hb h32;unfold maxLen at hk;generalize ai addr=HA at*;by_cases h20:addr.size=20
 ·have B3:(addr.size:Int)=20:=by omega
  clear k0 k1 k2 k3 f0 f1 f2 f3 A6 A7;go_enter func52,ntmps52
  go_wp2_with fail
  rw[<-A0];clear A0;refine A5.out.mono ?_;rintro e w1 ⟨rfl,A8⟩;have A4:Hid (SC A K ts ((w.heap.size,.cells #[iV .i64 0,sV ⟨#[]⟩,sV ⟨#[]⟩,sV ⟨#[]⟩] 103 (0,0))::bx) w1):=A8;clear A8 A5;go_wp2_with fail
  refine(A2.out _ A4.out).mono ?_;rintro e w2 ⟨⟨a,th,c,rfl,A9,hz⟩,A1⟩;have B0:Hid (SC A (K+250) ts ((w.heap.size,.cells #[iV .i64 0,sV ⟨#[]⟩,sV ⟨#[]⟩,sV ⟨#[]⟩] 103 (0,0))::bx) w2):=A1;obtain⟨⟨k0,k1,k2,k3⟩,f0,f1,f2,f3⟩:=A1.iu;have HR:Hid (jK (rV (tV #[cy a,bV th,iV .i64 c]))):=⟨a,th,c,rfl,A9,hz⟩
  obtain⟨n,B1,B4,B2⟩:=a;unfold cy at HR⊢;clear A1 A9 hz A2 A4;go_wp2_with fail
  exact Rf (v:=tV #[gV #[iV .i64 n,sV B1,sV B4,sV B2],bV th,iV .i64 c]) (by simp[results,results52,go_sem,k0,k1,k2,k3]) rfl ⟨⟨HR.out,fun hn=>absurd h20 hn⟩,(B0.out.cH A3.out _ _ _ _).unbox⟩
 ·have B3:¬(addr.size:Int)=20:=by omega
  have HR:Hid (jK (rV (tV #[gV #[iV .i64 0,sV ⟨#[]⟩,sV ⟨#[]⟩,sV ⟨#[]⟩],bV false,iV .i64 2]))):=⟨pS,false,2,rfl,rH,fun h=>by cases h⟩
  go_enter func52,ntmps52
  go_wp2_with fail
  (try rw[<-A0])
  exact Rf (v:=tV #[gV #[iV .i64 0,sV ⟨#[]⟩,sV ⟨#[]⟩,sV ⟨#[]⟩],bV false,iV .i64 2]) (by simp[results,results52,go_sem,k0,k1,k2,k3]) rfl ⟨⟨HR.out,fun _=>⟨_,rfl⟩⟩,by first|exact A7.out|exact A6.out⟩
theorem JN{A K b a w}(h:SC A K b a w):
 Calls yP 56 #[pV (qA A.sp)] w fun e w'=>(∃r:yB,e=rV (sV r)/\r.size=32)/\SC A K b a w':=by
 have f:Hid (Calls yP 38 #[pV (qA A.tw)] w fun e w'=>∃r:yB,e=rV (sV r)/\r.size=32/\SC A K b a w'):=h.root (.inl rfl);obtain⟨c0,c1⟩:=h.cells;clear h;go_enter func56,ntmps56
 go_wp2_with fail
 refine f.out.mono ?_;rintro e w1 ⟨r,rfl,h32,c⟩;have g:=aa c;have d:=aa h32;clear c h32;go_wp2_with fail
 go_ret
 exact⟨⟨r,rfl,d.out⟩,g.out⟩
theorem JQ{A K ts bx w}(h:SC A K ts bx w)(addr:yB)(hk:addr.size<=maxLen)(hN:A.N+K+500<4000000000):
 Calls yP 106 #[pV (some ⟨A.sp,0,none⟩),sV addr] w fun e w'=>(∃(b:Bool) (c:Nat),e=rV (tV #[bV b,iV .i64 c]))/\SC A (K+500) ts bx w':=by
 have A3:Hid (Calls yP 52 #[pV (some ⟨A.sp,0,none⟩),sV addr] w fun e w'=>(jK e/\(addr.size≠20->∃v,e=rV (tV #[v,bV false,iV .i64 2])))/\SC A (K+250) ts bx w'):=Hb h addr hk;have h32:(ai addr).size=32:=eL _;have B5:Hid (∀W,SC A (K+250) ts bx W->Calls yP 24 #[sV addr] W fun e w'=>e=rV (sV (ai addr))/\SC A (K+250) ts bx w'):=fun W hW=>hW.sum addr hk
 have B0:Hid (∀W,SC A (K+250) ts bx W->Calls yP 124 #[] W fun e w'=>e=rV (cy jw)/\SC A (K+250) ts bx w'):=fun W hW=>(uv W hW.bt).mono fun _ _ ⟨h1,h2⟩=>⟨h1,hW.below h2⟩
 have B4:Hid (∀W,SC A (K+250) ts bx W->Calls yP 103 #[pV (some ⟨A.sp,0,none⟩),sV (ai addr),cy jw] W fun e w'=>(∃c:Nat,e=rV (iV .i64 c))/\SC A (K+500) ts bx w'):=fun W hW=>qi hW _ (by rw[h32];decide) (by rw[h32];decide) _ ye.1 (by omega)
 clear h h32;generalize ai addr=HA at*;generalize cy jw=VN at*;go_enter func106,ntmps106
 go_wp2_with fail
 refine A3.out.mono ?_;rintro e w1 ⟨⟨⟨a,th,c,rfl,B6,hz⟩,_⟩,A6⟩;obtain⟨n,A0,A2,A1⟩:=a;have A5:Hid (SC A (K+250) ts bx (w1.alloc (.cells #[iV .i64 n,sV A0,sV A2,sV A1] 103))):=(A6.box #[iV .i64 n,sV A0,sV A2,sV A1] 103).unbox;have A4:Hid (SC A (K+500) ts bx (w1.alloc (.cells #[iV .i64 n,sV A0,sV A2,sV A1] 103))):=A5.out.mono (by omega);clear A6 B6 hz A3;unfold cy;by_cases hc:c=0
 ·subst hc;cases th with
  |false=>
   go_wp2_with fail
   go_ret2
   exact⟨⟨false,0,rfl⟩,A4.out⟩
  |true=>
   go_wp2_with fail
   refine(B5.out _ A5.out).mono ?_;rintro e w2 ⟨rfl,A7⟩;have B1:Hid (SC A (K+250) ts bx w2):=A7;clear A7;go_wp2_with fail
   refine(B0.out _ B1.out).mono ?_;rintro e w3 ⟨rfl,A8⟩;have B2:Hid (SC A (K+250) ts bx w3):=A8;clear A8;go_wp2_with fail
   refine(B4.out _ B2.out).mono ?_;rintro e w4 ⟨⟨c4,rfl⟩,A9⟩;have B3:Hid (SC A (K+500) ts bx w4):=A9;clear A9;go_wp2_with fail
   go_ret2
   exact⟨⟨_,c4,rfl⟩,B3.out⟩
 ·have B7:((c:Int) != 0)=true:=by simp;omega
  clear hc;go_wp2_with fail
  go_ret2
  exact⟨⟨false,c,rfl⟩,A4.out⟩
theorem OG{A K g f w}(h:SC A K g f w)(m:yB)(Q:0<m.size)(hk:m.size<=maxLen)(a:jL)(q:iX a)(x:a.root.size=32)(key o:yB)(O:key.size<=maxLen)(M:o.size<=maxLen)(hN:A.N+K+800<4000000000):
 Calls yP 107 #[pV (qA A.sp),sV m,cy a,sV key,sV o] w fun e w'=>dc e/\SC A (K+751) g f w':=by
 obtain⟨n,i,l,j⟩:=a;simp only at x;have k:=h.box #[iV .i64 n,sV i,sV l,sV j] 103;obtain⟨s,v⟩:=yX (w.alloc (.cells #[iV .i64 n,sV i,sV l,sV j] 103))
 rw[<-v] at k;have R:=aa h.fresh;have E:=aa (k.slotsOf m l Q x (by omega));have y:Hid (∀d W,SC A (K+1) (d::g) ((w.heap.size,.cells #[iV .i64 n,sV i,sV l,sV j] 103 (0,0))::f) W->Calls yP 132 #[pV (qA d),sV key,sV o] W fun e w'=>∃(r:yB) (c:Nat),e=rV (tV #[sV r,iV .i64 c])/\r.size<=32/\(c=0->r.size=32)/\SC A (K+1+250) (d::g) ((w.heap.size,.cells #[iV .i64 n,sV i,sV l,sV j] 103 (0,0))::f) w'):=fun d W p=>p.xJ (.inr (QY ..)) key o O M
 have F:Hid (∀d r W,r.size<=32->SC A (K+1+250) (d::g) f W->Calls yP 103 #[pV (qA A.sp),sV m,gV #[iV .i64 n,sV i,sV r,sV j]] W fun e w'=>(∃c:Nat,e=rV (iV .i64 c))/\SC A (K+1+250+250) (d::g) f w'):=fun d r W x p=>qi p m Q hk ⟨n,i,r,j⟩ ⟨q.n,q.aj,by show r.size<=_;omega,q.code⟩ (by omega)
 have S:Hid (∀d W,SC A (K+1+250+250) (d::g) f W->Calls yP 31 #[pV (qA d),sV key,sV o] W fun e w'=>∃c:Nat,e=rV (iV .i64 c)/\SC A (K+751) g f w'):=fun d W p=>(p.put (.inr (QY ..)) key o O M).mono fun _ _ ⟨c,h1,h2⟩=>⟨c,h1,(h2.drop (fun _ ht=>QZ _ ht) fun _ k=>k).mono (by omega)⟩
 clear h k q;unfold cy;go_enter func107,ntmps107
 go_wp2_with fail
 rw[<-v];clear v;refine E.out.mono ?_;rintro e w1 ⟨d,rfl,G⟩;have z:=aa G;clear G E;go_wp2_with fail
 refine(y.out _ _ z.out).mono ?_;rintro e w2 ⟨r,c,rfl,P,A0,t⟩;have B:=aa t;obtain⟨⟨k0,k1,k2,k3⟩,f0,f1,f2,f3⟩:=t.iu;clear t y z;by_cases J:c=0
 ·subst J;have H:=B.out.BL R.out (sV r) 2;have T:=aa H.unbox;have C:=F.out d r _ P T.out;have D:=aa C;clear H C F P A0;go_wp2_with fail
  refine D.out.mono ?_;rintro e w4 ⟨⟨c4,rfl⟩,u⟩;have U:=aa u;have V:Hid (SC A (K+751) g f w4):=(u.drop (fun _ ht=>QZ _ ht) fun _ k=>k).mono (by omega);clear u D k0 k1 k2 k3 f0 f1 f2 f3;by_cases L:c4=0
  ·subst L;go_wp2_with fail
   refine(S.out _ _ U.out).mono ?_;rintro e w5 ⟨c5,rfl,I⟩;have X:=aa I;clear I;go_wp2_with fail
   go_ret
   exact⟨⟨c5,rfl⟩,X.out⟩
  ·have Z:((c4:Int) != 0)=true:=by simp;omega
   clear L;go_wp2_with fail
   go_ret
   exact⟨⟨c4,rfl⟩,V.out⟩
 ·have Z:((c:Int) != 0)=true:=by simp;omega
  have Y:Hid (SC A (K+751) g f w2):=(B.out.unbox.drop (fun _ ht=>QZ _ ht) fun _ k=>k).mono (by omega);clear J;go_wp2_with fail
  go_ret
  exact⟨⟨c,rfl⟩,Y.out⟩
theorem Ps{A K g f w}(h:SC A K g f w)(p:yB)(X:0<p.size)(hk:p.size<=maxLen)(a:jL)(s:iX a)(C:a.root.size=32)(key:yB)(B:key.size<=maxLen)(hN:A.N+K+1100<4000000000):
 Calls yP 109 #[pV (qA A.sp),sV p,cy a,sV key] w fun e w'=>dc e/\SC A (K+1001) g f w':=by
 obtain⟨n,i,k,j⟩:=a;simp only at C;have l:=h.box #[iV .i64 n,sV i,sV k,sV j] 103;obtain⟨t,z⟩:=yX (w.alloc (.cells #[iV .i64 n,sV i,sV k,sV j] 103))
 rw[<-z] at l;have Y:=aa h.fresh;have M:=aa (l.slotsOf p k X C (by omega));have G:Hid (∀d W,SC A (K+1) (d::g) ((w.heap.size,.cells #[iV .i64 n,sV i,sV k,sV j] 103 (0,0))::f) W->Calls yP 37 #[pV (qA d),sV key] W fun e w'=>∃(v:yB) (c:Nat),e=rV (tV #[sV v,iV .i64 c])/\v.size<=160/\SC A (K+1+250) (d::g) ((w.heap.size,.cells #[iV .i64 n,sV i,sV k,sV j] 103 (0,0))::f) w'):=fun d W o=>o.get (.inr (QY ..)) key B
 have F:Hid (∀d W,SC A (K+1+250) (d::g) ((w.heap.size,.cells #[iV .i64 n,sV i,sV k,sV j] 103 (0,0))::f) W->Calls yP 35 #[pV (qA d),sV key] W fun e w'=>∃(b:Bool) (c:Nat),e=rV (tV #[bV b,iV .i64 c])/\SC A (K+1+250+250) (d::g) ((w.heap.size,.cells #[iV .i64 n,sV i,sV k,sV j] 103 (0,0))::f) w'):=fun d W o=>o.del (.inr (QY ..)) key B
 have H:Hid (∀d W,SC A (K+1+250+250) (d::g) ((w.heap.size,.cells #[iV .i64 n,sV i,sV k,sV j] 103 (0,0))::f) W->Calls yP 38 #[pV (qA d)] W fun e w'=>∃r:yB,e=rV (sV r)/\r.size=32/\SC A (K+1+250+250) (d::g) ((w.heap.size,.cells #[iV .i64 n,sV i,sV k,sV j] 103 (0,0))::f) w'):=fun d W o=>o.root (.inr (QY ..))
 have O:Hid (∀d r W,r.size<=32->SC A (K+1+250+250) (d::g) f W->Calls yP 103 #[pV (qA A.sp),sV p,gV #[iV .i64 n,sV i,sV r,sV j]] W fun e w'=>(∃c:Nat,e=rV (iV .i64 c))/\SC A (K+1+250+250+250) (d::g) f w'):=fun d r W C o=>qi o p X hk ⟨n,i,r,j⟩ ⟨s.n,s.aj,by show r.size<=_;omega,s.code⟩ (by omega)
 have Z:Hid (∀d v W,v.size<=160->SC A (K+1+250+250+250) (d::g) f W->Calls yP 31 #[pV (qA d),sV key,sV v] W fun e w'=>∃c:Nat,e=rV (iV .i64 c)/\SC A (K+1001) g f w'):=fun d v W D o=>(o.put (.inr (QY ..)) key v B (by unfold maxLen;omega)).mono fun _ _ ⟨c,h1,h2⟩=>⟨c,h1,(h2.drop (fun _ ht=>QZ _ ht) fun _ l=>l).mono (by omega)⟩
 clear h l s;unfold cy;go_enter func109,ntmps109
 go_wp2_with fail
 rw[<-z];clear z;refine M.out.mono ?_;rintro e w1 ⟨d,rfl,P⟩;have I:=aa P;clear P M;go_wp2_with fail
 refine(G.out _ _ I.out).mono ?_;rintro e w2 ⟨v,c,rfl,D,u⟩;have J:=aa u;have m:Hid (SC A (K+1001) g f w2):=(u.unbox.drop (fun _ ht=>QZ _ ht) fun _ l=>l).mono (by omega);clear u G I;by_cases S:c=0
 ·subst S;by_cases E:v.size=0
  ·have hE:v.toList.isEmpty=true:=by rw[gH];exact E
   go_wp2_with fail
   go_ret
   exact⟨⟨0,rfl⟩,m.out⟩
  ·have hE:v.toList.isEmpty=false:=by rw[gT];exact E
   have HV:=aa D;clear D E m;go_wp2_with fail
   refine(F.out _ _ J.out).mono ?_;rintro e w3 ⟨b,c3,rfl,x⟩;have A0:=aa x;have m:Hid (SC A (K+1001) g f w3):=(x.unbox.drop (fun _ ht=>QZ _ ht) fun _ l=>l).mono (by omega);clear x F J;by_cases T:c3=0
   ·subst T;clear m;go_wp2_with fail
    refine(H.out _ _ A0.out).mono ?_;rintro e w4 ⟨r,rfl,h32,q⟩;have A4:=aa q;obtain⟨⟨k0,k1,k2,k3⟩,f0,f1,f2,f3⟩:=q.iu;have Q:=q.BL Y.out (sV r) 2;have A1:=aa Q.unbox;have L:=aa (O.out d r _ (by omega) A1.out);clear q Q H O h32;go_wp2_with fail
    refine L.out.mono ?_;rintro e w5 ⟨⟨c5,rfl⟩,y⟩;have A2:=aa y;have m:Hid (SC A (K+1001) g f w5):=(y.drop (fun _ ht=>QZ _ ht) fun _ l=>l).mono (by omega);clear y L k0 k1 k2 k3 f0 f1 f2 f3;by_cases U:c5=0
    ·subst U;go_wp2_with fail
     go_ret
     exact⟨⟨0,rfl⟩,m.out⟩
    ·have V:((c5:Int) != 0)=true:=by simp;omega
     clear U m;go_wp2_with fail
     refine(Z.out _ _ _ HV.out A2.out).mono ?_;rintro e w6 ⟨c6,rfl,R⟩;have A3:=aa R;clear R;go_wp2_with fail
     go_ret
     exact⟨⟨c5,rfl⟩,A3.out⟩
   ·have V:((c3:Int) != 0)=true:=by simp;omega
    clear T;go_wp2_with fail
    go_ret
    exact⟨⟨c3,rfl⟩,m.out⟩
 ·have V:((c:Int) != 0)=true:=by simp;omega
  clear S;go_wp2_with fail
  go_ret
  exact⟨⟨c,rfl⟩,m.out⟩
def tF(e:Ending):Prop:=∃(v:yB) (c:Nat),e=rV (tV #[sV v,iV .i64 c])/\v.size<=maxLen
theorem QD{A K ts bx w}(h:SC A K ts bx w)(addr A1:yB)(hk:addr.size<=maxLen)(hl:A1.size<=maxLen)(hN:A.N+K+600<4000000000):
 Calls yP 55 #[pV (some ⟨A.sp,0,none⟩),sV addr,sV A1] w fun e w'=>tF e/\SC A (K+501) ts bx w':=by
 have h32:(ai addr).size=32:=eL _;have B3:(ai A1).size=32:=eL _;have B2:Hid (Calls yP 24 #[sV addr] w fun e w'=>e=rV (sV (ai addr))/\SC A K ts bx w'):=h.sum addr hk;have A7:Hid (∀W,SC A K ts bx W->Calls yP 94 #[pV (some ⟨A.sp,0,none⟩),sV (ai addr)] W fun e w'=>jK e/\SC A (K+250) ts bx w'):=fun W hW=>tC hW _ (by rw[h32];decide)
 have B0:Hid (∀A0 W,A0.size=32->SC A (K+250) ts bx W->Calls yP 96 #[pV (some ⟨A.sp,0,none⟩),sV (ai addr),sV A0] W fun e w'=>∃tb,e=rV (pV (some ⟨tb,0,none⟩))/\SC A (K+250+1) (tb::ts) bx w'):=fun A0 W hr hW=>hW.slotsOf _ A0 (by rw[h32];decide) hr (by omega)
 have C8:Hid (∀tb W,SC A (K+250+1) (tb::ts) bx W->Calls yP 24 #[sV A1] W fun e w'=>e=rV (sV (ai A1))/\SC A (K+250+1) (tb::ts) bx w'):=fun tb W hW=>hW.sum A1 hl
 have C3:Hid (∀tb W,SC A (K+250+1) (tb::ts) bx W->Calls yP 37 #[pV (some ⟨tb,0,none⟩),sV (ai A1)] W fun e w'=>∃(v:yB) (c:Nat),e=rV (tV #[sV v,iV .i64 c])/\v.size<=160/\SC A (K+501) ts bx w'):=fun tb W hW=>(hW.get (.inr (QY ..)) _ (by rw[B3];decide)).mono fun _ _ ⟨v,c,h1,h2,h3⟩=>⟨v,c,h1,h2,h3.drop (fun _ ht=>QZ _ ht) fun _ hb=>hb⟩
 have C7:Hid (∀v W,v.size<=160->SC A (K+501) ts bx W->Calls yP 97 #[sV v] W fun e w'=>tF e/\SC A (K+501) ts bx w'):=fun v W hv hW=>(Bt W v (by unfold maxLen;omega)).mono fun _ _ ⟨⟨v,c,h1,h2,_⟩,h3⟩=>⟨⟨v,c,h1,h2⟩,hW.below h3⟩
 have A4:Hid (SC A (K+501) ts bx w):=h.mono (by omega);clear h h32 B3;unfold maxLen at hk hl;generalize ai addr=HA at*;generalize ai A1=HT at*;by_cases h20:addr.size=20
 ·have D1:(addr.size:Int)=20:=by omega
  by_cases D5:A1.size=32
  ·have D4:(A1.size:Int)=32:=by omega
   go_enter func55,ntmps55
   go_wp2_with fail
   refine B2.out.mono ?_;rintro e w1 ⟨rfl,B4⟩;have A8:Hid (SC A K ts bx w1):=B4;clear B4 B2 A4;go_wp2_with fail
   refine(A7.out _ A8.out).mono ?_;rintro e w2 ⟨⟨a,th,c,rfl,D3,hz⟩,B5⟩;obtain⟨n,A2,A0,A3⟩:=a;simp only at hz;have A5:Hid (SC A (K+250) ts bx (w2.alloc (.cells #[iV .i64 n,sV A2,sV A0,sV A3] 103))):=(B5.box #[iV .i64 n,sV A2,sV A0,sV A3] 103).unbox;have A6:Hid (SC A (K+501) ts bx (w2.alloc (.cells #[iV .i64 n,sV A2,sV A0,sV A3] 103))):=A5.out.mono (by omega);unfold cy;clear B5 D3 A7 A8;by_cases hc:c=0
   ·subst hc;have C1:=(hz rfl).1;clear hz;cases th with
    |false=>
     go_wp2_with fail
     go_ret2
     exact⟨⟨⟨#[]⟩,0,rfl,by decide⟩,A6.out⟩
    |true=>
     have B1:Hid (Calls yP 96 #[pV (some ⟨A.sp,0,none⟩),sV HA,sV A0] (w2.alloc (.cells #[iV .i64 n,sV A2,sV A0,sV A3] 103)) fun e w'=>∃tb,e=rV (pV (some ⟨tb,0,none⟩))/\SC A (K+250+1) (tb::ts) bx w'):=B0.out A0 _ C1 A5.out;clear B0 C1 A6;go_wp2_with fail
     refine B1.out.mono ?_;rintro e w3 ⟨tb,rfl,B6⟩;have C4:Hid (SC A (K+250+1) (tb::ts) bx w3):=B6;clear B6 B1 A5;go_wp2_with fail
     refine(C8.out _ _ C4.out).mono ?_;rintro e w4 ⟨rfl,B7⟩;have C5:Hid (SC A (K+250+1) (tb::ts) bx w4):=B7;clear B7;go_wp2_with fail
     refine(C3.out _ _ C5.out).mono ?_;rintro e w5 ⟨v,c,rfl,hv,B8⟩;have A9:Hid (SC A (K+501) ts bx w5):=B8;clear B8;by_cases C0:c=0
     ·subst C0;have C9:Hid (Calls yP 97 #[sV v] w5 fun e w'=>tF e/\SC A (K+501) ts bx w'):=C7.out v w5 hv A9.out;go_wp2_with fail
      refine C9.out.mono ?_;rintro e w6 ⟨⟨v6,c6,rfl,C2⟩,B9⟩;have C6:Hid (SC A (K+501) ts bx w6):=B9;have D0:Hid (v6.size<=maxLen):=C2;clear B9 C2;go_wp2_with fail
      go_ret2
      exact⟨⟨v6,c6,rfl,D0.out⟩,C6.out⟩
     ·have D2:((c:Int) != 0)=true:=by simp;omega
      clear C0;go_wp2_with fail
      go_ret2
      exact⟨⟨⟨#[]⟩,c,rfl,by decide⟩,A9.out⟩
   ·have D2:((c:Int) != 0)=true:=by simp;omega
    clear hc hz;go_wp2_with fail
    go_ret2
    exact⟨⟨⟨#[]⟩,c,rfl,by decide⟩,A6.out⟩
  ·have D4:¬(A1.size:Int)=32:=by omega
   go_enter func55,ntmps55
   go_wp2_with fail
   go_ret2
   exact⟨⟨⟨#[]⟩,2,rfl,by decide⟩,A4.out⟩
 ·have D1:¬(addr.size:Int)=20:=by omega
  go_enter func55,ntmps55
  go_wp2_with fail
  go_ret2
  exact⟨⟨⟨#[]⟩,2,rfl,by decide⟩,A4.out⟩
theorem GN{A K ts bx w}(h:SC A K ts bx w)(addr A4 v:yB)(hk:addr.size<=maxLen)(hl:A4.size<=maxLen)(hv:v.size<=maxLen)(hN:A.N+K+1500<4000000000):
 Calls yP 73 #[pV (some ⟨A.sp,0,none⟩),sV addr,sV A4,sV v] w fun e w'=>dc e/\SC A (K+1300) ts bx w':=by
 have h32:(ai addr).size=32:=eL _;have B7:(ai A4).size=32:=eL _;have B0:Hid (∀W,Calls yP 105 #[sV v] W fun e w'=>e=rV (bV (eY v))/\w'=W):=fun W=>sy v hv W
 have D1:Hid (Calls yP 24 #[sV addr] w fun e w'=>e=rV (sV (ai addr))/\SC A K ts bx w'):=h.sum addr hk;have C2:Hid (∀W,SC A K ts bx W->Calls yP 94 #[pV (some ⟨A.sp,0,none⟩),sV (ai addr)] W fun e w'=>jK e/\SC A (K+250) ts bx w'):=fun W hW=>tC hW _ (by rw[h32];decide)
 have D0:Hid (∀A0 W,SC A (K+250) ts A0 W->Calls yP 24 #[sV A4] W fun e w'=>e=rV (sV (ai A4))/\SC A (K+250) ts A0 w'):=fun A0 W hW=>hW.sum A4 hl
 have C4:Hid (∀A0 W,v.size<=32->SC A (K+250) ts A0 W->Calls yP 108 #[sV v] W fun e w'=>e=rV (sV (mu v))/\SC A (K+250) ts A0 w'):=fun A0 W h32 hW=>(Jt W v (by omega)).mono fun _ _ ⟨h1,h2⟩=>⟨h1,hW.below h2⟩
 have D8:(mu v).size<=4096:=zz _;have C6:Hid (∀A0 a' W,iX a'->a'.root.size=32->SC A (K+250) ts A0 W->Calls yP 107 #[pV (some ⟨A.sp,0,none⟩),sV (ai addr),cy a',sV (ai A4),sV (mu v)] W fun e w'=>dc e/\SC A (K+1300) ts A0 w'):=fun A0 a' W h1 h2 hW=>(OG hW _ (by rw[h32];decide) (by rw[h32];decide) a' h1 h2 _ _ (by rw[B7];decide) (by unfold maxLen;omega) (by omega)).mono fun _ _ ⟨h1,h2⟩=>⟨h1,h2.mono (by omega)⟩
 have C3:Hid (∀A0 a' W,iX a'->a'.root.size=32->SC A (K+250) ts A0 W->Calls yP 109 #[pV (some ⟨A.sp,0,none⟩),sV (ai addr),cy a',sV (ai A4)] W fun e w'=>dc e/\SC A (K+1300) ts A0 w'):=fun A0 a' W h1 h2 hW=>(Ps hW _ (by rw[h32];decide) (by rw[h32];decide) a' h1 h2 _ (by rw[B7];decide) (by omega)).mono fun _ _ ⟨h1,h2⟩=>⟨h1,h2.mono (by omega)⟩
 have B1:Hid (SC A (K+1300) ts bx w):=h.mono (by omega);have B5:Hid (eY v=true->v.size<=32):=yV;clear h h32 B7 D8;unfold maxLen at hk hl hv;generalize ai addr=HA at*;generalize ai A4=HT at*;generalize mu v=CB at*;by_cases h20:addr.size=20
 ·have D7:(addr.size:Int)=20:=by omega
  by_cases E1:A4.size=32
  ·have D9:(A4.size:Int)=32:=by omega
   cases hnb:eY v with
   |false=>
    rw[hnb] at B0;clear hnb B5;go_enter func73,ntmps73
    go_wp2_with fail
    refine(B0.out _).mono ?_;rintro e wx ⟨rfl,C1⟩;subst C1;go_wp2_with fail
    go_ret
    exact⟨⟨3,rfl⟩,B1.out⟩
   |true=>
    rw[hnb] at B0;have D4:=B5.out hnb;have D6:Hid (v.size<=32):=D4;clear hnb B5 D4;go_enter func73,ntmps73
    go_wp2_with fail
    refine(B0.out _).mono ?_;rintro e wx ⟨rfl,C1⟩;subst C1;go_wp2_with fail
    refine D1.out.mono ?_;rintro e w1 ⟨rfl,D2⟩;have C8:Hid (SC A K ts bx w1):=D2;clear D2 D1 B1 B0;go_wp2_with fail
    refine(C2.out _ C8.out).mono ?_;rintro e w2 ⟨⟨a,th,c,rfl,B9,hz⟩,D3⟩;have B4:Hid (c=0->∀A0 W,SC A (K+250) ts A0 W->Calls yP 107 #[pV (some ⟨A.sp,0,none⟩),sV HA,cy a,sV HT,sV CB] W fun e w'=>dc e/\SC A (K+1300) ts A0 w'):=fun h0 A0 W hW=>C6.out A0 a W B9 (hz h0).1 hW
    have B3:Hid (c=0->∀A0 W,SC A (K+250) ts A0 W->Calls yP 109 #[pV (some ⟨A.sp,0,none⟩),sV HA,cy a,sV HT] W fun e w'=>dc e/\SC A (K+1300) ts A0 w'):=fun h0 A0 W hW=>C3.out A0 a W B9 (hz h0).1 hW
    obtain⟨n,A1,A3,A2⟩:=a;have A9:=D3.box #[iV .i64 n,sV A1,sV A3,sV A2] 103;obtain⟨W3,A7⟩:=yX (w2.alloc (.cells #[iV .i64 n,sV A1,sV A3,sV A2] 103))
    rw[<-A7] at A9;have C9:Hid (SC A (K+250) ts ((w2.heap.size,.cells #[iV .i64 n,sV A1,sV A3,sV A2] 103 (0,0))::bx) W3):=A9;have B2:Hid (SC A (K+1300) ts bx W3):=A9.unbox.mono (by omega);have A8:Hid (SC A (K+250) ts ((w2.heap.size,.cells #[iV .i64 n,sV A1,sV A3,sV A2] 103 (0,0))::bx) W3.drew):=A9.drew;obtain⟨⟨k0,k1,k2,k3⟩,_⟩:=A9.iu;unfold cy at B4 B3⊢;clear D3 A9 B9 hz C2 C8 C6 C3;by_cases hc:c=0
    ·subst hc;have C7:Hid (∀A0 W,SC A (K+250) ts A0 W->Calls yP 107 #[pV (some ⟨A.sp,0,none⟩),sV HA,gV #[iV .i64 n,sV A1,sV A3,sV A2],sV HT,sV CB] W fun e w'=>dc e/\SC A (K+1300) ts A0 w'):=B4.out rfl;have C5:Hid (∀A0 W,SC A (K+250) ts A0 W->Calls yP 109 #[pV (some ⟨A.sp,0,none⟩),sV HA,gV #[iV .i64 n,sV A1,sV A3,sV A2],sV HT] W fun e w'=>dc e/\SC A (K+1300) ts A0 w'):=B3.out rfl;clear B4 B3;by_cases C0:v.size=0
     ·have hE:v.toList.isEmpty=true:=by rw[gH];exact C0
      cases th with
      |false=>
       go_wp2_with fail
       go_ret
       (try rw[<-A7])
       exact⟨⟨0,rfl⟩,B2.out⟩
      |true=>
       go_upto_region 13 with fail
       rw[<-A7];clear A7 B2 C9 C7 C4;go_region_held3 (fun w'=>w'.cell? ⟨w2.heap.size,0,none⟩=some (iV .i64 n)/\w'.cell? ⟨w2.heap.size,1,none⟩=some (sV A1)/\w'.cell? ⟨w2.heap.size,2,none⟩=some (sV A3)/\w'.cell? ⟨w2.heap.size,3,none⟩=some (sV A2)) (go_keep) (first| (go_at_call 24;refine(D0.out _ _ A8.out).mono ?_;rintro e wa ⟨rfl,A5⟩;obtain⟨⟨n0,n1,n2,n3⟩,_⟩:=A5.iu;have D5:Hid (SC A (K+250) ts ((w2.heap.size,.cells #[iV .i64 n,sV A1,sV A3,sV A2] 103 (0,0))::bx) wa):=A5;clear A5) | (go_at_call 109;refine(C5.out _ _ D5.out).mono ?_;rintro e wb ⟨⟨cb,rfl⟩,A6⟩;obtain⟨⟨p0,p1,p2,p3⟩,_⟩:=A6.iu;have B6:Hid (SC A (K+1300) ts ((w2.heap.size,.cells #[iV .i64 n,sV A1,sV A3,sV A2] 103 (0,0))::bx) wb):=A6;clear A6))
       all_goals
        go_wp2_with fail
        go_ret
        exact⟨⟨cb,rfl⟩,B6.out.unbox⟩
     ·have hE:v.toList.isEmpty=false:=by rw[gT];exact C0
      clear C0;go_upto_region 10 with fail
      rw[<-A7];clear A7 B2 C9 C5;go_region_held3 (fun w'=>w'.cell? ⟨w2.heap.size,0,none⟩=some (iV .i64 n)/\w'.cell? ⟨w2.heap.size,1,none⟩=some (sV A1)/\w'.cell? ⟨w2.heap.size,2,none⟩=some (sV A3)/\w'.cell? ⟨w2.heap.size,3,none⟩=some (sV A2)) (go_keep) (first| (go_at_call 24;refine(D0.out _ _ A8.out).mono ?_;rintro e wa ⟨rfl,A5⟩;obtain⟨⟨n0,n1,n2,n3⟩,_⟩:=A5.iu;have A8:Hid (SC A (K+250) ts ((w2.heap.size,.cells #[iV .i64 n,sV A1,sV A3,sV A2] 103 (0,0))::bx) wa):=A5;clear A5) | (go_at_call 108;refine(C4.out _ _ D6.out A8.out).mono ?_;rintro e wd ⟨rfl,B8⟩;obtain⟨⟨q0,q1,q2,q3⟩,_⟩:=B8.iu;have A8:Hid (SC A (K+250) ts ((w2.heap.size,.cells #[iV .i64 n,sV A1,sV A3,sV A2] 103 (0,0))::bx) wd):=B8;clear B8) | (go_at_call 107;refine(C7.out _ _ A8.out).mono ?_;rintro e wb ⟨⟨cb,rfl⟩,A6⟩;obtain⟨⟨p0,p1,p2,p3⟩,_⟩:=A6.iu;have B6:Hid (SC A (K+1300) ts ((w2.heap.size,.cells #[iV .i64 n,sV A1,sV A3,sV A2] 103 (0,0))::bx) wb):=A6;clear A6))
      all_goals
       go_wp2_with fail
       go_ret
       exact⟨⟨cb,rfl⟩,B6.out.unbox⟩
    ·have E0:((c:Int) != 0)=true:=by simp;omega
     clear hc;go_wp2_with fail
     go_ret
     (try rw[<-A7])
     exact⟨⟨c,rfl⟩,B2.out⟩
  ·have D9:¬(A4.size:Int)=32:=by omega
   go_enter func73,ntmps73
   go_wp2_with fail
   go_ret
   exact⟨⟨2,rfl⟩,B1.out⟩
 ·have D7:¬(addr.size:Int)=20:=by omega
  go_enter func73,ntmps73
  go_wp2_with fail
  go_ret
  exact⟨⟨2,rfl⟩,B1.out⟩
end Go.Proofs.YtiimkkahmpmhdaaGreatDoor
