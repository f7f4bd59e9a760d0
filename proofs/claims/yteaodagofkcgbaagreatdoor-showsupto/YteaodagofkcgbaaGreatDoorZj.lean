import Derived.Test.YteaodagofkcgbaaGreatDoorZi
open Go.Proofs.Tryz
open Go.Proofs.Tryz renaming prog→yP
open Go.Value renaming string→sV,pointer→pV,int→iV,slice→lV,bool→bV,tuple→tV,agg→gV
open Go.Ending renaming returned→rV
namespace Go.Proofs.YteaodagofkcgbaaGreatDoor
open Go.RowKit
set_option maxRecDepth 100000
set_option maxHeartbeats 0
set_option linter.all false
def oI(w0:World)(v:Value)(cs:List yB)(W:World):Prop:=W.ownsRow w0.heap.size 9 1 v cs.length (cs.map Value.string)/\yW w0 W
def oI.nil(w0):oI w0 (lV none 0 0) [] w0:=⟨U8 _ _ _ _,Un _ _⟩
def oI.alloc{w0 v cs W}(h:oI w0 v cs W)(o:Obj):oI w0 v cs (W.alloc o):=⟨h.1.alloc _,h.2.alloc h.2.size _⟩
def oI.append{w0 v cs W}(h:oI w0 v cs W)(b:Nat)(c)(q:List yB)(g:dE b W c q)(h63:cs.length+q.length<=4200000000000):∃a' a w',(Builtin.append_ #[63,63] 63 #[v,c]).run yP W=.ok (lV a' (cs++q).length a) w'/\oI w0 (lV a' (cs++q).length a) (cs++q) w':=by
 let⟨j,w',i,d,e,_⟩:=uR W w0.heap.size v cs h.1 b c q g h63 h.2.size;obtain⟨a',a,rfl,_⟩:=dM d;exact⟨a',a,w',i,d,h.2.grown e h.2.size λk f=>(h.1.lt k f).1⟩
structure xU where
 a1:Option Addr
 c1:Nat
 ps:List yB
 a2:Option Addr
 c2:Nat
 qs:List yB
 a3:Option Addr
 c3:Nat
 os:List yB
def td(W:World)(n:Nat)(x:Int)(b r c:yB):Prop:=W.heap[n]? =some (.cells #[iV .i64 x,sV b,sV r,sV c] 103 (0,0))
def td.below{W a n}{x:Int}{b r c}(h:td W n x b r c)(d:yW W a):td a n x b r c:=(d.block n (Um.1 h).1).trans h
def td.cells{W n}{x:Int}{b r c}(h:td W n x b r c):n<W.heap.size/\W.cell? ⟨n,0,none⟩=some (i6 x)/\W.cell? ⟨n,1,none⟩=some (sV b)/\W.cell? ⟨n,3,none⟩=some (sV c):=
 ⟨(Um.1 h).1,by rw[Ur W _ 0 _ _ _ h];rfl,by rw[Ur W _ 1 _ _ _ h];rfl,by rw[Ur W _ 3 _ _ _ h];rfl⟩
def Wl(G:Prop)(v:Value):Prop:=∃b:Bool,v=bV b/\(G->b=true)
def Wn(a b:List yB):List yB:=[]++[bf]++a++b
def Wp(c:Bool)(a b:List yB):Prop:=c=false/\bY (Wn a b) (Wn a b).length=false
def Mo(w:World)(rb C:Nat)(am:Option Addr)(N cm:Nat)(addr slot:yB)(E:World->Prop)(X Y:xU->World->Prop)(h:aH)(p k:Bool)(D:yB)(u:List yB->List yB->yB->Prop)(L:List yB->yB->Int->yB->yB->Bool->Nat->Prop)(P:List yB->List yB->yB->yB->Nat->Prop)(H5:yH (w.cell? ⟨rb,1,none⟩=some (pV (qA C))/\rb<w.heap.size))(A4:yH (∀W,E W->W.cell? ⟨rb,1,none⟩=some (pV (qA C))/\W.cell? ⟨rb,2,none⟩=some (lV am N cm)/\rb<W.heap.size))(C4:yH (∀W o,E W->yW W o->E o))(K6:yH (∀s W o,Y s W->yW W o->Y s o))(M1:yH (∀s W,X s W->E W)) (C8:yH (∀s W,Y s W->E W))(K7:yH (∀s W,Y s W->oM W s.a1 s.ps/\oM W s.a3 s.os/\(∃b,dE b W (lV s.a1 s.ps.length s.c1) s.ps)/\(∃b,dE b W (lV s.a2 s.qs.length s.c2) s.qs)/\fh 81 s.ps/\fh 81 s.qs))(G6:yH (yC 60 #[pV (qA C),sV addr,sV slot] w λe w'=>∃(s:xU)(c:Nat),e=rV (tV #[lV s.a1 s.ps.length s.c1,lV s.a2 s.qs.length s.c2,i6 c])/\(addr.size≠20->c=2)/\(addr.size=20->c≠0->k=true)/\(addr.size=20->c=0->X s w')/\E w'))(G5:yH (∀s W,X s W->yC 59 #[pV (qA C),sV addr] W λe w'=>∃(a3:Option Addr)(c3:Nat)(os:List yB)(c:Nat),e=rV (tV #[lV a3 os.length c3,i6 c])/\(c=0/\os=s.ps)/\Y {s with a3:=a3,c3:=c3,os:=os} w'))
 (G4:yH (∀s W,Y s W->yC 55 #[pV (qA C)] W λe w'=>(∃r:yB,e=rV (sV r)/\u s.ps s.qs r)/\yW W w'))
 (G3:yH (∀s W,Y s W->yC 52 #[lV am N cm,sV addr] W λe w'=>e=rV (tV #[gV #[sV h.addr,i6 h.n,sV h.aI,sV h.code,lV h.sa h.az.length h.sc],bV p])/\yW W w'))
 (G7:yH (∀s W r,Y s W->yC 61 #[sV r,sV addr,lV s.a1 s.ps.length s.c1] W λe w'=>(∃(x:Int)(b S c:yB)(i:Bool)(f:Nat),e=rV (tV #[gV #[i6 x,sV b,sV S,sV c],bV i,i6 f])/\L s.ps r x b c i f)/\yW W w'))
 (G8:yH (∀s W r,Y s W->yC 62 #[sV r,sV addr,sV slot,lV s.a1 s.ps.length s.c1,lV s.a2 s.qs.length s.c2] W λe w'=>(∃(x:yB)(c:Nat),e=rV (tV #[sV x,i6 c])/\P s.ps s.qs r x c)/\yW W w'))
 (G1:yH (∀s W,Y s W->yC 35 #[lV h.sa h.az.length h.sc,sV slot] W λe w'=>e=rV (sV D)/\w'=W))
 (G9:yH (∀s W r,Y s W->u s.ps s.qs r->yC 63 #[sV r,gV #[sV h.addr,i6 h.n,sV h.aI,sV h.code,lV h.sa h.az.length h.sc],bV p,sV slot,lV s.a1 s.ps.length s.c1,lV s.a2 s.qs.length s.c2] W λe w'=>kS (λb=>Wp k s.ps s.qs->b=true) e/\yW W w'))
 (G2:yH (∀s W v cs b,Y s W->dE b W v cs->fh 200 cs->yC 45 #[v] W λe w'=>e=rV (bV (bY cs cs.length))/\yW W w'))
 (C3:yH (∀W,E W->yC 53 #[pV (qA rb)] W λe w'=>e=rV (bV k)/\yW W w'))
 (J2:yH (∀a d r x b c i f,Wp k a d->u a d r->L a r x b c i f->f=0/\i=p/\x=h.n/\b=h.aI/\c=h.code)) (J5:yH (∀a d r x c,Wp k a d->u a d r->P a d r x c->c=0/\x=D)):
 yC 27 #[pV (qA rb),sV addr,sV slot] w λe w'=>e=rV (bV true)/\yH (E w'):=by
 obtain⟨d1,B⟩:=H5.o;go_enter func27,ntmps27
 go_wp2_with fail
 apply G6.m;rintro e w1⟨s,f,rfl,E1,E3,D4,D3⟩;have K4:=aa D4;have U:=aa D3;have I5:=aa E1;have I7:=aa E3;obtain⟨a1,c1,a,a2,c2,d,_,_,_⟩:=s;clear D4 D3 E1 E3 d1 B;obtain⟨r1,r2,B⟩:=A4.o _ U.o;by_cases h20:addr.size=20
 .have L0:(addr.size:Int)=20:=by omega
  by_cases B9:f=0
  .subst B9;have C2:=G5.o _ _ (K4.o h20 rfl);clear h20;have I1:=aa C2;clear C2;go_wp2_with fail
   apply I1.m;rintro e w2⟨a3,c3,os,f,rfl,⟨K9,C0⟩,B2⟩;have J8:=aa C0;have K5:=aa B2;have L9:=aa (C8.o _ _ B2);clear B2 r1 r2 B;have E7:os.length=a.length:=by rw[C0]
   clear C0;subst K9;have C5:=aa E7;have M4:((os.length:Int) != (a.length:Int))=false:=by simp;omega
   clear E7;obtain⟨Z,l⟩:=yX (Y ⟨a1,c1,a,a2,c2,d,a3,c3,os⟩);have m:yH (∀W o,Z W->yW W o->Z o):=by rw[l];exact λW o=>K6.o _ W o
   have M:yH (∀W,Z W->E W):=by rw[l];exact λW=>C8.o _ W
   have GT:yH (∀W,Z W->oM W a1 a/\oM W a3 os/\(∃b,dE b W (lV a1 a.length c1) a)/\(∃b,dE b W (lV a2 d.length c2) d)/\fh 81 a/\fh 81 d):=by rw[l];exact λW=>K7.o _ W
   have F7:yH (∀W,Z W->yC 55 #[pV (qA C)] W λe w'=>(∃r:yB,e=rV (sV r)/\u a d r)/\yW W w'):=by rw[l];exact λW=>G4.o _ W
   have F6:yH (∀W,Z W->yC 52 #[lV am N cm,sV addr] W λe w'=>e=rV (tV #[gV #[sV h.addr,i6 h.n,sV h.aI,sV h.code,lV h.sa h.az.length h.sc],bV p])/\yW W w'):=by rw[l];exact λW=>G3.o _ W
   have F8:yH (∀W r,Z W->yC 61 #[sV r,sV addr,lV a1 a.length c1] W λe w'=>(∃(x:Int)(b S c:yB)(i:Bool)(f:Nat),e=rV (tV #[gV #[i6 x,sV b,sV S,sV c],bV i,i6 f])/\L a r x b c i f)/\yW W w'):=by rw[l];exact λW r=>G7.o _ W r
   have F9:yH (∀W r,Z W->yC 62 #[sV r,sV addr,sV slot,lV a1 a.length c1,lV a2 d.length c2] W λe w'=>(∃(x:yB)(c:Nat),e=rV (tV #[sV x,i6 c])/\P a d r x c)/\yW W w'):=by rw[l];exact λW r=>G8.o _ W r
   have F4:yH (∀W,Z W->yC 35 #[lV h.sa h.az.length h.sc,sV slot] W λe w'=>e=rV (sV D)/\w'=W):=by rw[l];exact λW=>G1.o _ W
   have G0:yH (∀W r,Z W->u a d r->yC 63 #[sV r,gV #[sV h.addr,i6 h.n,sV h.aI,sV h.code,lV h.sa h.az.length h.sc],bV p,sV slot,lV a1 a.length c1,lV a2 d.length c2] W λe w'=>kS (λb=>Wp k a d->b=true) e/\yW W w'):=by rw[l];exact λW r=>G9.o _ W r
   have F5:yH (∀W v cs b,Z W->dE b W v cs->fh 200 cs->yC 45 #[v] W λe w'=>e=rV (bV (bY cs cs.length))/\yW W w'):=by rw[l];exact λW v cs b=>G2.o _ W v cs b
   have C9:yH (Z w2):=by rw[l];exact K5
   clear l;obtain⟨_,_,_,_,I,E8⟩:=GT.o _ C9.o;have A6:=aa I;have C7:=aa E8;have M6:=I.1;have M5:os.length<=81:=by have:=C5.o;omega
   clear I E8;have J3:yH (∀r x b c i f,Wp k a d->u a d r->L a r x b c i f->f=0/\i=p/\x=h.n/\b=h.aI/\c=h.code):=λr x b c i f=>J2.o a d r x b c i f
   have J6:yH (∀r x c,Wp k a d->u a d r->P a d r x c->c=0/\x=D):=λr x c=>J5.o a d r x c
   have J4:yH (k=true\/bY (Wn a d) (Wn a d).length=true\/Wp k a d):=by
    cases hm:k with
    |true=>exact .inl rfl
    |false=>
     cases hc:bY (Wn a d) (Wn a d).length with
     |true=>exact .inr (.inl rfl)
     |false=>exact .inr (.inr ⟨rfl,hc⟩)
   generalize hGS:Wp k a d=GS at*;clear hGS;generalize u a d=TP at*;generalize L a=AP at*;generalize P a d=SP at*;generalize hPL:a.length=t at*;generalize hOL:os.length=OL at*;have J9:=aa hPL;have J7:=aa hOL;clear hPL hOL;go_wp2;go_loopg [11] t (λg r wr=>∃j:Nat,g=t - j/\j<=t/\r=i6 j/\yH (Z wr))
   .exact⟨0,rfl,by omega,rfl,C9⟩
   obtain⟨j,hg,hj,rfl,A⟩:=hrel;have HG:=aa hg;clear hg;generalize gk=GK at*;by_cases L6:j<t
   .have L5:(j:Int)<(t:Int):=by omega
    have M3:(j:Int)<(OL:Int):=by have:=C5.o;omega
    have E6:j<OL:=by omega
    obtain⟨t1,t3,_⟩:=GT.o _ A.o;obtain⟨x,hx⟩:∃x,a[j]? =some x:=⟨_,Uh (by rw[J9.o];exact L6)⟩
    obtain⟨y,hy⟩:∃y,os[j]? =some y:=⟨_,Uh (by rw[J7.o];exact E6)⟩
    obtain⟨g1,rfl,L1,k1⟩:=t1 j x hx;obtain⟨g3,rfl,L4,k3⟩:=t3 j y hy;have L8:y=x:=by rw[J8.o,hx] at hy;exact(Option.some.inj hy).symm
    subst L8;clear hx hy t1 t3 E6;have B1:=aa (m.o _ _ A.o (ig (Un _ _) 1));go_upto_region 12 with fail
    go_cut [76] from 62 to 76 (λv T=>Wj True v/\∃n,T=wr.drewN n)
    .go_region
     all_goals
      go_wp2;go_meet;exact⟨⟨_,rfl,λ_=>by simp⟩,_,rfl⟩
    obtain⟨⟨cb,rfl,A3⟩,nd,rfl⟩:=hcut;obtain rfl:=A3 trivial;have D2:=aa (m.o _ _ A.o (ig (Un _ _) nd));have M0:=aa (M.o _ D2.o);clear A k1 k3 L1 L4;generalize wr.drewN nd=W3 at*;go_wp2;go_roundg (t - (j+1))
    .exact⟨j+1,rfl,by omega,by go_num,D2⟩
    have:=HG.o;omega
   obtain rfl:j=t:=by omega
   have L5:¬(j:Int)<(j:Int):=by omega
   obtain⟨r1,r2,B⟩:=A4.o _ (M.o _ A.o);have C1:=F7.o _ A.o;have I0:=aa C1;clear C1;go_wp2_with fail
   apply I0.m;rintro e w3⟨⟨J,rfl,F1⟩,D8⟩;have A7:=aa F1;clear F1;have A8:=aa (m.o _ _ A.o D8);clear D8 A r1 r2 B;obtain⟨r1,r2,B⟩:=A4.o _ (M.o _ A8.o);have H8:=aa (F6.o _ A8.o);go_wp2_with fail
   apply H8.m;rintro e w4⟨rfl,D9⟩;obtain⟨G,A0⟩:=yX (w4.alloc (.cells #[sV h.addr,i6 h.n,sV h.aI,sV h.code,lV h.sa h.az.length h.sc] 107));have H2:yH (pN G w4.heap.size h):=by rw[A0];exact UG w4 _
   have D0:yH (Z G):=m.o _ _ (m.o _ _ A8.o D9) (by rw[A0];exact(Un _ _).alloc (Ug _) _);have I2:yH (yC 61 #[sV J,sV addr,lV a1 j c1] G λe w'=>(∃(x:Int)(b S c:yB)(i:Bool)(f:Nat),e=rV (tV #[gV #[i6 x,sV b,sV S,sV c],bV i,i6 f])/\AP J x b c i f)/\yW G w'):=F8.o _ _ D0.o;clear D9 r1 r2 B;go_wp2_with fail
   rw[<-A0];clear A0;generalize w4.heap.size=nh at*;apply I2.m;rintro e w6⟨⟨R,Q,ar,V,i,f,rfl,D5⟩,B3⟩;have O:yH (GS->f=0/\i=p/\R=h.n/\Q=h.aI/\V=h.code):=λg=>J3.o _ _ _ _ _ _ g A7.o D5
   clear D5;have K8:=aa (m.o _ _ D0.o B3);obtain⟨z,A1⟩:=yX (w6.alloc (.cells #[i6 R,sV Q,sV ar,sV V] 103));have B4:yW w6 z:=by rw[A1];exact(Un _ _).alloc (Ug _) _
   have H0:yH (td z w6.heap.size R Q ar V):=by rw[A1];exact UG w6 _
   have H3:=aa ((H2.o.below B3).below B4);have D1:=aa (m.o _ _ K8.o B4);have I3:yH (yC 62 #[sV J,sV addr,sV slot,lV a1 j c1,lV a2 d.length c2] z λe w'=>(∃(x:yB)(c:Nat),e=rV (tV #[sV x,i6 c])/\SP J x c)/\yW z w'):=F9.o _ _ D1.o;clear B3 B4;go_wp2_with fail
   rw[<-A1];clear A1;generalize w6.heap.size=na at*;apply I3.m;rintro e w8⟨⟨vx,vf,rfl,E9⟩,A2⟩;have C6:yH (GS->vf=0/\vx=D):=λg=>J6.o _ _ _ g A7.o E9
   clear E9;have A9:=aa (m.o _ _ D1.o A2);have H1:yH (td w8 na R Q ar V):=H0.o.below A2;have H4:=aa (H3.o.below A2);clear A2;obtain⟨n8,e0,e1,e2,e3,e4⟩:=H4.o.cells;obtain⟨m8,f0,f1,f3⟩:=H1.o.cells;have H6:=aa (F4.o _ A9.o);go_wp2_with fail
   apply H6.m;rintro e wz⟨rfl,L7⟩;subst L7;go_upto_region 19 with fail
   go_cut [20] (λv T=>Wl GS v/\T=wz)
   .cases hq1:(i == p) with
    |false=>go_wp2;go_meet;exact⟨⟨_,rfl,λg=>by have:=O.o g;simp_all⟩,rfl⟩
    |true=>
     cases hq2:(R == h.n) with
     |false=>go_wp2;go_meet;exact⟨⟨_,rfl,λg=>by have:=O.o g;simp_all⟩,rfl⟩
     |true=>
      cases hq3:(Q.toList == h.aI.toList) with
      |false=>go_wp2;go_meet;exact⟨⟨_,rfl,λg=>by have:=O.o g;simp_all⟩,rfl⟩
      |true=>go_wp2;go_meet;exact⟨⟨_,rfl,λg=>by have:=O.o g;simp_all⟩,rfl⟩
   obtain⟨⟨sm,rfl,I⟩,rfl⟩:=hcut;have K3:=aa I;clear I;have I4:=aa (G0.o _ _ A9.o A7.o);clear f0 f1 f3 m8;go_wp2_with fail
   apply I4.m;rintro e w9⟨⟨tb,rfl,F0⟩,E0⟩;have F:yH (GS->f=0/\vf=0/\sm=true/\(vx.toList == D.toList)=true/\tb=true):=λg=>⟨(O.o g).1,(C6.o g).1,K3.o g,by rw[(C6.o g).2];simp,F0 g⟩
   clear F0;have B0:=aa (m.o _ _ A9.o E0);clear E0 e0 e1 e2 e3 e4 n8;go_upto_region 21 with fail
   go_cut [159] (λv T=>Wl GS v/\T=w9)
   .by_cases B6:f=0
    .subst B6;by_cases B7:vf=0
     .subst B7;cases sm with
      |false=>go_wp2;go_meet;exact⟨⟨_,rfl,λg=>by first|exact(H.o g).elim| (have:=F.o g;simp_all)⟩,rfl⟩
      |true=>
       cases hq3:(vx.toList == D.toList) with
       |false=>go_wp2;go_meet;exact⟨⟨_,rfl,λg=>by first|exact(H.o g).elim| (have:=F.o g;simp_all)⟩,rfl⟩
       |true=>go_wp2;go_meet;exact⟨⟨_,rfl,λg=>by first|exact(H.o g).elim| (have:=F.o g;simp_all)⟩,rfl⟩
     have E2:((vf:Int) == 0)=false:=by simp;omega
     have H:yH (¬GS):=λg=>B7 (F.o g).2.1
     clear B7;go_wp2;go_meet;exact⟨⟨_,rfl,λg=>by first|exact(H.o g).elim| (have:=F.o g;simp_all)⟩,rfl⟩
    have E2:((f:Int) == 0)=false:=by simp;omega
    have H:yH (¬GS):=λg=>B6 (F.o g).1
    clear B6;go_wp2;go_meet;exact⟨⟨_,rfl,λg=>by first|exact(H.o g).elim| (have:=F.o g;simp_all)⟩,rfl⟩
   obtain⟨⟨cb,rfl,A3⟩,rfl⟩:=hcut;have I6:=aa A3;clear A3;have J0:=aa (M.o _ B0.o);cases cb with
   |true=>go_wp2;go_ret;exact⟨rfl,J0⟩
   |false=>
    obtain⟨_,_,⟨bp,E4⟩,⟨bq,E5⟩,_,_⟩:=GT.o _ B0.o;obtain⟨x1,y1,wa,ra,ha⟩:=((oI.nil wc).alloc (.cells #[sV bf] 9)).append 0 (lV (qA wc.heap.size) 1 1) [bf] (dE.one wc bf) (by simp);obtain⟨x2,y2,wb,F2,B5⟩:=ha.append _ _ _ (E4.below ha.2) (by have:=A6.o.1;simp;omega);obtain⟨x3,y3,K,rd,B8⟩:=B5.append _ _ _ (E5.below B5.2) (by have:=A6.o.1;have:=C7.o.1;simp;omega);have K0:=aa ra;have K1:=aa F2;have K2:=aa rd;have B1:=aa (m.o _ _ B0.o B8.2);have H7:yH (yC 45 #[lV x3 ([]++[bf]++a++d).length y3] K λe w'=>e=rV (bV (bY (Wn a d) (Wn a d).length))/\yW K w'):=F5.o _ _ _ _ B1.o (nS B8.1) (((((fh.one (x:=bf) (by decide)).append A6.o).append C7.o)).mono (by omega));have J1:yH (k=true\/bY (Wn a d) (Wn a d).length=true):=J4.o.imp_right λq=>q.resolve_right λg=>by have:=I6.o g;cases this
    clear ra F2 rd ha B5 B8 E4 E5;generalize bY (Wn a d) (Wn a d).length=CK at*;generalize ([]++[bf]++a++d).length=L3 at*;generalize ([]++[bf]++a).length=L2 at*;go_wp2_with (at_builtin;first| (refine jN rfl (.tmp 160) (.tmp 161) 63 rfl _ _ (lV x1 1 y1) wa rfl rfl K0.o ?_) | (refine jN rfl (.tmp 163) (.tmp 164) 63 rfl _ _ (lV x2 L2 y2) wb rfl rfl K1.o ?_) | (refine jN rfl (.tmp 166) (.tmp 167) 63 rfl _ _ (lV x3 L3 y3) K rfl rfl K2.o ?_))
    apply H7.m;rintro e w10⟨rfl,D6⟩;have A5:=aa (M.o _ (m.o _ _ B1.o D6));have H9:=aa (C3.o _ A5.o);clear D6;cases CK with
    |true=>go_wp2;go_ret;exact⟨rfl,A5⟩
    |false=>
     obtain rfl:k=true:=J1.o.resolve_right (by decide);go_wp2_with fail
     apply H9.m;rintro e w11⟨rfl,D7⟩;have I8:=aa (C4.o _ _ A5.o D7);clear D7;go_wp2;go_ret;exact⟨rfl,I8⟩
  have E2:((f:Int) != 0)=true:=by simp;omega
  have F3:=aa (C3.o _ U.o);obtain rfl:=I7.o h20 B9;clear B9 h20;go_wp2_with fail
  apply F3.m;rintro e w3⟨rfl,hb⟩;have I9:=aa (C4.o _ _ U.o hb);clear hb r1 r2 B;go_wp2;go_ret;exact⟨rfl,I9⟩
 have L0:¬(addr.size:Int)=20:=by omega
 have M2:((addr.size:Int) != 20)=true:=by simp;omega
 obtain rfl:=I5.o h20;clear h20;go_wp2;go_ret;exact⟨rfl,U⟩
end Go.Proofs.YteaodagofkcgbaaGreatDoor
