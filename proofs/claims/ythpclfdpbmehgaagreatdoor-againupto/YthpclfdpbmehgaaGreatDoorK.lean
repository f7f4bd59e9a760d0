import Derived.Test.YthpclfdpbmehgaaGreatDoorJ
open Go.Proofs.Tryz
open Go.Proofs.Tryz renaming prog→yP
open Go.Value renaming string→sV,pointer→pV,int→iV,slice→lV,bool→bV,tuple→tV,agg→gV
open Go.Ending renaming returned→rV
namespace Go.Proofs.YthpclfdpbmehgaaGreatDoor
open Go.RowKit
set_option maxRecDepth 100000
set_option maxHeartbeats 0
set_option linter.all false
def Q7:(yP.info? 126).map (fun i=>(i.zero,i.size,i.bytes))=some (some (gV #[sV ⟨#[]⟩,pV none]),2,24):=by kernel_rfl
def JN(P:Nat->World->Prop)(w:World)(b sb f:Nat)(d:Nat->Value)(a:Nat->List bH)(c:Nat)(h:yB)(e:Ending)(w':World):Prop:=
 (fV (a c) h=true/\∃p q,(a c)[dt (a c) h]? =some (q,p)/\e=rV (pV p)/\w'.heap=w.heap/\w'.os=w.os/\w'.tape=w.tape/\w'.output=w.output)\/
 (fV (a c) h=false/\∃tb v' w1,e=rV (pV (qA tb))/\P tb w1/\yW w w1/\aU (fun k=>k=b\/(d c).ownBlock=some k) w1 w'/\cX 3 w' b sb f (bd d c v') (aS a c ((a c).take (dt (a c) h)++[(h,some ⟨tb,0,none⟩)]++(a c).drop (dt (a c) h)))/\jY w1 (d c) v')
def Mf(P:Nat->World->Prop)(w)(b sb tw:Nat)(vs)(sh:Nat->List bH)(S:cX 3 w b sb tw vs sh)(h A9:yB)(hs:0<h.size)(hn:(sh (h[0]'hs).toNat).length<4000000000000)(h3:3<=w.heap.size)
 (D7:yH (∀W,W.heap=w.heap->W.os=w.os->W.tape=w.tape->W.output=w.output->yC 17 #[.pointer (some ⟨sb,0,none⟩),.string A9] W fun e w'=>∃tb,e=.returned (.tuple #[.pointer (some ⟨tb,0,none⟩),.int .i64 0])/\P tb w'/\Below w.heap.size w w')):
 yC 125 #[.pointer (some ⟨b,0,none⟩),.string h,.string A9] w (JN P w b sb tw vs sh (h[0]'hs).toNat h):=by
 have hc:(h[0]'hs).toNat<256:=(h[0]'hs).toNat_lt;obtain⟨a,cap,F0,SH⟩:=S.lK _ hc;have D1:yH (yC 66 #[.pointer (some ⟨b,0,none⟩),.string h] w fun e w'=>e=.returned (.tuple #[.int .i64 (dt (sh (h[0]'hs).toNat) h),.bool (fV (sh (h[0]'hs).toNat) h)])/\∃n,w'=w.drewN n):=DC w b h hs a cap _ SH (by omega);have C3:=zx (sh (h[0]'hs).toNat) h;have D2:yH (fV (sh (h[0]'hs).toNat) h=true->dt (sh (h[0]'hs).toNat) h<(sh (h[0]'hs).toNat).length):=Hf;have HS:yH (cX 3 w b sb tw vs sh):=S;have G4:(0:Int)<(h.size:Int):=by omega
 obtain⟨R,hR⟩:=yX (JN P w b sb tw vs sh (h[0]'hs).toNat h)
 have E3:yH (fV (sh (h[0]'hs).toNat) h=true->∀p q W,(sh (h[0]'hs).toNat)[dt (sh (h[0]'hs).toNat) h]? =some (q,p)->W.heap=w.heap->W.os=w.os->W.tape=w.tape->W.output=w.output->R (.returned (.pointer p)) W):=fun h0 p q W h1 h2 h3 h4 h5=>by rw[hR];exact .inl ⟨h0,p,q,h1,rfl,h2,h3,h4,h5⟩
 have E4:yH (fV (sh (h[0]'hs).toNat) h=false->∀tb v' w1 W,P tb w1->Below w.heap.size w w1->aU (fun k=>k=b\/(vs (h[0]'hs).toNat).ownBlock=some k) w1 W->cX 3 W b sb tw (bd vs (h[0]'hs).toNat v') (aS sh (h[0]'hs).toNat ((sh (h[0]'hs).toNat).take (dt (sh (h[0]'hs).toNat) h)++[(h,some ⟨tb,0,none⟩)]++(sh (h[0]'hs).toNat).drop (dt (sh (h[0]'hs).toNat) h)))->jY w1 (vs (h[0]'hs).toNat) v'->R (.returned (.pointer (some ⟨tb,0,none⟩))) W):=fun h0 tb v' w1 W h1 h2 h3 h4 h5=>by rw[hR];exact .inr ⟨h0,tb,v',w1,rfl,h1,h2,h3,h4,h5⟩
 rw[<-hR];suffices hh:yC 125 #[.pointer (some ⟨b,0,none⟩),.string h,.string A9] w (fun e w'=>R e w'/\True) from hh.mono fun _ _ h=>h.1
 clear S SH hR F0;generalize fV (sh (h[0]'hs).toNat) h=hit at*;generalize dt (sh (h[0]'hs).toNat) h=k at*;generalize hcc:(h[0]'hs).toNat=c at*;have F9:(c:Int)<256:=by omega
 obtain⟨i0,C1,C5,C6,C7⟩:=Vp Q7;go_enter func125,ntmps125
 go_wp2_with fail
 refine D1.m ?_;rintro e w1 ⟨rfl,n1,C4⟩;have A1:yH (w1.heap=w.heap/\w1.os=w.os/\w1.tape=w.tape/\w1.output=w.output):=by rw[C4];exact⟨rfl,rfl,rfl,rfl⟩
 have S1:cX 3 w1 b sb tw vs sh:=HS.o.same A1.o.1;clear C4;cases hit
 ·have B6:=D7.o w1 A1.o.1 A1.o.2.1 A1.o.2.2.1 A1.o.2.2.2;have D6:yH (yC 17 #[.pointer (some ⟨sb,0,none⟩),.string A9] w1 fun e w'=>∃tb,e=.returned (.tuple #[.pointer (some ⟨tb,0,none⟩),.int .i64 0])/\P tb w'/\Below w.heap.size w w'):=B6;have d00:w1.cell? ⟨b,0,none⟩=some (.pointer (some ⟨sb,0,none⟩)):=by rw[Ur w1 b 0 _ _ _ S1.ai];exact Dx _ _ _
  clear B6 S1;go_wp2_with fail
  refine D6.m ?_;rintro e w2 ⟨tb,rfl,B9,A5⟩;have F1:=A5.size;have S2:cX 3 w2 b sb tw vs sh:=by
   refine⟨(A5.block b (Um.1 HS.o.ai).1).trans HS.o.ai,fun d hd=>cM (HS.o.own d hd) fun g hg=>A5.block g ((HS.o.own d hd).lt g hg).2,HS.o.sep,HS.o.fL⟩
  have E0:yH (P tb w2):=B9;have C9:yH (Below w.heap.size w w2):=A5;have C0:b<w2.heap.size:=(Um.1 S2.ai).1;have c0:w2.cell? ⟨b,2+c,none⟩=some (vs c):=by rw[Ur w2 b (2+c) _ _ _ S2.ai];exact tB _ _ _ _ hc
  have E7:(w2.alloc (.cells #[.string ⟨#[]⟩,.pointer none] 126)).cell? ⟨b,2+c,none⟩=some (vs c):=by
   rw[Uz (w:=w2) (U6 _ _ _ C0)];exact c0
  have D8:yH (w2.ownsRow 3 126 2 (vs c) (sh c).length (iA (sh c))):=S2.own c hc;have C8:yH (∀g5 A0 w5,w5.ownsRow 3 126 2 (.slice (some ⟨g5,0,none⟩) ((sh c).length+1) A0) ((sh c).length+1) (iA (sh c)++[.string ⟨#[]⟩,.pointer none])->(w2.drew.alloc (.cells #[.string ⟨#[]⟩,.pointer none] 126)).grownBy w5 (vs c).ownBlock->
   ((vs c).ownBlock=some g5\/g5=w2.heap.size+1)->
   yH (cX 3 (w5.setCell ⟨b,2+c,none⟩ (.slice (some ⟨g5,0,none⟩) ((sh c).length+1) A0)) b sb tw (bd vs c (.slice (some ⟨g5,0,none⟩) ((sh c).length+1) A0)) (aS sh c (sh c++[(⟨#[]⟩,none)]))/\aU (fun k=>k=b\/(vs c).ownBlock=some k) w2 (w5.setCell ⟨b,2+c,none⟩ (.slice (some ⟨g5,0,none⟩) ((sh c).length+1) A0))/\((vs c).ownBlock=some g5\/w2.heap.size<=g5))/\
    w5.cell? ⟨b,2+c,none⟩=some (vs c)/\w5.frozen? ⟨b,2+c,none⟩=false):=by
   intro g5 A0 w5 ho hg ha;have hl:(sh c++[((⟨#[]⟩:yB),(none:Option Addr))]).length=(sh c).length+1:=by simp
   have:=S2.grown c hc _ (sh c++[(⟨#[]⟩,none)]) g5 A0 w5 (by rw[hl,Mh];exact ho) hg ha;rw[hl] at this;obtain⟨h1,h2,h3,_⟩:=this;refine⟨⟨h2,h3,?_⟩,by rw[Ur w5 b (2+c) _ _ _ h1];exact tB _ _ _ _ hc,US w5 b (2+c) _ _ h1⟩;rcases ha with ha|ha
   ·exact .inl ha
   ·exact .inr (by omega)
  clear S2 B9 A5 d00;go_upto_region 5 with fail
  go_cut [] (fun wx=>∃g5 A0,yH (cX 3 wx b sb tw (bd vs c (.slice (some ⟨g5,0,none⟩) ((sh c).length+1) A0)) (aS sh c (sh c++[(⟨#[]⟩,none)])))/\yH (aU (fun k=>k=b\/(vs c).ownBlock=some k) w2 wx)/\yH ((vs c).ownBlock=some g5\/w2.heap.size<=g5))
  case first=>
   go_region_law (refine step_append_lies _ rfl (.tmp 49) (.tmp 51) 60 rfl 3 126 i0 (.agg #[.string ⟨#[]⟩,.pointer none]) 2 24 underlying60 C1 C5 C6 C7 rfl (by decide) (vs c) (sh c).length (iA (sh c)) (by simp[Act.eval]) (D8.o.drew.alloc _) ⟨w2.heap.size,0,none⟩ 1 1 [.string ⟨#[]⟩,.pointer none] (by simp[Act.eval]) rfl (vC _ _ _ _ rfl) (by intro u hu;simp at hu;rcases hu with rfl|rfl<;>rfl) (by omega) (by unfold maxLen;omega) (by omega) (by simp;omega) _ rfl ?_;intro g5 A0 w5 hown5 hgr5 hat5 hlt5;obtain⟨HF5,e3,g3⟩:=C8.o g5 A0 w5 hown5 hgr5 (by simpa using hat5);clear hown5 hgr5 hat5 hlt5)
   all_goals
    go_wp2
    go_meet
    exact⟨g5,A0,HF5.o.1,HF5.o.2.1,HF5.o.2.2⟩
  case rest=>
   obtain⟨g5,A0,HP,HW,A3⟩:=hcut;clear c0 E7;obtain⟨N,hN⟩:=yX ((sh c).length)
   obtain⟨L,hL⟩:=yX (sh c++[((⟨#[]⟩:yB),(none:Option Addr))])
   have B8:L.length=N+1:=by rw[hL,hN];simp
   obtain⟨V,hV⟩:=yX (bd vs c (.slice (some ⟨g5,0,none⟩) (N+1) A0))
   have B3:V c=.slice (some ⟨g5,0,none⟩) (N+1) A0:=by rw[hV];simp[bd]
   rw[<-hN,<-hL,<-hV] at HP;have d0:wc.cell? ⟨b,2+c,none⟩=some (.slice (some ⟨g5,0,none⟩) (N+1) A0):=by
    rw[Ur wc b (2+c) _ _ _ HP.o.ai,tB _ _ _ _ hc,B3]
   have A2:yH (L.length=N+1):=B8;have B1:yH (V c=.slice (some ⟨g5,0,none⟩) (N+1) A0):=B3;have D0:yH (∀W,cX 3 W b sb tw V (aS sh c ((fb L N (N - k)).set k (h,some ⟨tb,0,none⟩)))->aU (fun k=>k=b\/(vs c).ownBlock=some k) w2 W->R (.returned (.pointer (some ⟨tb,0,none⟩))) W):=fun W h1 h2=>by
    rw[hV,hL,hN,Lj _ _ _ _ C3] at h1;exact E4.o (by trivial) tb _ w2 W E0.o C9.o h2 h1 fun g hg=>by simp[Value.ownBlock] at hg;subst hg;exact A3.o
   have D5:yH (∀W j,cX 3 W b sb tw V (aS sh c (fb L N j))->∀i p,(fb L N j)[i]? =some p->W.cell? ⟨g5,i*2,none⟩=some (.string p.1)/\W.cell? ⟨g5,i*2+1,none⟩=some (.pointer p.2)/\W.frozen? ⟨g5,i*2,none⟩=false/\W.frozen? ⟨g5,i*2+1,none⟩=false):=fun W j h=>by
    have ho:=h.own c hc;simp only[aS,U5] at ho;have A8:(V c).ownBlock=some g5:=by rw[B1.o];rfl
    refine fun i p hp=>?_
    obtain⟨p1,p2⟩:=vL _ i p hp;exact⟨fc ho A8 _ _ p1,fc ho A8 _ _ p2,kZ ho A8 _,kZ ho A8 _⟩
   have E2:yH (∀W j p,j<N->L[N - j - 1]? =some p->cX 3 W b sb tw V (aS sh c (fb L N j))->cX 3 ((W.setCell ⟨g5,(N - j)*2,none⟩ (.string p.1)).setCell ⟨g5,(N - j)*2+1,none⟩ (.pointer p.2)) b sb tw V (aS sh c (fb L N (j+1)))):=fun W j p hj hp h=>by
    have:=h.put c hc g5 (by rw[B1.o];rfl) (N - j) p;have e:aS (aS sh c (fb L N j)) c ((aS sh c (fb L N j) c).set (N - j) p)=aS sh c (fb L N (j+1)):=by
     funext d
     by_cases hd:d=c
     ·simp only[aS,hd,U5];show(fb L N j).set (N - j) p=(fb L N j).set (N - j) (L.getD (N - j - 1) _);rw[Up,hp];rfl
     ·simp only[aS,hd,UT]
    rw[e] at this;exact this
   have D3:yH (∀W,cX 3 W b sb tw V (aS sh c (fb L N (N - k)))->cX 3 ((W.setCell ⟨g5,k*2,none⟩ (.string h)).setCell ⟨g5,k*2+1,none⟩ (.pointer (some ⟨tb,0,none⟩))) b sb tw V (aS sh c ((fb L N (N - k)).set k (h,some ⟨tb,0,none⟩)))):=fun W hW=>by
    have:=hW.put c hc g5 (by rw[B1.o];rfl) k (h,some ⟨tb,0,none⟩);have e:aS (aS sh c (fb L N (N - k))) c ((aS sh c (fb L N (N - k)) c).set k (h,some ⟨tb,0,none⟩))=aS sh c ((fb L N (N - k)).set k (h,some ⟨tb,0,none⟩)):=by
     funext d
     by_cases hd:d=c
     ·simp only[aS,hd,U5]
     ·simp only[aS,hd,UT]
    rw[e] at this;exact this
   have D9:yH (cX 3 wc.drew b sb tw V (aS sh c (fb L N 0))):=HP.o.same rfl;have E5:yH (aU (fun k=>k=b\/(vs c).ownBlock=some k) w2 wc.drew):=⟨HW.o.os,HW.o.tape,HW.o.output,HW.o.size,HW.o.block⟩
   have G1:k<=N:=by omega
   have F7:N<4000000000000:=by omega
   clear hV hL hN B3 B8 C3 hn HP HW C1 C5 C6 C7 C0 F1;go_wp2
   go_region
   go_wp2
   clear d0;go_loopg [12] (N - k) (fun g r wr=>∃j:Nat,g=N - k - j/\j<=N - k/\r=.int .i64 ((N:Int) - (j:Int))/\yH (cX 3 wr b sb tw V (aS sh c (fb L N j)))/\yH (aU (fun q=>q=b\/(vs c).ownBlock=some q) w2 wr))
   case atStart=>exact⟨0,rfl,by omega,by go_num,D9,E5⟩
   case round=>
    obtain⟨j,hg,hj,rfl,B0,B7⟩:=hrel;have HG:yH (gk=N - k - j):=hg;clear hg;have A4:=D5.o wr j B0.o;by_cases G3:j<N - k
    ·obtain⟨M,hM⟩:=yX (N - j)
     have E9:(N:Int) - (j:Int)=(M:Int):=by omega
     obtain⟨Q,hQ⟩:=yX (N - j - 1)
     have F4:(M:Int) - 1=(Q:Int):=by omega
     have B4:L[N - j - 1]? =some (L[N - j - 1]'(by rw[A2.o];omega)):=Uh _;have C2:(fb L N j)[N - j - 1]? =L[N - j - 1]? :=yr L N j _ (by omega);have A6:(fb L N j)[N - j]? =some ((fb L N j)[N - j]'(by rw[pT,A2.o];omega)):=Uh _;obtain⟨s1,s2,_,_⟩:=A4 _ _ (C2.trans B4);obtain⟨t1,t2,t3,t4⟩:=A4 _ _ A6;have B5:=E2.o wr j _ (by omega) B4 B0.o;generalize L[N - j - 1]'(by rw[A2.o];omega)=p at*;generalize (fb L N j)[N - j]'(by rw[pT,A2.o];omega)=pu at*;rw[<-hM] at t1 t2 t3 t4 B5;rw[<-hQ] at s1 s2;rw[E9];have E1:yH (cX 3 ((wr.setCell ⟨g5,M*2,none⟩ (.string p.1)).setCell ⟨g5,M*2+1,none⟩ (.pointer p.2)) b sb tw V (aS sh c (fb L N (j+1)))):=B5;have F8:(k:Int)<(M:Int):=by omega
     have F5:(M:Int)<(N:Int)+1:=by omega
     have F6:(Q:Int)<(N:Int)+1:=by omega
     have G5:IntKind.i64.wrap (Q:Int)=(Q:Int):=by rw[UY];omega
     have G6:IntKind.i64.wrap (M:Int)=(M:Int):=by rw[UY];omega
     have D4:yH (M=N - j):=hM;have E6:yH (aU (fun q=>q=b\/(vs c).ownBlock=some q) w2 ((wr.setCell ⟨g5,M*2,none⟩ (.string p.1)).setCell ⟨g5,M*2+1,none⟩ (.pointer p.2))):=
      aU.set (w':=wr.setCell ⟨g5,M*2,none⟩ (.string p.1)) (aU.set (w':=wr) B7.o ⟨g5,M*2,none⟩ _ (A3.o.elim (fun h=>.inl (.inr h)) .inr)) ⟨g5,M*2+1,none⟩ _ (A3.o.elim (fun h=>.inl (.inr h)) .inr)
     clear B4 C2 A6 B5 A4 hQ hM;go_wp2
     go_roundg (N - k - (j+1))
     case measure=>have:=HG.o;omega
     case rel=>exact⟨j+1,rfl,by omega,by have:=D4.o;go_num,E1,E6⟩
    ·obtain rfl:j=N - k:=by omega
     have E8:(N:Int) - ((N - k:Nat):Int)=(k:Int):=by omega
     rw[E8];have F3:¬(k:Int)<(k:Int):=by omega
     have A6:(fb L N (N - k))[k]? =some ((fb L N (N - k))[k]'(by rw[pT,A2.o];omega)):=Uh _;obtain⟨t1,t2,t3,t4⟩:=A4 _ _ A6;have G2:(k:Int)<(N:Int)+1:=by omega
     have HF:yH (R (.returned (.pointer (some ⟨tb,0,none⟩))) ((wr.setCell ⟨g5,k*2,none⟩ (.string h)).setCell ⟨g5,k*2+1,none⟩ (.pointer (some ⟨tb,0,none⟩)))):=D0.o _ (D3.o wr B0.o) (aU.set (w':=wr.setCell ⟨g5,k*2,none⟩ (.string h)) (aU.set (w':=wr) B7.o ⟨g5,k*2,none⟩ _ (A3.o.elim (fun h=>.inl (.inr h)) .inr)) ⟨g5,k*2+1,none⟩ _ (A3.o.elim (fun h=>.inl (.inr h)) .inr));clear A4 A6;generalize (fb L N (N - k))[k]'(by rw[pT,A2.o];omega)=pu at*;go_wp2
     exact HF.o
 ·have A7:=D2.o rfl;have hp:(sh c)[k]? =some ((sh c)[k]'A7):=Uh A7;obtain⟨a1,F2,_,B2⟩:=S1.lK c hc;obtain⟨g,rfl,x1,x2⟩:=B2.at_ k _ hp;have x0:=B2.cell;have HF:yH (R (.returned (.pointer ((sh c)[k]'A7).2)) w1.drew):=E3.o (by trivial) _ _ _ hp A1.o.1 A1.o.2.1 A1.o.2.2.1 A1.o.2.2.2;have G0:(k:Int)<((sh c).length:Int):=by omega
  clear S1 B2 hp;generalize (sh c)[k]'A7=pp at*;generalize (sh c).length=M at*;go_wp2
  go_region
  go_wp2
  go_ret
  exact⟨HF.o,trivial⟩
end Go.Proofs.YthpclfdpbmehgaaGreatDoor
