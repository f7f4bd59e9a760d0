import Derived.Test.YtiimkkahmpmhdaaGreatDoorX
open Go.Proofs.Tryz
open Go.Proofs.Tryz renaming prog→yP
open Go.Value renaming string→sV,pointer→pV,int→iV,slice→lV,bool→bV,tuple→tV,agg→gV
open Go.Ending renaming returned→rV
namespace Go.Proofs.YtiimkkahmpmhdaaGreatDoor
open Go.RowKit
set_option maxRecDepth 100000
set_option maxHeartbeats 0
set_option linter.all false
theorem OT(w:World)(rb st:Nat)(a:Option Addr)(cap N:Nat)(hN:N<4000000000)(m:Nat->a6)(S:Nat->Nat)(Mx:Nat)
 (D:Nat->Nat->List (Value×List yB)->List (Nat×Obj)->World->Prop)
 (HC:Hid (w.cell? ⟨rb,3,none⟩=some (lV a N cap)/\rb<w.heap.size))
 (E3:Hid (Calls yP 10 #[] w fun e w'=>∃ob,e=rV (pV (some ⟨ob,0,none⟩))/\(w'.cell? ⟨rb,3,none⟩=some (lV a N cap)/\rb<w'.heap.size)/\Hid (Calls yP 59 #[pV (some ⟨ob,0,none⟩),lV a N cap,iV .i64 1] w' fun e w2=>∃sp,e=rV (pV (some ⟨sp,0,none⟩))/\D sp (S 0) [] [] w2)))
 (HS:Hid (∀i,i<N->S (i+1)=S i+800*(1+(m i).aS.length)/\S (i+1)<=Mx)) (G7:Hid (S 0<=Mx)) (C4:Hid (Mx+1000<4000000000))
 (E4:Hid (∀sp k rows bs W,D sp k rows bs W->W.cell? ⟨rb,0,none⟩=some (pV (some ⟨st,0,none⟩))/\W.cell? ⟨rb,3,none⟩=some (lV a N cap)/\rb<W.heap.size))
 (G6:Hid (∀sp k rows bs W j,D sp k rows bs W->j<N->∃g,a=some ⟨g,0,none⟩/\g<W.heap.size/\W.cell? ⟨g,j*5,none⟩=some (sV (m j).addr)/\W.cell? ⟨g,j*5+1,none⟩=some (iV .i64 (m j).n)/\W.cell? ⟨g,j*5+2,none⟩=some (sV (m j).aj)/\W.cell? ⟨g,j*5+3,none⟩=some (sV (m j).code)/\W.cell? ⟨g,j*5+4,none⟩=some (lV (m j).sa (m j).aS.length (m j).sc)))
 (G8:Hid (∀sp k rows bs W j i,D sp k rows bs W->j<N->i<(m j).aS.length->∃(g:Nat) (x:yB),(m j).sa=some ⟨g,0,none⟩/\g<W.heap.size/\W.cell? ⟨g,i*2,none⟩=some (sV x)/\x.size<=maxLen))
 (G9:Hid (∀j,j<N->(m j).aS.length<4000000000))
 (B8:Hid (∀sp k rows bs W cs t,D sp k rows bs W->D sp k rows ((W.heap.size,.cells cs t (0,0))::bs) (W.alloc (.cells cs t))))
 (F9:Hid (∀sp k rows n h W,D sp k rows [(n,.cells (iP h) 107 (0,0))] W->n<W.heap.size/\W.cell? ⟨n,0,none⟩=some (sV h.addr)/\W.cell? ⟨n,4,none⟩=some (lV h.sa h.aS.length h.sc)))
 (E0:Hid (∀sp k rows bs W,D sp k rows bs W->D sp k rows bs W.drew))
 (E7:Hid (∀sp k rows bs W a c cs,D sp k rows bs W->(Value.slice a (List.length cs) c,cs)∈rows->mG W a cs))
 (H1:Hid (∀sp k rows bs W r,D sp k rows bs W->r∈rows->∃b,du b W r.1 r.2))
 (A4:Hid (∀sp k k' rows rows' bs bs' W,D sp k rows bs W->k<=k'->List.Sublist rows' rows->(∀b∈bs',b∈bs)->D sp k' rows' bs' W))
 (C8:Hid (∀sp k r s rows bs W,D sp k (r::s::rows) bs W->D sp k (s::r::rows) bs W))
 (G3:Hid (∀sp k rows bs W,D sp k rows bs W->D sp k ((lV none 0 0,[])::rows) bs W))
 (B7:Hid (∀sp k v cs rows bs W b vq q,D sp k ((v,cs)::rows) bs W->du b W vq q->cs.length+q.length<=4200000000000->∃a' c' w',(Builtin.append_ #[63,63] 63 #[v,vq]).run yP W=.ok (lV a' (cs++q).length c') w'/\D sp k ((lV a' (cs++q).length c',cs++q)::rows) bs w'))
 (G5:Hid (∀sp k rows bs W j,D sp k rows bs W->j<N->Calls yP 60 #[pV (some ⟨sp,0,none⟩),sV (m j).addr] W fun e w'=>∃a' c' c cs,e=rV (tV #[lV a' cs.length c',iV .i64 c])/\dO 81 cs/\D sp (k+250) ((lV a' cs.length c',cs)::rows) bs w'))
 (G4:Hid (∀sp k rows bs W j x,D sp k rows bs W->j<N->x.size<=maxLen->k<=Mx->Calls yP 61 #[pV (some ⟨sp,0,none⟩),sV (m j).addr,sV x] W fun e w'=>∃u a' c' c cs,e=rV (tV #[u,lV a' cs.length c',iV .i64 c])/\dO 81 cs/\D sp (k+800) ((lV a' cs.length c',cs)::rows) bs w'))
 (H0:Hid (∀sp k rows bs W t,D sp k rows bs W->t.size<=4096->Calls yP 86 #[pV (some ⟨st,0,none⟩),sV t] W fun e w'=>bE e/\D sp k rows bs w'))
 (G0:Hid (∀sp k v cs rows bs W,D sp k ((v,cs)::rows) bs W->dO (4000000000) cs->Calls yP 46 #[v] W fun e w'=>bE e/\D sp k ((v,cs)::rows) bs w')):
 Calls yP 58 #[pV (some ⟨rb,0,none⟩)] w fun e w'=>bE e/\∃sp k r b,Hid (D sp k r b w'):=by
 obtain⟨c3,A3⟩:=HC.out;clear HC;go_enter func58,ntmps58
 go_wp2_with fail
 refine E3.out.mono ?_;rintro e w1 ⟨ob,rfl,⟨d3,I5⟩,D3⟩;clear E3 c3 A3;go_wp2_with fail
 refine D3.out.mono ?_;rintro e w2 ⟨sp,rfl,E9⟩;have D5:Hid (D sp (S 0) [(lV none 0 0,[])] [] w2):=G3.out _ _ _ _ _ E9;clear E9 D3 d3 I5;have D6:Hid (D sp (S 0) [(lV none 0 0,[])] [] (w2.alloc (.cells #[sV aX] 9))):=A4.out _ _ _ _ _ _ _ _ (B8.out _ _ _ _ _ _ _ D5.out) (QU _) (List.Sublist.refl _) (fun b hb=>by cases hb);obtain⟨a4,c4,w4,F6,F0⟩:=B7.out _ _ _ _ _ _ _ 0 (lV (some ⟨w2.heap.size,0,none⟩) 1 1) [aX] D6.out (du.one w2 aX) (by simp);have E5:Hid ((Builtin.append_ #[63,63] 63 #[lV none 0 0,lV (some ⟨w2.heap.size,0,none⟩) 1 1]).run yP (w2.alloc (.cells #[sV aX] 9))=.ok (lV a4 1 c4) w4):=F6;have D7:Hid (D sp (S 0) [(lV a4 ([aX]:List yB).length c4,[aX])] [] w4):=F0;clear F6 F0 D5 D6;go_wp2_with (at_builtin;refine jq rfl (.tmp 23) (.tmp 24) 63 rfl _ _ (lV a4 1 c4) w4 rfl rfl E5.out ?_)
 clear E5;go_loopg [6,5] N (fun g r v wr=>∃i:Nat,g=N - i/\i<=N/\r=iV .i64 i/\wk (1+S i) v (fun a5 c5 al=>Hid (D sp (S i) [(lV a5 al.length c5,al)] [] wr)))
 case atStart=>exact⟨0,rfl,by omega,rfl,_,_,_,rfl,(dO.one (x:=aX) (by decide)).mono (by omega),D7⟩
 case round=>
  obtain⟨i,hg,hi,rfl,a5,c5,al,rfl,B3,HD⟩:=hrel;have HG:Hid (gk=N - i):=hg;have A0:Hid (dO (1+S i) al):=B3;clear hg D7 B3;obtain⟨r0,r3,A3⟩:=E4.out _ _ _ _ _ HD.out;by_cases A6:i<N
  ·have H6:(i:Int)<(N:Int):=by omega
   obtain⟨F2,F3⟩:=HS.out i A6;have C0:Hid (S (i+1)=S i+800*(1+(m i).aS.length)):=F2;have C7:Hid (S (i+1)<=Mx):=F3;have I6:=G9.out i A6;obtain⟨g,ha,H4,k0,k1,k2,k3,k4⟩:=G6.out _ _ _ _ _ i HD.out A6;subst ha;have D9:Hid (D sp (S i) [(lV a5 al.length c5,al)] [(wr.heap.size,.cells (iP (m i)) 107 (0,0))] (wr.alloc (.cells (iP (m i)) 107))):=B8.out _ _ _ _ _ _ _ HD.out;have HP:Hid (Calls yP 60 #[pV (some ⟨sp,0,none⟩),sV (m i).addr] (wr.alloc (.cells (iP (m i)) 107)) fun e w'=>∃a' c' c cs,e=rV (tV #[lV a' cs.length c',iV .i64 c])/\dO 81 cs/\D sp (S i+250) ((lV a' cs.length c',cs)::[(lV a5 al.length c5,al)]) [(wr.heap.size,.cells (iP (m i)) 107 (0,0))] w'):=G5.out _ _ _ _ _ i D9.out A6;clear F2 F3 HD D9;generalize gk=GK at*;generalize hWR:wr=WR at*;clear hWR;go_wp2_with fail
   refine HP.out.mono ?_;rintro e w5 ⟨a8,c8,c,cs,rfl,B4,F1⟩;have D8:Hid (D sp (S i+250) [(lV a8 cs.length c8,cs),(lV a5 al.length c5,al)] [(WR.heap.size,.cells (iP (m i)) 107 (0,0))] w5):=F1;have A2:Hid (dO 81 cs):=B4;clear HP F1 B4 k0 k1 k2 k3 k4 H4 r0 r3 A3;generalize WR.heap.size=n at*;generalize hSL:(m i).aS.length=SL at*;have A8:Hid ((m i).aS.length=SL):=hSL;clear hSL;go_wp2_with fail
   go_loopg [10,8,5] SL (fun g r v u wr=>∃k:Nat,g=SL - k/\k<=SL/\r=iV .i64 k/\wk (81+81*k) v (fun a8 c8 cs=>wk (1+S i+k) u (fun a5 c5 al=>Hid (D sp (S i+250+800*k) [(lV a8 cs.length c8,cs),(lV a5 al.length c5,al)] [(n,.cells (iP (m i)) 107 (0,0))] wr))))
   case atStart=>exact⟨0,rfl,by omega,rfl,_,_,_,rfl,A2.out,_,_,_,rfl,A0.out,D8⟩
   case round=>
    obtain⟨k,hg,hk,rfl,a8,c8,cs,rfl,B4,a5,c5,al,rfl,B3,HD⟩:=hrel;have E1:Hid (gk=SL - k):=hg;have A2:Hid (dO (81+81*k) cs):=B4;have A0:Hid (dO (1+S i+k) al):=B3;clear hg B4 B3 D8;generalize gk=GK2 at*;obtain⟨hn,b0,b4⟩:=F9.out _ _ _ _ _ _ HD.out;rw[A8.out] at b4;by_cases I0:k<SL
    ·have H8:(k:Int)<(SL:Int):=by omega
     obtain⟨gs,x,F7,H5,e0,hx⟩:=G8.out _ _ _ _ _ i k HD.out A6 (by rw[A8.out];exact I0);rw[F7] at b4;have H2:Hid (Calls yP 61 #[pV (some ⟨sp,0,none⟩),sV (m i).addr,sV x] wr.drew fun e w'=>∃u a' c' c q,e=rV (tV #[u,lV a' q.length c',iV .i64 c])/\dO 81 q/\D sp (S i+250+800*k+800) ((lV a' q.length c',q)::[(lV a8 cs.length c8,cs),(lV a5 al.length c5,al)]) [(n,.cells (iP (m i)) 107 (0,0))] w'):=G4.out _ _ _ _ _ i x (E0.out _ _ _ _ _ HD.out) A6 hx (by have:=C0.out;have:=C7.out;rw[A8.out] at*;omega);clear hx F7 HD;go_upto_region 13 with fail
     go_cut [11,12,13] from 49 to 81 (fun _u v _c wx=>wk 81 v (fun a' c' q=>Hid (D sp (S i+250+800*k+800) [(lV a' q.length c',q),(lV a8 cs.length c8,cs),(lV a5 al.length c5,al)] [(n,.cells (iP (m i)) 107 (0,0))] wx)))
     case first=>
      go_region_with (go_at_call 61;refine H2.out.mono ?_;rintro e w6 ⟨u,a',c',c,q,rfl,hq,A5⟩)
      all_goals
       go_wp2_with fail
       go_meet
       exact⟨_,_,_,rfl,hq,A5⟩
     case rest=>
      obtain⟨a12,c12,q,rfl,hq,A1⟩:=hcut;have HQ:Hid (dO 81 q):=hq;clear hq H2 b0 b4 hn e0 H5;generalize wc=w6 at*;obtain⟨bq,C9⟩:∃bq,du bq w6 (lV a12 q.length c12) q:=H1.out _ _ _ _ _ (lV a12 q.length c12,q) A1.out (QY ..);obtain⟨a7,c7,w7,D2,B0⟩:=B7.out _ _ _ _ _ _ _ _ _ _ (C8.out _ _ _ _ _ _ _ A1.out) C9 (by have:=HQ.out.1;have:=A2.out.1;omega);have E6:Hid ((Builtin.append_ #[63,63] 63 #[lV a8 cs.length c8,lV a12 q.length c12]).run yP w6=.ok (lV a7 (cs++q).length c7) w7):=D2;have D4:Hid (dO (81+81*(k+1)) (cs++q)):=(A2.out.append HQ.out).mono (by omega);have E2:Hid (S i+250+800*k+800<=S i+250+800*(k+1)):=by show _<=_;omega
      by_cases D0:q.length=0
      ·have I3:((q.length:Int) > 0)=False:=by rw[D0];simp
       have C2:Hid (D sp (S i+250+800*(k+1)) [(lV a7 (cs++q).length c7,cs++q),(lV a5 al.length c5,al)] [(n,.cells (iP (m i)) 107 (0,0))] w7):=A4.out _ _ _ _ _ _ _ _ B0 E2.out (.cons_cons _ (.cons _ (.refl _))) (fun _ h=>h);have I4:¬(0:Int)<(q.length:Int):=by omega
       clear D2 B0 C9 A1 I3 D0;go_wp2_with (at_builtin;refine jq rfl (.tmp 70) (.tmp 71) 63 rfl _ _ (lV a7 (cs++q).length c7) w7 rfl rfl E6.out ?_)
       go_roundg (SL - (k+1))
       case measure=>have:=E1.out;omega
       case rel=>exact⟨k+1,rfl,by omega,by go_num,a7,c7,cs++q,(by first|rfl|simp),D4.out,a5,c5,al,rfl,A0.out.mono (by omega),C2⟩
      ·obtain⟨q0,D1⟩:∃q0,q[0]? =some q0:=⟨_,QV (by omega)⟩
       obtain⟨gq,B5,I9,I8⟩:=E7.out _ _ _ _ _ a12 c12 q B0 (QZ _ (QY ..)) 0 q0 D1;subst B5;have E8:q0.size<=4096:=HQ.out.2 q0 (Rv D1);have B1:=A4.out _ _ _ _ _ _ [(n,.cells (iP (m i)) 107 (0,0))] _ (B8.out _ _ _ _ _ #[sV q0] 9 (C8.out _ _ _ _ _ _ _ (A4.out _ _ _ _ _ _ _ _ B0 E2.out (.cons_cons _ (.cons _ (.refl _))) (fun _ h=>h)))) (QU _) (List.Sublist.refl _) (fun b hb=>QZ _ hb);obtain⟨a9,c9,w9,B6,B2⟩:=B7.out _ _ _ _ _ _ _ 0 (lV (some ⟨w7.heap.size,0,none⟩) 1 1) [q0] B1 (du.one w7 q0) (by have:=A0.out.1;have:=C0.out;have:=C7.out;have:=C4.out;rw[A8.out] at*;simp;omega);have C6:Hid ((Builtin.append_ #[63,63] 63 #[lV a5 al.length c5,lV (some ⟨w7.heap.size,0,none⟩) 1 1]).run yP (w7.alloc (.cells #[sV q0] 9))=.ok (lV a9 (al++[q0]).length c9) w9):=B6;have C3:Hid (D sp (S i+250+800*(k+1)) [(lV a7 (cs++q).length c7,cs++q),(lV a9 (al++[q0]).length c9,al++[q0])] [(n,.cells (iP (m i)) 107 (0,0))] w9):=C8.out _ _ _ _ _ _ _ B2;have C1:Hid (dO (1+S i+(k+1)) (al++[q0])):=(A0.out.append (dO.one E8)).mono (by omega);have I4:(0:Int)<(q.length:Int):=by omega
       clear D2 B0 C9 A1 B6 B2 B1 D1 E8 D0;go_wp2_with (at_builtin;first| (refine jq rfl (.tmp 70) (.tmp 71) 63 rfl _ _ (lV a7 (cs++q).length c7) w7 rfl rfl E6.out ?_) | (refine jq rfl (.tmp 76) (.tmp 80) 63 rfl _ _ (lV a9 (al++[q0]).length c9) w9 rfl rfl C6.out ?_))
       go_roundg (SL - (k+1))
       case measure=>have:=E1.out;omega
       case rel=>exact⟨k+1,rfl,by omega,by go_num,a7,c7,cs++q,(by first|rfl|simp),D4.out,a9,c9,al++[q0],(by first|rfl|simp),C1.out,C3⟩
    ·obtain rfl:k=SL:=by omega
     have H8:¬(k:Int)<(k:Int):=by omega
     clear b0;have G1:Hid (cs.length<400000000000):=by show _<_;have:=A2.out.1;omega
     generalize hPL:cs.length=PL at*;have C5:Hid (cs.length=PL):=hPL;clear hPL;have I7:PL<400000000000:=G1.out;go_wp2_with fail
     go_loopg [14] PL (fun g r wr=>∃j:Nat,g=PL - j/\j<=PL/\r=iV .i64 j/\Hid (D sp (S i+250+800*k) [(lV a8 PL c8,cs),(lV a5 al.length c5,al)] [(n,.cells (iP (m i)) 107 (0,0))] wr))
     case atStart=>exact⟨0,rfl,by omega,rfl,HD⟩
     case round=>
      clear b4 hn;obtain⟨j,hg,hj,rfl,HD⟩:=hrel;have G2:Hid (gk=PL - j):=hg;clear hg;generalize gk=GK3 at*;obtain⟨r0,r3,A3⟩:=E4.out _ _ _ _ _ HD.out;have A7:Hid (mG wr a8 cs):=E7.out _ _ _ _ _ a8 c8 cs HD.out (by rw[C5.out];exact QY ..);by_cases H9:j<PL
      ·have H7:(j:Int)<(PL:Int):=by omega
       obtain⟨x,hx⟩:∃x,cs[j]? =some x:=⟨_,QV (by rw[C5.out];exact H9)⟩
       obtain⟨gp,B5,F5,F4⟩:=A7.out j x hx;have A9:x.size<=4096:=A2.out.2 x (Rv hx);subst B5;have H3:Hid (Calls yP 86 #[pV (some ⟨st,0,none⟩),sV x] wr.drew fun e w'=>bE e/\D sp (S i+250+800*k) [(lV (some ⟨gp,0,none⟩) PL c8,cs),(lV a5 al.length c5,al)] [(n,.cells (iP (m i)) 107 (0,0))] w'):=H0.out _ _ _ _ _ _ (E0.out _ _ _ _ _ HD.out) A9;clear A7 hx A9 HD r3;go_upto_region 20 with fail
       go_cut [15] from 82 to 97 (fun v wx=>rD v/\Hid (D sp (S i+250+800*k) [(lV (some ⟨gp,0,none⟩) PL c8,cs),(lV a5 al.length c5,al)] [(n,.cells (iP (m i)) 107 (0,0))] wx))
       case first=>
        go_region_with (go_at_call 86;refine H3.out.mono ?_;rintro e w6 ⟨⟨b,rfl⟩,A5⟩)
        all_goals
         go_wp2_with fail
         go_meet
         exact⟨⟨b,rfl⟩,A5⟩
       case rest=>
        obtain⟨⟨b,rfl⟩,A1⟩:=hcut;clear H3 r0 A3 F4 F5;cases b with
        |true=>
         go_wp2_with fail
         go_ret
         exact⟨⟨true,rfl⟩,_,_,_,_,A1⟩
        |false=>
         go_wp2_with fail
         go_roundg (PL - (j+1))
         case measure=>have:=G2.out;omega
         case rel=>exact⟨j+1,rfl,by omega,by go_num,A1⟩
      ·obtain rfl:j=PL:=by omega
       have H7:¬(j:Int)<(j:Int):=by omega
       have B9:Hid (S i+250+800*k<=S (i+1)):=by show _<=_;have:=C0.out;omega
       by_cases I1:j=0
       ·have I2:¬(0:Int)<(j:Int):=by omega
        have C2:Hid (D sp (S (i+1)) [(lV a5 al.length c5,al)] [] wr):=A4.out _ _ _ _ _ _ _ _ HD.out B9.out (.cons _ (.refl _)) (fun _ h=>by cases h);have F8:Hid (dO (1+S (i+1)) al):=A0.out.mono (by have:=B9.out;omega);clear A7 r0 r3 A3 HD;go_wp2_with fail
        go_roundg (N - (i+1))
        case measure=>have:=HG.out;omega
        case rel=>exact⟨i+1,rfl,by omega,by go_num,a5,c5,al,rfl,F8.out,C2⟩
       ·have I2:(0:Int)<(j:Int):=by omega
        obtain⟨x,hx⟩:∃x,cs[0]? =some x:=⟨_,QV (by rw[C5.out];omega)⟩
        obtain⟨gp,B5,F5,F4⟩:=A7.out 0 x hx;have A9:x.size<=4096:=A2.out.2 x (Rv hx);subst B5;have B1:=A4.out _ _ _ _ _ _ [] _ (B8.out _ _ _ _ _ #[sV x] 9 HD.out) B9.out (.cons _ (.refl _)) (fun b hb=>by cases hb);obtain⟨a9,c9,w9,B6,B2⟩:=B7.out _ _ _ _ _ _ _ 0 (lV (some ⟨wr.heap.size,0,none⟩) 1 1) [x] B1 (du.one wr x) (by have:=A0.out.1;have:=C0.out;have:=C7.out;have:=C4.out;rw[A8.out] at*;simp;omega);have C6:Hid ((Builtin.append_ #[63,63] 63 #[lV a5 al.length c5,lV (some ⟨wr.heap.size,0,none⟩) 1 1]).run yP (wr.alloc (.cells #[sV x] 9))=.ok (lV a9 (al++[x]).length c9) w9):=B6;have C3:Hid (D sp (S (i+1)) [(lV a9 (al++[x]).length c9,al++[x])] [] w9):=B2;have C1:Hid (dO (1+S (i+1)) (al++[x])):=(A0.out.append (dO.one A9)).mono (by have:=B9.out;omega);clear A7 B6 B2 B1 hx A9 HD r0 r3 A3 I1;go_wp2_with (at_builtin;refine jq rfl (.tmp 101) (.tmp 105) 63 rfl _ _ (lV a9 (al++[x]).length c9) w9 rfl rfl C6.out ?_)
        go_roundg (N - (i+1))
        case measure=>have:=HG.out;omega
        case rel=>exact⟨i+1,rfl,by omega,by go_num,a9,c9,al++[x],(by first|rfl|simp),C1.out,C3⟩
  ·obtain rfl:i=N:=by omega
   have H6:¬(i:Int)<(i:Int):=by omega
   have HX:Hid (Calls yP 46 #[lV a5 al.length c5] wr fun e w'=>bE e/\D sp (S i) [(lV a5 al.length c5,al)] [] w'):=G0.out _ _ _ _ _ _ _ HD.out (A0.out.mono (by
    have:=C4.out;cases i with
    |zero=>have:=G7.out;omega
    |succ i=>have:=(HS.out i (by omega)).2;omega))
   go_wp2_with fail
   refine HX.out.mono ?_;rintro e w6 ⟨⟨b,rfl⟩,A5⟩;have A1:Hid (D sp (S i) [(lV a5 al.length c5,al)] [] w6):=A5;clear A5;go_wp2_with fail
   go_ret
   exact⟨⟨b,rfl⟩,_,_,_,_,A1⟩
end Go.Proofs.YtiimkkahmpmhdaaGreatDoor
