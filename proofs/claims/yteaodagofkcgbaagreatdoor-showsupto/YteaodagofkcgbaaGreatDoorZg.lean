import Derived.Test.YteaodagofkcgbaaGreatDoorZf
open Go.Proofs.Tryz
open Go.Proofs.Tryz renaming prog→yP
open Go.Value renaming string→sV,pointer→pV,int→iV,slice→lV,bool→bV,tuple→tV,agg→gV
open Go.Ending renaming returned→rV
namespace Go.Proofs.YteaodagofkcgbaaGreatDoor
open Go.RowKit
set_option maxRecDepth 100000
set_option maxHeartbeats 0
set_option linter.all false
def Ue(Z:Bool->Prop)(v:Value):Prop:=∃b:Bool,v=bV b/\Z b
def R9(w:World)(rb st:Nat)(a:Option Addr)(cap N:Nat)(hN:N<4000000000)(m:Nat->aH)(S:Nat->Nat)(Mx:Nat)(D:Nat->Nat->List (Value×List yB)->List (Nat×Obj)->World->Prop)(OI:Nat->List yB->Prop) (MI:Nat->Nat->List yB->List yB->Prop) (TI:Nat->List yB->List yB->Nat->Prop) (PZ:Nat->List yB->Prop) (KX:Nat->Nat->yB->Prop) (QZ:Nat->Nat->List yB->Prop) (TZ:yB->Bool->Prop) (CZ:List yB->Bool->Prop) (DB:Bool->Prop)(I1:yH (OI 0 [bf])) (I2:yH (∀i al cs,OI i al->i<N->PZ i cs->MI i 0 cs al))(I3:yH (∀i k cs al q,MI i k cs al->i<N->k<(m i).az.length->QZ i k q->(q.length=0->MI i (k+1) (cs++q) al)/\∀q0,q[0]? =some q0->MI i (k+1) (cs++q) (al++[q0])))(I4:yH (∀i cs al,MI i (m i).az.length cs al->TI i cs al 0)) (I5:yH (∀i cs al j x,TI i cs al j->cs[j]? =some x->TZ x false->TI i cs al (j+1)))(I6:yH (∀i cs al,i<N->TI i cs al cs.length->(cs.length=0->OI (i+1) al)/\∀x,cs[0]? =some x->OI (i+1) (al++[x])))(I7:yH (∀al b,OI N al->CZ al b->DB b)) (I8:yH (DB true))(HC:yH (w.cell? ⟨rb,3,none⟩=some (lV a N cap)/\rb<w.heap.size))(J6:yH (yC 9 #[] w λe w'=>∃ob,e=rV (pV (some ⟨ob,0,none⟩))/\(w'.cell? ⟨rb,3,none⟩=some (lV a N cap)/\rb<w'.heap.size)/\yH (yC 58 #[pV (some ⟨ob,0,none⟩),lV a N cap,i6 1] w' λe w2=>∃sp,e=rV (pV (some ⟨sp,0,none⟩))/\D sp (S 0) [] [] w2)))(HS:yH (∀i,i<N->S (i+1)=S i+800*(1+(m i).az.length)/\S (i+1)<=Mx)) (K1:yH (S 0<=Mx)) (D2:yH (Mx+1000<4000000000))(E5:yH (∀sp k rows bs W,D sp k rows bs W->W.cell? ⟨rb,0,none⟩=some (pV (some ⟨st,0,none⟩))/\W.cell? ⟨rb,3,none⟩=some (lV a N cap)/\rb<W.heap.size))(K0:yH (∀sp k rows bs W j,D sp k rows bs W->j<N->∃g,a=some ⟨g,0,none⟩/\g<W.heap.size/\W.cell? ⟨g,j*5,none⟩=some (sV (m j).addr)/\W.cell? ⟨g,j*5+1,none⟩=some (i6 (m j).n)/\W.cell? ⟨g,j*5+2,none⟩=some (sV (m j).aI)/\W.cell? ⟨g,j*5+3,none⟩=some (sV (m j).code)/\W.cell? ⟨g,j*5+4,none⟩=some (lV (m j).sa (m j).az.length (m j).sc)))(K2:yH (∀sp k rows bs W j i,D sp k rows bs W->j<N->i<(m j).az.length->∃(g:Nat)(x:yB),(m j).sa=some ⟨g,0,none⟩/\g<W.heap.size/\W.cell? ⟨g,i*2,none⟩=some (sV x)/\x.size<=maxLen/\KX j i x))(K3:yH (∀j,j<N->(m j).az.length<4000000000))(B8:yH (∀sp k rows bs W cs t,D sp k rows bs W->D sp k rows ((W.heap.size,.cells cs t (0,0))::bs) (W.alloc (.cells cs t))))(H0:yH (∀sp k rows n h W,D sp k rows [(n,.cells (jD h) 107 (0,0))] W->n<W.heap.size/\W.cell? ⟨n,0,none⟩=some (sV h.addr)/\W.cell? ⟨n,4,none⟩=some (lV h.sa h.az.length h.sc)))(E2:yH (∀sp k rows bs W,D sp k rows bs W->D sp k rows bs W.drew))(E8:yH (∀sp k rows bs W a c cs,D sp k rows bs W->(Value.slice a (List.length cs) c,cs)∈rows->oM W a cs))(K7:yH (∀sp k rows bs W r,D sp k rows bs W->r∈rows->∃b,dE b W r.1 r.2))(A6:yH (∀sp k k' rows rows' bs bs' W,D sp k rows bs W->k<=k'->List.Sublist rows' rows->(∀b∈bs',b∈bs)->D sp k' rows' bs' W))(D7:yH (∀sp k r s rows bs W,D sp k (r::s::rows) bs W->D sp k (s::r::rows) bs W))(J5:yH (∀sp k rows bs W,D sp k rows bs W->D sp k ((lV none 0 0,[])::rows) bs W))(B7:yH (∀sp k v cs rows bs W b vq q,D sp k ((v,cs)::rows) bs W->dE b W vq q->cs.length+q.length<=4200000000000->∃a' c' w',(Builtin.append_ #[63,63] 63 #[v,vq]).run yP W=.ok (lV a' (cs++q).length c') w'/\D sp k ((lV a' (cs++q).length c',cs++q)::rows) bs w'))(J8:yH (∀sp k rows bs W j,D sp k rows bs W->j<N->yC 59 #[pV (some ⟨sp,0,none⟩),sV (m j).addr] W λe w'=>∃a' c' c cs,e=rV (tV #[lV a' cs.length c',i6 c])/\fh 81 cs/\PZ j cs/\D sp (k+250) ((lV a' cs.length c',cs)::rows) bs w'))(J7:yH (∀sp k rows bs W j i x,D sp k rows bs W->j<N->KX j i x->x.size<=maxLen->k<=Mx->yC 60 #[pV (some ⟨sp,0,none⟩),sV (m j).addr,sV x] W λe w'=>∃u a' c' c cs,e=rV (tV #[u,lV a' cs.length c',i6 c])/\fh 81 cs/\QZ j i cs/\D sp (k+800) ((lV a' cs.length c',cs)::rows) bs w'))(K6:yH (∀sp k rows bs W t,D sp k rows bs W->t.size<=4096->yC 85 #[pV (some ⟨st,0,none⟩),sV t] W λe w'=>kS (TZ t) e/\D sp k rows bs w'))(H1:yH (∀sp k v cs rows bs W,D sp k ((v,cs)::rows) bs W->fh (4000000000) cs->yC 45 #[v] W λe w'=>kS (CZ cs) e/\D sp k ((v,cs)::rows) bs w')):yC 57 #[pV (some ⟨rb,0,none⟩)] w λe w'=>kS DB e/\∃sp k r b,yH (D sp k r b w'):=by
 obtain⟨c3,A5⟩:=HC.o;go_enter func57,ntmps57
 go_wp2_with fail
 apply J6.m;rintro e w1⟨ob,rfl,⟨d3,L8⟩,E0⟩;clear c3 A5;go_wp2_with fail
 apply E0.m;rintro e w2⟨sp,rfl,F1⟩;have H5:yH (D sp (S 0) [(lV none 0 0,[])] [] w2):=J5.o _ _ _ _ _ F1;clear F1 E0 d3 L8;have H6:yH (D sp (S 0) [(lV none 0 0,[])] [] (w2.alloc (.cells #[sV bf] 9))):=A6.o _ _ _ _ _ _ _ _ (B8.o _ _ _ _ _ _ _ H5.o) (Ug _) (List.Sublist.refl _) (λb hb=>by cases hb);obtain⟨a4,c4,w4,G7,F2⟩:=B7.o _ _ _ _ _ _ _ 0 (lV (some ⟨w2.heap.size,0,none⟩) 1 1) [bf] H6.o (dE.one w2 bf) (by simp);have J9:yH ((Builtin.append_ #[63,63] 63 #[lV none 0 0,lV (some ⟨w2.heap.size,0,none⟩) 1 1]).run yP (w2.alloc (.cells #[sV bf] 9))=.ok (lV a4 1 c4) w4):=G7;have H7:yH (D sp (S 0) [(lV a4 ([bf]:List yB).length c4,[bf])] [] w4):=F2;clear G7 F2;go_wp2_with (at_builtin;refine jN rfl (.tmp 23) (.tmp 24) 63 rfl _ _ (lV a4 1 c4) w4 rfl rfl J9.o ?_)
 go_loopg [6,5] N (λg r v wr=>∃i:Nat,g=N - i/\i<=N/\r=i6 i/\xS (1+S i) v (λa5 c5 al=>yH (OI i al)/\yH (D sp (S i) [(lV a5 al.length c5,al)] [] wr)))
 .exact⟨0,rfl,by omega,rfl,_,_,_,rfl,(fh.one (x:=bf) (by decide)).mono (by omega),I1,H7⟩
 obtain⟨i,hg,hi,rfl,a5,c5,al,rfl,B2,D3,HD⟩:=hrel;have HG:yH (gk=N - i):=hg;have A0:yH (fh (1+S i) al):=B2;clear hg B2;obtain⟨r0,r3,A5⟩:=E5.o _ _ _ _ _ HD.o;by_cases A1:i<N
 .have L0:(i:Int)<(N:Int):=by omega
  obtain⟨F4,F5⟩:=HS.o i A1;have C2:yH (S (i+1)=S i+800*(1+(m i).az.length)):=F4;have D6:yH (S (i+1)<=Mx):=F5;have L9:=K3.o i A1;obtain⟨g,ha,K8,k0,k1,k2,k3,k4⟩:=K0.o _ _ _ _ _ i HD.o A1;subst ha;have D0:yH (D sp (S i) [(lV a5 al.length c5,al)] [(wr.heap.size,.cells (jD (m i)) 107 (0,0))] (wr.alloc (.cells (jD (m i)) 107))):=B8.o _ _ _ _ _ _ _ HD.o;have HP:yH (yC 59 #[pV (some ⟨sp,0,none⟩),sV (m i).addr] (wr.alloc (.cells (jD (m i)) 107)) λe w'=>∃a' c' c cs,e=rV (tV #[lV a' cs.length c',i6 c])/\fh 81 cs/\PZ i cs/\D sp (S i+250) ((lV a' cs.length c',cs)::[(lV a5 al.length c5,al)]) [(wr.heap.size,.cells (jD (m i)) 107 (0,0))] w'):=J8.o _ _ _ _ _ i D0.o A1;clear F4 F5 HD;generalize gk=GK at*;generalize hWR:wr=WR at*;clear hWR;go_wp2_with fail
  apply HP.m;rintro e w5⟨a8,c8,c,cs,rfl,B4,G6,F3⟩;have C0:yH (MI i 0 cs al):=I2.o i al cs D3.o A1 G6;clear G6 D3;have H8:yH (D sp (S i+250) [(lV a8 cs.length c8,cs),(lV a5 al.length c5,al)] [(WR.heap.size,.cells (jD (m i)) 107 (0,0))] w5):=F3;have A2:yH (fh 81 cs):=B4;clear F3 B4 k0 k1 k2 k3 k4 K8 r0 r3 A5;generalize WR.heap.size=n at*;generalize hSL:(m i).az.length=SL at*;have A4:yH ((m i).az.length=SL):=hSL;clear hSL;go_wp2;go_loopg [10,8,5] SL (λg r v u wr=>∃k:Nat,g=SL - k/\k<=SL/\r=i6 k/\xS (81+81*k) v (λa8 c8 cs=>xS (1+S i+k) u (λa5 c5 al=>yH (MI i k cs al)/\yH (D sp (S i+250+800*k) [(lV a8 cs.length c8,cs),(lV a5 al.length c5,al)] [(n,.cells (jD (m i)) 107 (0,0))] wr))))
  .exact⟨0,rfl,by omega,rfl,_,_,_,rfl,A2.o,_,_,_,rfl,A0.o,C0,H8⟩
  obtain⟨k,hg,hk,rfl,a8,c8,cs,rfl,B4,a5,c5,al,rfl,B2,C0,HD⟩:=hrel;have E3:yH (gk=SL - k):=hg;have A2:yH (fh (81+81*k) cs):=B4;have A0:yH (fh (1+S i+k) al):=B2;clear hg B4 B2;generalize gk=GK2 at*;obtain⟨hn,b0,b4⟩:=H0.o _ _ _ _ _ _ HD.o;rw[A4.o] at b4;by_cases G4:k<SL
  .have L2:(k:Int)<(SL:Int):=by omega
   obtain⟨gs,x,G8,K9,e0,hx,G3⟩:=K2.o _ _ _ _ _ i k HD.o A1 (by rw[A4.o];exact G4);rw[G8] at b4;have H2:yH (yC 60 #[pV (some ⟨sp,0,none⟩),sV (m i).addr,sV x] wr.drew λe w'=>∃u a' c' c q,e=rV (tV #[u,lV a' q.length c',i6 c])/\fh 81 q/\QZ i k q/\D sp (S i+250+800*k+800) ((lV a' q.length c',q)::[(lV a8 cs.length c8,cs),(lV a5 al.length c5,al)]) [(n,.cells (jD (m i)) 107 (0,0))] w'):=J7.o _ _ _ _ _ i k x (E2.o _ _ _ _ _ HD.o) A1 G3 hx (by have:=C2.o;have:=D6.o;rw[A4.o] at*;omega);have I0:yH (∀q,QZ i k q->(q.length=0->MI i (k+1) (cs++q) al)/\∀q0,q[0]? =some q0->MI i (k+1) (cs++q) (al++[q0])):=λq hz=>I3.o i k cs al q C0.o A1 (by rw[A4.o];exact G4) hz
   clear hx G8 HD G3;go_upto_region 13 with fail
   go_cut [11,12,13] from 49 to 81 (λ_u v _c wx=>xS 81 v (λa' c' q=>yH (QZ i k q)/\yH (D sp (S i+250+800*k+800) [(lV a' q.length c',q),(lV a8 cs.length c8,cs),(lV a5 al.length c5,al)] [(n,.cells (jD (m i)) 107 (0,0))] wx)))
   .go_region_with (go_at_call 60;apply H2.m;rintro e w6⟨u,a',c',c,q,rfl,hq,L7,A7⟩)
    all_goals
     go_wp2;go_meet;exact⟨_,_,_,rfl,hq,L7,A7⟩
   obtain⟨a12,c12,q,rfl,hq,E6,A3⟩:=hcut;obtain⟨F9,G0⟩:=I0.o q E6.o;have I9:yH (q.length=0->MI i (k+1) (cs++q) al):=F9;have J0:yH (∀q0,q[0]? =some q0->MI i (k+1) (cs++q) (al++[q0])):=G0;clear F9 G0 E6;have HQ:yH (fh 81 q):=hq;clear hq b0 b4 hn e0 K9;generalize wc=w6 at*;obtain⟨bq,D8⟩:∃bq,dE bq w6 (lV a12 q.length c12) q:=K7.o _ _ _ _ _ (lV a12 q.length c12,q) A3.o (Uk ..);obtain⟨a7,c7,w7,D9,A9⟩:=B7.o _ _ _ _ _ _ _ _ _ _ (D7.o _ _ _ _ _ _ _ A3.o) D8 (by have:=HQ.o.1;have:=A2.o.1;omega);have E7:yH ((Builtin.append_ #[63,63] 63 #[lV a8 cs.length c8,lV a12 q.length c12]).run yP w6=.ok (lV a7 (cs++q).length c7) w7):=D9;have E1:yH (fh (81+81*(k+1)) (cs++q)):=(A2.o.append HQ.o).mono (by omega);have E4:yH (S i+250+800*k+800<=S i+250+800*(k+1)):=by show _<=_;omega
   by_cases C4:q.length=0
   .have D1:yH (MI i (k+1) (cs++q) al):=I9.o C4;have L5:((q.length:Int) > 0)=False:=by rw[C4];simp
    have C8:yH (D sp (S i+250+800*(k+1)) [(lV a7 (cs++q).length c7,cs++q),(lV a5 al.length c5,al)] [(n,.cells (jD (m i)) 107 (0,0))] w7):=A6.o _ _ _ _ _ _ _ _ A9 E4.o (.cons_cons _ (.cons _ (.refl _))) (λ_ h=>h);have L6:¬(0:Int)<(q.length:Int):=by omega
    clear D9 A9 D8 L5 C4;go_wp2_with (at_builtin;refine jN rfl (.tmp 70) (.tmp 71) 63 rfl _ _ (lV a7 (cs++q).length c7) w7 rfl rfl E7.o ?_)
    go_roundg (SL - (k+1))
    .exact⟨k+1,rfl,by omega,by go_num,a7,c7,cs++q,(by first|rfl|simp),E1.o,a5,c5,al,rfl,A0.o.mono (by omega),D1,C8⟩
    have:=E3.o;omega
   obtain⟨q0,C5⟩:∃q0,q[0]? =some q0:=⟨_,Uh (by omega)⟩
   have D1:yH (MI i (k+1) (cs++q) (al++[q0])):=J0.o q0 C5;obtain⟨gq,B5,M2,M1⟩:=E8.o _ _ _ _ _ a12 c12 q A9 (Ul _ (Uk ..)) 0 q0 C5;subst B5;have F0:q0.size<=4096:=HQ.o.2 q0 (UQ C5);have B0:=A6.o _ _ _ _ _ _ [(n,.cells (jD (m i)) 107 (0,0))] _ (B8.o _ _ _ _ _ #[sV q0] 9 (D7.o _ _ _ _ _ _ _ (A6.o _ _ _ _ _ _ _ _ A9 E4.o (.cons_cons _ (.cons _ (.refl _))) (λ_ h=>h)))) (Ug _) (List.Sublist.refl _) (λb hb=>Ul _ hb);obtain⟨a9,c9,w9,B6,B1⟩:=B7.o _ _ _ _ _ _ _ 0 (lV (some ⟨w7.heap.size,0,none⟩) 1 1) [q0] B0 (dE.one w7 q0) (by have:=A0.o.1;have:=C2.o;have:=D6.o;have:=D2.o;rw[A4.o] at*;simp;omega);have D5:yH ((Builtin.append_ #[63,63] 63 #[lV a5 al.length c5,lV (some ⟨w7.heap.size,0,none⟩) 1 1]).run yP (w7.alloc (.cells #[sV q0] 9))=.ok (lV a9 (al++[q0]).length c9) w9):=B6;have C9:yH (D sp (S i+250+800*(k+1)) [(lV a7 (cs++q).length c7,cs++q),(lV a9 (al++[q0]).length c9,al++[q0])] [(n,.cells (jD (m i)) 107 (0,0))] w9):=D7.o _ _ _ _ _ _ _ B1;have C6:yH (fh (1+S i+(k+1)) (al++[q0])):=(A0.o.append (fh.one F0)).mono (by omega);have L6:(0:Int)<(q.length:Int):=by omega
   clear D9 A9 D8 B6 B1 B0 C5 F0 C4;go_wp2_with (at_builtin;first| (refine jN rfl (.tmp 70) (.tmp 71) 63 rfl _ _ (lV a7 (cs++q).length c7) w7 rfl rfl E7.o ?_) | (refine jN rfl (.tmp 76) (.tmp 80) 63 rfl _ _ (lV a9 (al++[q0]).length c9) w9 rfl rfl D5.o ?_))
   go_roundg (SL - (k+1))
   .exact⟨k+1,rfl,by omega,by go_num,a7,c7,cs++q,(by first|rfl|simp),E1.o,a9,c9,al++[q0],(by first|rfl|simp),C6.o,D1,C9⟩
   have:=E3.o;omega
  obtain rfl:k=SL:=by omega
  have L2:¬(k:Int)<(k:Int):=by omega
  clear b0;have K4:yH (TI i cs al 0):=I4.o i cs al (by rw[A4.o];exact C0.o);have J2:yH (∀j,j=cs.length->TI i cs al j->(cs.length=0->OI (i+1) al)/\∀x,cs[0]? =some x->OI (i+1) (al++[x])):=λj e h=>I6.o i cs al A1 (by rw[<-e];exact h)
  have H4:yH (cs.length<400000000000):=by show _<_;have:=A2.o.1;omega
  generalize hPL:cs.length=PL at*;have C1:yH (cs.length=PL):=hPL;clear hPL;have M0:PL<400000000000:=H4.o;go_wp2;go_loopg [14] PL (λg r wr=>∃j:Nat,g=PL - j/\j<=PL/\r=i6 j/\yH (TI i cs al j)/\yH (D sp (S i+250+800*k) [(lV a8 PL c8,cs),(lV a5 al.length c5,al)] [(n,.cells (jD (m i)) 107 (0,0))] wr))
  .exact⟨0,rfl,by omega,rfl,K4,HD⟩
  clear b4 hn;obtain⟨j,hg,hj,rfl,C3,HD⟩:=hrel;have H9:yH (gk=PL - j):=hg;clear hg;generalize gk=GK3 at*;obtain⟨r0,r3,A5⟩:=E5.o _ _ _ _ _ HD.o;have E9:yH (oM wr a8 cs):=E8.o _ _ _ _ _ a8 c8 cs HD.o (by rw[C1.o];exact Uk ..);by_cases L3:j<PL
  .have L1:(j:Int)<(PL:Int):=by omega
   obtain⟨x,hx⟩:∃x,cs[j]? =some x:=⟨_,Uh (by rw[C1.o];exact L3)⟩
   obtain⟨gp,B5,F8,F6⟩:=E9.o j x hx;have A8:x.size<=4096:=A2.o.2 x (UQ hx);subst B5;have H3:yH (yC 85 #[pV (some ⟨st,0,none⟩),sV x] wr.drew λe w'=>kS (TZ x) e/\D sp (S i+250+800*k) [(lV (some ⟨gp,0,none⟩) PL c8,cs),(lV a5 al.length c5,al)] [(n,.cells (jD (m i)) 107 (0,0))] w'):=K6.o _ _ _ _ _ _ (E2.o _ _ _ _ _ HD.o) A8;have J1:yH (TZ x false->TI i cs al (j+1)):=λhz=>I5.o i cs al j x C3.o hx hz
   clear hx A8 HD r3 C3;go_upto_region 20 with fail
   go_cut [15] from 82 to 97 (λv wx=>Ue (TZ x) v/\yH (D sp (S i+250+800*k) [(lV (some ⟨gp,0,none⟩) PL c8,cs),(lV a5 al.length c5,al)] [(n,.cells (jD (m i)) 107 (0,0))] wx))
   .go_region_with (go_at_call 85;apply H3.m;rintro e w6⟨⟨b,rfl,B3⟩,A7⟩;have C7:yH (TZ x b):=B3;clear B3)
    all_goals
     go_wp2;go_meet;exact⟨⟨b,rfl,C7.o⟩,A7⟩
   obtain⟨⟨b,rfl,B3⟩,A3⟩:=hcut;have C7:yH (TZ x b):=B3;clear B3;clear r0 A5 F6 F8;cases b with
   |true=>go_wp2;go_ret;exact⟨⟨true,rfl,I8.o⟩,_,_,_,_,A3⟩
   |false=>
    have K5:yH (TI i cs al (j+1)):=J1.o C7.o;go_wp2;go_roundg (PL - (j+1))
    .exact⟨j+1,rfl,by omega,by go_num,K5,A3⟩
    have:=H9.o;omega
  obtain rfl:j=PL:=by omega
  have L1:¬(j:Int)<(j:Int):=by omega
  have B9:yH (S i+250+800*k<=S (i+1)):=by show _<=_;have:=C2.o;omega
  obtain⟨G1,G2⟩:=J2.o j (by first|rfl|exact C1.o.symm) C3.o;have J3:yH (j=0->OI (i+1) al):=G1;have J4:yH (∀x,cs[0]? =some x->OI (i+1) (al++[x])):=G2;clear G1 G2 C3;by_cases G5:j=0
  .have L4:¬(0:Int)<(j:Int):=by omega
   have D4:yH (OI (i+1) al):=J3.o G5;have C8:yH (D sp (S (i+1)) [(lV a5 al.length c5,al)] [] wr):=A6.o _ _ _ _ _ _ _ _ HD.o B9.o (.cons _ (.refl _)) (λ_ h=>by cases h);have G9:yH (fh (1+S (i+1)) al):=A0.o.mono (by have:=B9.o;omega);clear r0 r3 A5 HD;go_wp2;go_roundg (N - (i+1))
   .exact⟨i+1,rfl,by omega,by go_num,a5,c5,al,rfl,G9.o,D4,C8⟩
   have:=HG.o;omega
  have L4:(0:Int)<(j:Int):=by omega
  obtain⟨x,hx⟩:∃x,cs[0]? =some x:=⟨_,Uh (by rw[C1.o];omega)⟩
  have D4:yH (OI (i+1) (al++[x])):=J4.o x hx;obtain⟨gp,B5,F8,F6⟩:=E9.o 0 x hx;have A8:x.size<=4096:=A2.o.2 x (UQ hx);subst B5;have B0:=A6.o _ _ _ _ _ _ [] _ (B8.o _ _ _ _ _ #[sV x] 9 HD.o) B9.o (.cons _ (.refl _)) (λb hb=>by cases hb);obtain⟨a9,c9,w9,B6,B1⟩:=B7.o _ _ _ _ _ _ _ 0 (lV (some ⟨wr.heap.size,0,none⟩) 1 1) [x] B0 (dE.one wr x) (by have:=A0.o.1;have:=C2.o;have:=D6.o;have:=D2.o;rw[A4.o] at*;simp;omega);have D5:yH ((Builtin.append_ #[63,63] 63 #[lV a5 al.length c5,lV (some ⟨wr.heap.size,0,none⟩) 1 1]).run yP (wr.alloc (.cells #[sV x] 9))=.ok (lV a9 (al++[x]).length c9) w9):=B6;have C9:yH (D sp (S (i+1)) [(lV a9 (al++[x]).length c9,al++[x])] [] w9):=B1;have C6:yH (fh (1+S (i+1)) (al++[x])):=(A0.o.append (fh.one A8)).mono (by have:=B9.o;omega);clear B6 B1 B0 hx A8 HD r0 r3 A5 G5;go_wp2_with (at_builtin;refine jN rfl (.tmp 101) (.tmp 105) 63 rfl _ _ (lV a9 (al++[x]).length c9) w9 rfl rfl D5.o ?_)
  go_roundg (N - (i+1))
  .exact⟨i+1,rfl,by omega,by go_num,a9,c9,al++[x],(by first|rfl|simp),C6.o,D4,C9⟩
  have:=HG.o;omega
 obtain rfl:i=N:=by omega
 have L0:¬(i:Int)<(i:Int):=by omega
 have HX:yH (yC 45 #[lV a5 al.length c5] wr λe w'=>kS (CZ al) e/\D sp (S i) [(lV a5 al.length c5,al)] [] w'):=H1.o _ _ _ _ _ _ _ HD.o (A0.o.mono (by
  have:=D2.o;cases i with
  |zero=>have:=K1.o;omega
  |succ i=>have:=(HS.o i (by omega)).2;omega))
 go_wp2_with fail
 apply HX.m;rintro e w6⟨⟨b,rfl,F7⟩,A7⟩;have D0:yH (DB b):=I7.o al b D3.o F7;clear F7;have A3:yH (D sp (S i) [(lV a5 al.length c5,al)] [] w6):=A7;clear A7;go_wp2;go_ret;exact⟨⟨b,rfl,D0.o⟩,_,_,_,_,A3⟩
end Go.Proofs.YteaodagofkcgbaaGreatDoor
