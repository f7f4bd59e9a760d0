import Derived.Test.YteaodagofkcgbaaGreatDoorI
open Go.Proofs.Tryz
open Go.Proofs.Tryz renaming prog→yP
open Go.Value renaming string→sV,pointer→pV,int→iV,slice→lV,bool→bV,tuple→tV,agg→gV
open Go.Ending renaming returned→rV
namespace Go.Proofs.YteaodagofkcgbaaGreatDoor
open Go.RowKit
set_option maxRecDepth 100000
set_option maxHeartbeats 0
set_option linter.all false
def Q0(h q k)(ih:BN k):u9 (.ext h q k):=by
 intro w S p d hA hS _ hf;obtain⟨b,kp,S1,rfl,hs,B,A9,hK⟩:=hA;obtain⟨_,hn,hq,A3⟩:=hS;have c0:yc w b 0 (i6 2):=B.c0;have c2:yc w b 2 (sV (ae q)):=B.c2;have c3:yc w b 3 (sV ⟨#[]⟩):=B.c3;obtain⟨u,rfl⟩:=hK.ptr;have c4:yc w b 4 (pV u):=B.c4;have A2:=B.lt;have HP:yH (∀W:World,yC 151 #[sV (ae q),bV false] W λe w'=>e=rV (tV #[sV (ae (cR q false)),i6 0])/\yW W w'):=λW=>by
  have:=Fb (ae q) false (by rw[aN];omega) (by rw[eU];exact hn) W;rw[eU] at this;exact this
 obtain⟨e,rfl,_,A4⟩:=Ix d _ _ hf;have HK:yH (∀W,yW w W->yC 150 #[pV u] W (pM e W k.ref)):=λW hW=>ih W S1 _ e (hK.below hW) A3 A4
 have HX:yH (∀(W:World) (g:Nat) (S:Nat->Prop) (fr:Nat×Nat) (b0 b1 b2:Value),W.heap[g]? =some (.cells #[bV false,sV (ae (cR q false)),lV none 0 0,b0,b1,b2] 155 fr)->S g->bg e W S [b0,b1,b2] k.ref->
  bg (e+1) W S [bV true,sV ⟨#[]⟩,lV (qA g) 2 2] (Nd.ext h q k).item):=λW g S fr b0 b1 b2 hg hs hk=>
  EZ e W S g _ _ _ _ _ _ 155 fr _ _ _ hg hs (xk e W S _ _ (by rw[rD];omega)) hk
 clear B hn hf A4 hK A9 A3;unfold ptr;generalize (Nd.ext h q k).item=X at*;generalize k.ref=Y at*;generalize hQ:ae q=Q at*;generalize hPK:ae (cR q false)=PK at*;go_enter func138,ntmps138
 have A6:yH (yW w (w.alloc (.cells #[bV false,sV ⟨#[]⟩,lV none 0 0] 155))):=(Un _ _).alloc (Ug _) _;go_upto_region 9 with fail
 go_cut [5] (λu wx=>u=sV PK/\Below (w.alloc (.cells #[bV false,sV ⟨#[]⟩,lV none 0 0] 155)).heap.size (w.alloc (.cells #[bV false,sV ⟨#[]⟩,lV none 0 0] 155)) wx)
 .go_region_with (go_at_call 151;refine(HP.o _).mono ?_;rintro e1 w1⟨rfl,B1⟩)
  all_goals (have A0:yH _:=B1;clear B1;go_wp2_with fail;go_meet;exact⟨rfl,by first|exact A0.o|exact A0.o.drew|exact(Un _ _).drew.trans A0.o⟩)
 obtain⟨rfl,B1⟩:=hcut;obtain⟨k0,k1,k2,f0,f1,f2⟩:=iB B1;have A0:=aa (A6.o.trans (B1.mono (by simp)));have d0:=(A0.o.cell (p:=⟨b,0,none⟩) A2).trans c0;have d3:=(A0.o.cell (p:=⟨b,3,none⟩) A2).trans c3;have d4:=(A0.o.cell (p:=⟨b,4,none⟩) A2).trans c4;have hz:w.heap.size<wc.heap.size:=by have:=B1.size;simp at this;omega
 have B2:b<wc.heap.size:=by omega
 clear B1;go_wp2_with fail
 refine(HK.o _ (A0.o.alloc (by omega) _)).mono ?_;rintro e2 w2⟨l,t1,a,m,c,rfl,A5,A1⟩;obtain⟨q0,q1,q2,g0,g1,g2,_⟩:=zi hz k0 k1 k2 f0 f1 f2 A1;obtain⟨r0,r1,r2,s0,s1,s2⟩:=iB A1;have A7:=aa ((A0.o.alloc (by omega) _).trans (A1.mono (by simp;omega)));have B5:wc.heap.size<w2.heap.size:=by have:=A1.size;simp at this;omega
 have B0:w.heap.size<w2.heap.size:=by omega
 have B3:wc.heap.size≠w.heap.size:=by omega
 have B4:w.heap.size≠wc.heap.size:=by omega
 have A8:yH (∀W:World,(∀q,wc.heap.size<q->q<w2.heap.size->W.heap[q]? =w2.heap[q]?)->bg e W (λq=>w.heap.size<=q) [bV l,sV t1,lV a m c] Y):=λW hW=>
  bg.move (λq hq A2=>⟨by have:wc.heap.size+1<=q:=(by simpa using hq);omega,hW q (by have:wc.heap.size+1<=q:=(by simpa using hq);omega) A2⟩) e _ _ A5
 clear A5 A1 k0 k1 k2 f0 f1 f2;go_wp2;refine UB (v:=gV #[bV true,sV ⟨#[]⟩,lV (qA w2.heap.size) 2 2]) (by simp[results,results138,go_sem,q0,q1,q2,B0]) rfl ⟨true,⟨#[]⟩,_,_,_,rfl,HX.o _ _ _ (0,0) (bV l) (sV t1) (lV a m c) ?_ ?_ ?_,?_⟩
 .exact xO _ _ _ (by simp)
 .show w.heap.size<=w2.heap.size;omega
 .refine A8.o _ λx hx hl=>?_
  rw[U6 _ _ _ (by simpa using hl)];have e1:x≠w.heap.size:=by omega
  have e2:x≠wc.heap.size:=by omega
  simp[Uy,e1,e2]
 exact(sy (((A7.o.setCell (show w.heap.size<=wc.heap.size by omega) _).setCell (show w.heap.size<=wc.heap.size by omega) _).setCell (show w.heap.size<=wc.heap.size by omega) _) _ _ _).alloc (by simp;omega) _
end Go.Proofs.YteaodagofkcgbaaGreatDoor
