import Derived.Test.YtiimkkahmpmhdaaGreatDoorG
open Go.Proofs.Tryz
open Go.Proofs.Tryz renaming prog→yP
open Go.Value renaming string→sV,pointer→pV,int→iV,slice→lV,bool→bV,tuple→tV,agg→gV
open Go.Ending renaming returned→rV
namespace Go.Proofs.YtiimkkahmpmhdaaGreatDoor
open Go.RowKit
set_option maxRecDepth 100000
set_option maxHeartbeats 0
set_option linter.all false
theorem NU(h q k)(ih:zW k):tM (.ext h q k):=by
 intro w S p d hA hS _ hf;obtain⟨b,kp,S1,rfl,hs,B,A9,hK⟩:=hA;obtain⟨_,hn,hq,A3⟩:=hS;have c0:w.cell? ⟨b,0,none⟩=some (iV .i64 2):=B.c0;have c2:w.cell? ⟨b,2,none⟩=some (sV (str q)):=B.c2;have c3:w.cell? ⟨b,3,none⟩=some (sV ⟨#[]⟩):=B.c3;obtain⟨u,rfl⟩:=hK.ptr;have c4:w.cell? ⟨b,4,none⟩=some (pV u):=B.c4;have A2:=B.lt;have HP:Hid (∀W:World,Calls yP 152 #[sV (str q),bV false] W fun e w'=>e=rV (tV #[sV (str (cN q false)),iV .i64 0])/\yW W w'):=fun W=>by
  have:=CF (str q) false (by rw[aH];omega) (by rw[dV];exact hn) W;rw[dV] at this;exact this
 obtain⟨e,rfl,_,A4⟩:=Fs d _ _ hf;have HK:Hid (∀W,yW w W->Calls yP 151 #[pV u] W (oM e W k.ref)):=fun W hW=>ih W S1 _ e (hK.below hW) A3 A4
 have HX:Hid (∀(W:World) (g:Nat) (S:Nat->Prop) (fr:Nat×Nat) (b0 b1 b2:Value),W.heap[g]? =some (.cells #[bV false,sV (str (cN q false)),lV none 0 0,b0,b1,b2] 155 fr)->S g->aY e W S [b0,b1,b2] k.ref->
  aY (e+1) W S [bV true,sV ⟨#[]⟩,lV (qA g) 2 2] (Nd.ext h q k).item):=fun W g S fr b0 b1 b2 hg hs hk=>
  CA e W S g _ _ _ _ _ _ 155 fr _ _ _ hg hs (vF e W S _ _ (by rw[qy];omega)) hk
 clear B hn hf A4 hK A9 A3;unfold ptr;generalize (Nd.ext h q k).item=X at*;generalize k.ref=Y at*;generalize hQ:str q=Q at*;generalize hPK:str (cN q false)=PK at*;go_enter func139,ntmps139
 have A6:Hid (yW w (w.alloc (.cells #[bV false,sV ⟨#[]⟩,lV none 0 0] 155))):=(Q1 _ _).alloc (QU _) _;go_upto_region 9 with fail
 go_cut [5] (fun u wx=>u=sV PK/\Below (w.alloc (.cells #[bV false,sV ⟨#[]⟩,lV none 0 0] 155)).heap.size (w.alloc (.cells #[bV false,sV ⟨#[]⟩,lV none 0 0] 155)) wx)
 case first=>
  go_region_with (go_at_call 152;refine(HP.out _).mono ?_;rintro e1 w1 ⟨rfl,B1⟩)
  all_goals (have A0:Hid _:=B1;clear B1;go_wp2_with fail;go_meet;exact⟨rfl,by first|exact A0.out|exact A0.out.drew|exact(Q1 _ _).drew.trans A0.out⟩)
 case rest=>
  obtain⟨rfl,B1⟩:=hcut;obtain⟨k0,k1,k2,f0,f1,f2⟩:=fV B1;have A0:=aa (A6.out.trans (B1.mono (by simp)));have d0:=(A0.out.cell (p:=⟨b,0,none⟩) A2).trans c0;have d3:=(A0.out.cell (p:=⟨b,3,none⟩) A2).trans c3;have d4:=(A0.out.cell (p:=⟨b,4,none⟩) A2).trans c4;have hz:w.heap.size<wc.heap.size:=by have:=B1.size;simp at this;omega
  have B2:b<wc.heap.size:=by omega
  clear B1;go_wp2_with fail
  refine(HK.out _ (A0.out.alloc (by omega) _)).mono ?_;rintro e2 w2 ⟨l,t1,a,m,c,rfl,A5,A1⟩;obtain⟨q0,q1,q2,g0,g1,g2,_⟩:=xM hz k0 k1 k2 f0 f1 f2 A1;obtain⟨r0,r1,r2,s0,s1,s2⟩:=fV A1;have A7:Hid (yW w w2):=(A0.out.alloc (by omega) _).trans (A1.mono (by simp;omega));have B5:wc.heap.size<w2.heap.size:=by have:=A1.size;simp at this;omega
  have B0:w.heap.size<w2.heap.size:=by omega
  have B3:wc.heap.size≠w.heap.size:=by omega
  have B4:w.heap.size≠wc.heap.size:=by omega
  have A8:Hid (∀W:World,(∀q,wc.heap.size<q->q<w2.heap.size->W.heap[q]? =w2.heap[q]?)->aY e W (fun q=>w.heap.size<=q) [bV l,sV t1,lV a m c] Y):=fun W hW=>
   aY.move (fun q hq A2=>⟨by have:wc.heap.size+1<=q:=(by simpa using hq);omega,hW q (by have:wc.heap.size+1<=q:=(by simpa using hq);omega) A2⟩) e _ _ A5
  clear A5 A1 HK k0 k1 k2 f0 f1 f2;go_wp2_with fail
  refine Rf (v:=gV #[bV true,sV ⟨#[]⟩,lV (qA w2.heap.size) 2 2]) (by simp[results,results139,go_sem,q0,q1,q2,B0]) rfl ⟨true,⟨#[]⟩,_,_,_,rfl,HX.out _ _ _ (0,0) (bV l) (sV t1) (lV a m c) ?_ ?_ ?_,?_⟩
  ·exact wh _ _ _ (by simp)
  ·show w.heap.size<=w2.heap.size;omega
  ·refine A8.out _ fun x hx hl=>?_
   rw[RL _ _ _ (by simpa using hl)];have e1:x≠w.heap.size:=by omega
   have e2:x≠wc.heap.size:=by omega
   simp[Rc,e1,e2]
  ·exact(re (((A7.out.setCell (show w.heap.size<=wc.heap.size by omega) _).setCell (show w.heap.size<=wc.heap.size by omega) _).setCell (show w.heap.size<=wc.heap.size by omega) _) _ _ _).alloc (by simp;omega) _
theorem MP(w):(Instr.makeSlice 153 (iV .i64 0) (iV .i64 17)).run yP w=.ok (lV (qA w.heap.size) 0 17) (w.alloc (.cells (madeCells #[bV false,sV ⟨#[]⟩,lV none 0 0] 51) 155)):=by
 obtain⟨i0,hi,a,b,c⟩:=Sf Z8;have:=run_make (P:=yP) w 153 155 i0 _ underlying153 hi a .i64 .i64 0 17 (by omega) (by omega) (by rw[c];omega) (by omega);rw[b] at this;exact this
theorem Lz(w:World)(base:Nat)(a:base<=w.heap.size):(w.alloc (.cells (madeCells #[bV false,sV ⟨#[]⟩,lV none 0 0] 51) 155)).ownsRow base 155 3 (lV (qA w.heap.size) 0 17) 0 []:=
 ⟨rfl,.inr ⟨w.heap.size,17,_,rfl,a,Rl _ _,by omega,by unfold maxLen;omega,by rw[size_madeCells],by simp⟩⟩
theorem zL(v)(ks:Nat->Nd):((List.range 16).map (fun i=>jT (ks i) (ks i).item)++[ay v]).length=17:=by simp
def mX(v:yL)(ks:Nat->Nd)(i:Nat):Tree:=if i<16 then(ks i).ref else ay v
theorem Nu(v)(ks:Nat->Nd)(i:Nat)(h:i<17):((List.range 16).map (fun i=>jT (ks i) (ks i).item)++[ay v]).getD i (ay [])=mX v ks i:=by
 unfold mX;by_cases h16:i<16
 ·rw[QX h16,Q3,RA (by simpa using h16),Rp,List.getElem?_range h16];rfl
 ·obtain rfl:i=16:=by omega
  rw[QW h16,Q3,RY (by simp)];rfl
theorem Ox(d:Nat)(v)(ks:Nat->Nd)(h:bK d (bH ((List.range 16).map (fun i=>jT (ks i) (ks i).item)++[ay v]))=true):∃e,d=e+1/\∀i,i<16->bK e (ks i).ref=true:=by
 cases d with
 |zero=>rw[zo] at h;cases h
 |succ e=>
  rw[mq] at h;simp only[Sh,Sp] at h;exact⟨e,rfl,fun i hi=>h.2 _ (Re.2 (.inl (Rt.2 ⟨i,Sg.2 hi,rfl⟩)))⟩
theorem Et{base e i d cap g2:Nat}{w1 w2:World}{f:List Value}{T:Nat->Tree}{a b c:Value}{o:Obj}
 (m:w1.ownsRow base 155 3 (lV (qA d) i cap) i f)
 (t:∀j,j<i->aY e w1 (fun q=>base<=q/\d≠q) ((f.drop (3*j)).take 3) (T j))
 (v:aY e w1 (fun q=>base<=q/\d≠q) [a,b,c] (T i))
 (s:World.grownBy (w1.alloc o) w2 (Value.ownBlock (lV (qA d) i cap)))
 (n:Value.ownBlock (lV (qA d) i cap)=some g2\/(w1.alloc o).heap.size<=g2):
 ∀j,j<i+1->aY e w2 (fun q=>base<=q/\g2≠q) (((f++[a,b,c]).drop (3*j)).take 3) (T j):=by
 have r:∀q,q<w1.heap.size->d≠q->w2.heap[q]? =w1.heap[q]? :=fun q g k=>by
  rw[<-RL w1 o q g];exact s.block q (by simp;omega) (fun h=>k (by simpa [Value.ownBlock] using h.symm))
 have p:∀q,q<w1.heap.size->d≠q->g2≠q:=fun q g k h=>by
  rcases n with h2|h2
  ·exact k ((by simpa [Value.ownBlock] using h2:d=g2).trans h)
  ·simp at h2;omega
 have mv:∀cs x,aY e w1 (fun q=>base<=q/\d≠q) cs x->aY e w2 (fun q=>base<=q/\g2≠q) cs x:=fun cs x h=>
  aY.move (fun q g l=>⟨⟨g.1,p q l g.2⟩,r q l g.2⟩) e cs x h
 intro j y;have w:f.length=3*i:=by have:=m.1;omega
 by_cases u:j<i
 ·have e1:((f++[a,b,c]).drop (3*j)).take 3=(f.drop (3*j)).take 3:=by
   rw[List.drop_append_of_le_length (by omega),List.take_append_of_le_length (by rw[Q8];omega)]
  rw[e1];exact mv _ _ (t j u)
 ·obtain rfl:j=i:=by omega
  have e1:((f++[a,b,c]).drop (3*j)).take 3=[a,b,c]:=by rw[<-w,List.drop_left];rfl
  rw[e1];exact mv _ _ v
theorem NV(h v:yL)(ks:Nat->Nd)(ih:∀i,i<16->zW (ks i)):tM (.branch h v ks):=by
 intro w S p d hA hS _ hf;obtain⟨b,B5,Ss,rfl,hs,B,B8,B6,hK⟩:=hA;obtain⟨_,Y,A6⟩:=hS;have c0:w.cell? ⟨b,0,none⟩=some (iV .i64 3):=B.c0;have c3:w.cell? ⟨b,3,none⟩=some (sV (str v)):=B.c3;have HC:Hid (∀i,i<16->∃u,B5 i=pV u/\w.cell? ⟨b,5+i,none⟩=some (pV u)):=fun i hi=>by
  obtain⟨u,J⟩:=(hK i hi).ptr;exact⟨u,J,by rw[B.ck i hi,J]⟩
 have A1:=B.lt;obtain⟨e,rfl,A9⟩:=Ox d v ks hf;have HK:Hid (∀W i u,i<16->B5 i=pV u->yW w W->Calls yP 151 #[pV u] W (oM e W (mX v ks i))):=fun W i u hi J F=>by
  have:=ih i hi W (Ss i) _ e ((hK i hi).below F) (A6 i hi) (A9 i hi);rw[J] at this;unfold mX;rw[QX hi];exact this
 have B7:=MP;obtain⟨i0,B0,B2,B3,B4⟩:=Sf Z8;clear B hf A9 hK B8 A6 ih B6;unfold ptr;go_enter func139,ntmps139
 go_upto_region 3 with fail
 obtain⟨f,N⟩:=yX (w.alloc (.cells #[bV false,sV ⟨#[]⟩,lV none 0 0] 155))
 have A7:yW w f:=by rw[N];exact(Q1 _ _).alloc (QU _) _
 have A3:f.heap.size=w.heap.size+1:=by rw[N];simp
 have A5:=aa A3;have R:=aa A7;have HR:Hid (f.heap[w.heap.size]? =some (.cells #[bV false,sV ⟨#[]⟩,lV none 0 0] 155 (0,0))):=by show _=_;rw[N];exact Rl _ _
 have I:=Lz f f.heap.size (QU _);have G:yW f (f.alloc (.cells (madeCells #[bV false,sV ⟨#[]⟩,lV none 0 0] 51) 155)):=(Q1 _ _).alloc (QU _) _;rw[<-N];generalize hW2:f.alloc (.cells (madeCells #[bV false,sV ⟨#[]⟩,lV none 0 0] 51) 155)=W2 at*;rw[<-A3];generalize hG1:f.heap.size=g1 at I⊢;have D:Hid (W2.ownsRow f.heap.size 155 3 (lV (qA g1) 0 17) 0 []):=by rw[hG1];exact I
 have C:=aa G;clear I G A7 A3 N hW2 hG1 B7;go_wp2_with fail
 go_loopg [3,4] 16 (fun g sl r wr=>∃(i n cap:Nat) (s:List Value),g=16 - i/\i<=16/\sl=lV (qA n) i cap/\r=iV .i64 (i:Int)/\wr.ownsRow f.heap.size 155 3 (lV (qA n) i cap) i s/\
  Hid (∀j,j<i->aY e wr (fun q=>f.heap.size<=q/\n≠q) ((s.drop (3*j)).take 3) (mX v ks j))/\yW f wr)
 case atStart=>exact⟨0,g1,17,[],rfl,by omega,rfl,rfl,D.out,fun j H=>by omega,C.out⟩
 case round=>
  obtain⟨i,n,cap,s,hg,hi,rfl,rfl,I,V,G⟩:=hrel;have HG:=aa hg;have y:=aa I;have x:=aa G;have L:=aa (R.out.trans (G.mono R.out.size));clear hg I G D C;by_cases h16:i<16
  ·obtain⟨u,J,A8⟩:=HC.out i h16;have hI:(i:Int)<16:=by omega
   have dk:=(L.out.cell (p:=⟨b,5+i,none⟩) A1).trans A8;clear A8;go_wp2_with fail
   refine(HK.out _ i u h16 J L.out).mono ?_;rintro e1 w1 ⟨l,t1,a,m,c,rfl,B1,z⟩;have A0:n<wr.heap.size:=(y.out.lt n rfl).2;have T:=aa (qz y.out z);have A4:Hid (∀j,j<i->aY e w1 (fun q=>f.heap.size<=q/\n≠q) ((s.drop (3*j)).take 3) (mX v ks j)):=fun j H=>(V.out j H).below z
   have M:Hid (aY e w1 (fun q=>f.heap.size<=q/\n≠q) [bV l,sV t1,lV a m c] (mX v ks i)):=aY.move (fun q t _=>⟨⟨Q7 x.out.size t,by omega⟩,rfl⟩) e _ _ B1;have K:=aa (x.out.trans (z.mono x.out.size));clear B1 z A0 V y x L dk;go_wp2_with (at_builtin;refine RG _ rfl (.tmp 18) (.tmp 26) 153 rfl f.heap.size 155 i0 _ 3 48 underlying153 B0 B2 B3 B4 rfl (by decide) (lV (qA n) i cap) i s rfl (T.out.alloc _) ⟨w1.heap.size,0,none⟩ 1 1 [bV l,sV t1,lV a m c] rfl rfl ?c1 ?c2 (by omega) ?c3 ?c4 ?c5 _ rfl ?c6)
   case c1=>exact CG w1 _ _ _ rfl
   case c2=>intro v Y;simp at Y;rcases Y with rfl|rfl|rfl<;>rfl
   case c3=>unfold maxLen;omega
   case c4=>omega
   case c5=>have:=K.out.size;simp;omega
   intro g2 E w2 P A O A2;have Z:Hid (∀j,j<i+1->aY e w2 (fun q=>f.heap.size<=q/\g2≠q) (((s++[Value.bool l,Value.string t1,Value.slice a m c]).drop (3*j)).take 3) (mX v ks j)):=Et T.out A4.out M.out A (O.imp id (fun h=>by rw[h];simp));have D:=aa P;have C:Hid (yW f w2):=(K.out.alloc K.out.size _).grown A (by have:=K.out.size;simp;omega) (fun k hk=>(T.out.lt k hk).1);clear P A O A2 T A4 M K;go_wp2_with fail
   go_roundg (16 - (i+1))
   case measure=>have:=HG.out;omega
   case rel=>exact⟨i+1,g2,E,_,rfl,by omega,rfl,by go_num,D.out,Z.out,C.out⟩
  ·obtain rfl:i=16:=by omega
   have hI:¬((16:Nat):Int)<16:=by omega
   have d3:=(L.out.cell (p:=⟨b,3,none⟩) A1).trans c3;have A0:n<wr.heap.size:=(y.out.lt n rfl).2;have B9:b<wr.heap.size:=Q6 A1 L.out.size;have M:Hid (aY e wr (fun q=>f.heap.size<=q/\n≠q) [bV false,sV (str v),lV none 0 0] (mX v ks 16)):=vF e _ _ v _ (by omega);clear A0 Y;go_wp2_with (at_builtin;refine RG _ rfl (.tmp 28) (.tmp 34) 153 rfl f.heap.size 155 i0 _ 3 48 underlying153 B0 B2 B3 B4 rfl (by decide) (lV (qA n) 16 cap) 16 s rfl (y.out.alloc _) ⟨wr.heap.size,0,none⟩ 1 1 [bV false,sV (str v),lV none 0 0] rfl rfl ?e1 ?e2 (by omega) ?e3 ?e4 ?e5 _ rfl ?e6)
   case e2=>exact⟨rfl,rfl,rfl⟩
   case e3=>unfold maxLen;omega
   case e5=>have:=x.out.size;simp;omega
   intro g2 E w2 P A O A2;have Z:Hid (∀j,j<17->aY e w2 (fun q=>f.heap.size<=q/\g2≠q) (((s++[Value.bool false,Value.string (str v),Value.slice none 0 0]).drop (3*j)).take 3) (mX v ks j)):=Et y.out V.out M.out A (O.imp id (fun h=>by rw[h];simp));have D:=aa P;have z:yW f w2:=(x.out.alloc x.out.size _).grown A (by have:=x.out.size;simp;omega) (fun k hk=>(y.out.lt k hk).1);have Q:w2.heap[w.heap.size]? =some (.cells #[bV false,sV ⟨#[]⟩,lV none 0 0] 155 (0,0)):=(z.block _ (by rw[A5.out];omega)).trans HR.out;have q0:w2.cell? ⟨w.heap.size,0,none⟩=some (bV false):=by rw[Q5 w2 _ 0 _ _ _ Q];rfl
   have q1:w2.cell? ⟨w.heap.size,1,none⟩=some (sV ⟨#[]⟩):=by rw[Q5 w2 _ 1 _ _ _ Q];rfl
   have q2:w2.cell? ⟨w.heap.size,2,none⟩=some (lV none 0 0):=by rw[Q5 w2 _ 2 _ _ _ Q];rfl
   have U:∀o,w2.frozen? ⟨w.heap.size,o,none⟩=false:=fun o=>by simp[World.frozen?,Q]
   have f0:=U 0;have f1:=U 1;have f2:=U 2;have C:=aa z;clear P A O A2 M x V y z Q U;go_wp2_with fail
   refine Rf (v:=gV #[bV true,sV ⟨#[]⟩,lV (qA g2) 17 E]) (by simp[results,results139,go_sem,q0,q1,q2]) rfl ⟨true,⟨#[]⟩,_,_,_,rfl,?_,?_⟩
   ·have F:∀W:World,(∀q,q≠w.heap.size->W.heap[q]? =w2.heap[q]?)->aY (e+1) W (fun q=>w.heap.size<=q) [bV true,sV ⟨#[]⟩,lV (qA g2) 17 E] (Nd.branch h v ks).item:=fun W F=>by
     have X:∀q,f.heap.size<=q->w.heap.size<=q/\q≠w.heap.size:=fun q t=>by rw[A5.out] at t;omega
     refine vG e W _ ⟨#[]⟩ _ _ _ (by rw[zL];exact(CL D.out).move fun q t _=>⟨(X q t).1,F q (X q t).2⟩) (by rw[zL];decide) fun j H=>?_
     rw[zL] at H;rw[Nu v ks j H];exact aY.move (fun q t _=>⟨(X q t.1).1,F q (X q t.1).2⟩) e _ _ (Z.out j H)
    exact F _ fun q t=>by simp[Rc,t]
   ·exact re (R.out.trans (C.out.mono R.out.size)) _ _ _
theorem NW:∀t:Nd,tM t:=by
 intro t;induction t with
 |nil=>intro w S p d _ _ h;exact h.elim
 |unread h=>intro w S p d _ _ h;exact h.elim
 |leaf h q v=>exact NT h q v
 |ext h q k ih=>exact NU h q k (qo k ih)
 |branch h v ks ih=>exact NV h v ks fun i _=>qo (ks i) (ih i)
def lR(t:Nd):Prop:=bK 6 t.item=true/\t.code.length<=4096
theorem ON{t}(h:lR t):fy t.item=str t.code:=by
 unfold fy;rw[QX h.1,su _ (by unfold fg;exact Ra h.2)];rfl
theorem vW(w t S p)(d:At w t S p)(q:mz t)(g:t.read)(f:lR t):
 Calls yP 116 #[p] w fun e w'=>e=rV (sV (str t.code))/\yW w w':=by
 have k:=aa (NW t w S p 6 d q g f.1);have j:Hid (∀(W:World) (S:Nat->Prop) (l:Bool) (s:yB) (a:Option Addr) (m c:Nat),aY 6 W S [bV l,sV s,lV a m c] t.item->Calls yP 129 #[gV #[bV l,sV s,lV a m c]] W fun e w'=>e=rV (tV #[sV (str t.code),iV .i64 (eg t.item)])/\yW W w'):=fun W S l s a m c h=>by
  have:=tf W S _ _ _ _ h;rw[ON f] at this;exact this
 obtain⟨b,y,z,rfl,_,_⟩:=d.ah (by cases t<;>first|exact g.elim|trivial);unfold ptr at*;clear d q g f;generalize eg t.item=E at*;generalize str t.code=C at*;generalize t.item=X at*;go_enter func116,ntmps116
 go_wp2_with fail
 refine k.out.mono ?_;rintro e w1 ⟨l,s,a,m,c,rfl,v,r⟩;have n:=j.out w1 _ l s a m c v;have o:=aa n;have i:=aa r;clear v r n j k;go_wp2_with fail
 refine o.out.mono ?_;rintro e w2 ⟨rfl,u⟩;have x:=aa (i.out.trans (u.mono i.out.size));clear u o;go_wp2_with fail
 go_ret
 exact⟨rfl,x.out⟩
theorem Dm(k:Int)(h p v a b c):(eX k h p v b c).setIfInBounds 1 (sV a)=eX k a p v b c:=rfl
theorem Np(t:Nd):t.mk.kind=t.kind:=by cases t<;>rfl
theorem KW(t:Nd):t.mk.path=t.path:=by cases t<;>rfl
theorem Io(t:Nd):t.mk.value=t.value:=by cases t<;>rfl
theorem sS(t:Nd)(h:t.read):t.mk.hash=fv t.code:=by cases t<;>first|exact h.elim|rfl
theorem zi(w t S)(b:Nat)(k l)(z:At w t S (ptr b))(B:bL w b t k l)(A:mz t)(r:t.read)(K:t.hash=[])(i:lR t)(T:az w):
 Calls yP 149 #[ptr b] w fun e w'=>e=rV (ptr b)/\bL w' b t.mk k l/\Kept b w w':=by
 have f:=aa (vW w t S _ z A r i);have m:Hid (∀W,yW w W->Calls yP 24 #[sV (str t.code)] W fun e w'=>e=rV (sV (str (dS t.code)))/\yW W w'):=fun W d=>by
  have:=iE (str t.code) (by rw[aH];unfold maxLen;have:=i.2;omega) W (T.below d);rw[lW];exact this
 have n:=Np t;have q:=KW t;have s:=Io t;have o:=sS t r;have L:(str t.code).size<=4096:=by rw[aH];exact i.2
 have E:(str t.code).size=t.code.length:=aH _;have F:Hid (∀W,W.heap[b]? =w.heap[b]?->fv t.code=[]->bL W b t.mk k l):=fun W d h0=>by
  unfold bL;rw[n,q,s,o,h0,<-K];exact d.trans B
 have G:Hid (∀W:World,W.heap[b]? =w.heap[b]?->fv t.code=dS t.code->bL (W.setCell ⟨b,1,none⟩ (sV (str (dS t.code)))) b t.mk k l):=fun W d h0=>by
  unfold bL;rw[n,q,s,o,h0,Se W b 1 _ _ _ (d.trans B),Dm]
 have c1:=B.c1;have J:w.frozen? ⟨b,1,none⟩=false:=by simp[World.frozen?,show w.heap[b]? =_ from B]
 have j:=B.lt;have v:Hid (32<=t.code.length->fv t.code=dS t.code):=fun h=>QX h
 have x:Hid (¬32<=t.code.length->fv t.code=[]):=fun h=>QW h
 unfold ptr at*;clear z A r i T B n q s o;rw[<-E] at v x;clear E;generalize str t.code=C at*;generalize fv t.code=HO at*;generalize dS t.code=HL at*;by_cases h32:32<=C.size
 ·have I:(32:Int)<=(C.size:Int):=by omega
  go_enter func149,ntmps149
  go_wp2_with fail
  refine f.out.mono ?_;rintro e w1 ⟨rfl,a⟩;have y:=m.out w1 a;have H:=aa y;have c:=aa a;clear a y m f;go_wp2_with fail
  refine H.out.mono ?_;rintro e w2 ⟨rfl,D⟩;have g:=c.out.trans (D.mono c.out.size);have d1:=(g.cell (p:=⟨b,1,none⟩) j).trans c1;have e1:=(g.frozen (p:=⟨b,1,none⟩) j).trans J;have u:=aa g;clear D g;go_wp2_with fail
  go_ret
  exact⟨rfl,G.out _ (u.out.block b j) (v.out h32),(Kept.gj u.out b).set 1 _⟩
 ·have I:¬(32:Int)<=(C.size:Int):=by omega
  go_enter func149,ntmps149
  go_wp2_with fail
  refine f.out.mono ?_;rintro e w1 ⟨rfl,a⟩;have c:=aa a;clear a m f;go_wp2_with fail
  go_ret
  exact⟨rfl,F.out _ (c.out.block b j) (x.out h32),Kept.gj c.out b⟩
def fP(u:Nat->Option Addr):Value:=gV #[pV (u 0),pV (u 1),pV (u 2),pV (u 3),pV (u 4),pV (u 5),pV (u 6),pV (u 7),pV (u 8),pV (u 9),pV (u 10),pV (u 11),pV (u 12),pV (u 13),pV (u 14),pV (u 15)]
theorem xh{w}(T:az w)(o:Obj):az (w.alloc o):=T.below ((Q1 _ _).alloc (QU _) _)
theorem qH(w w':World)(t:Nd)(a b)(o:Obj)(d:w'=w.alloc o)(c:o=.cells (eX t.kind (str t.hash) (str t.path) (str t.value) a b) 167):bL w' w.heap.size t a b:=by
 subst d;subst c;exact Rl _ _
def Made(w:World)(S:Nat->Prop)(t:Nd)(e:Ending)(w':World):Prop:=∃u,e=rV (pV u)/\At w' t (fun x=>S x\/w.heap.size<=x) (pV u)/\yW w w'
theorem pe(w p v)(d:mz (.leaf [] p v))(h:lR (.leaf [] p v))(T:az w):
 Calls yP 133 #[sV (str p),sV (str v)] w (Made w (fun _=>False) (Nd.leaf [] p v).mk):=by
 have B:∀W,W=w.alloc (.cells (eX 1 ⟨#[]⟩ (str p) (str v) cL (fun _=>cL)) 167)->bL W w.heap.size (.leaf [] p v) cL (fun _=>cL):=fun W a=>qH w W _ _ _ _ a rfl
 have c:Hid (∀W,W=w.alloc (.cells (eX 1 ⟨#[]⟩ (str p) (str v) cL (fun _=>cL)) 167)->Calls yP 149 #[ptr w.heap.size] W fun e w'=>e=rV (ptr w.heap.size)/\bL w' w.heap.size (Nd.leaf [] p v).mk cL (fun _=>cL)/\yW w w'):=fun W a=>
  (zi W (.leaf [] p v) (fun x=>x=w.heap.size) w.heap.size cL (fun _=>cL) ⟨_,rfl,rfl,B W a⟩ (B W a) d trivial rfl h (by rw[a];exact xh T _)).mono fun e w' ⟨h1,h2,h3⟩=>⟨h1,h2,by
   have i:Kept w.heap.size w W:=by rw[a];exact(Kept.refl _ _).alloc _
   exact(i.trans h3).below (QU _)⟩
 clear B d h T;unfold ptr at*;generalize hP:str p=P at*;generalize hV:str v=V at*;go_enter func133,ntmps133
 go_wp2_with fail
 refine(c.out _ rfl).mono ?_;rintro e w1 ⟨rfl,f,g⟩;have b:Hid (bL w1 w.heap.size (Nd.leaf [] p v).mk cL (fun _=>cL)/\yW w w1):=⟨f,g⟩
 clear f g c;go_wp2_with fail
 go_ret
 exact⟨_,rfl,⟨_,rfl,.inr (QU _),b.out.1⟩,b.out.2⟩
theorem yo(w p k S u)(g:At w k S (pV u))(h:mz (.ext [] p k))(i:lR (.ext [] p k))(T:az w):
 Calls yP 136 #[sV (str p),pV u] w (Made w S (Nd.ext [] p k).mk):=by
 have c:=g.cut;have B:∀W,W=w.alloc (.cells (eX 2 ⟨#[]⟩ (str p) ⟨#[]⟩ (pV u) (fun _=>cL)) 167)->bL W w.heap.size (.ext [] p k) (pV u) (fun _=>cL):=fun W a=>qH w W _ _ _ _ a rfl
 have f:Hid (∀W,W=w.alloc (.cells (eX 2 ⟨#[]⟩ (str p) ⟨#[]⟩ (pV u) (fun _=>cL)) 167)->Calls yP 149 #[ptr w.heap.size] W fun e w'=>e=rV (ptr w.heap.size)/\At w' (Nd.ext [] p k).mk (fun x=>S x\/w.heap.size<=x) (ptr w.heap.size)/\yW w w'):=fun W a=>by
  have m:At W k (fun x=>S x/\x<w.heap.size) (pV u):=by rw[a];exact c.below ((Q1 _ _).alloc (QU _) _)
  refine(zi W (.ext [] p k) (fun x=>S x\/x=w.heap.size) w.heap.size (pV u) (fun _=>cL) ⟨_,_,_,rfl,.inr rfl,B W a,fun x d=>⟨.inl d.1,by omega⟩,m⟩ (B W a) h trivial rfl i (by rw[a];exact xh T _)).mono ?_;rintro e w' ⟨h1,h2,h3⟩;have l:Kept w.heap.size w W:=by rw[a];exact(Kept.refl _ _).alloc _
  have b:=(l.trans h3).below (QU _);exact⟨h1,⟨_,_,_,rfl,.inr (QU _),h2,fun x d=>⟨.inl d.1,by omega⟩,c.below b⟩,b⟩
 clear B h i T g c;unfold ptr at*;generalize hP:str p=P at*;go_enter func136,ntmps136
 go_wp2_with fail
 refine(f.out _ rfl).mono ?_;rintro e w1 ⟨rfl,b⟩;have j:=aa b;clear b f;go_wp2_with fail
 go_ret
 exact⟨_,rfl,j.out⟩
structure Kids(w:World)(ks:Nat->Nd)(S:Nat->Prop)(u:Nat->Option Addr)(Ss:Nat->Nat->Prop):Prop where
 at_:∀i,i<16->At w (ks i) (Ss i) (pV (u i))
 sub:∀i x,i<16->Ss i x->S x
 iH:∀i j x,i<16->j<16->Ss i x->Ss j x->i=j
theorem qE(w v)(ks:Nat->Nd)(S)(u:Nat->Option Addr)(d:Nat->Nat->Prop)(f:Kids w ks S u d)(s:mz (.branch [] v ks))(y:lR (.branch [] v ks))(T:az w):
 Calls yP 138 #[fP u,sV (str v)] w (Made w S (Nd.branch [] v ks).mk):=by
 have k:∀i,i<16->At w (ks i) (fun x=>d i x/\x<w.heap.size) (pV (u i)):=fun i hi=>(f.at_ i hi).cut
 have o:=f.sub;have m:=f.iH;obtain⟨a,l⟩:=yX (w.alloc (.cells #[pV (u 0),pV (u 1),pV (u 2),pV (u 3),pV (u 4),pV (u 5),pV (u 6),pV (u 7),pV (u 8),pV (u 9),pV (u 10),pV (u 11),pV (u 12),pV (u 13),pV (u 14),pV (u 15)] 165))
 have z:a.heap.size=w.heap.size+1:=by rw[l];simp
 have g:yW w a:=by rw[l];exact(Q1 _ _).alloc (QU _) _
 have r:=T.below g;have B:∀W,W=a.alloc (.cells (eX 3 ⟨#[]⟩ ⟨#[]⟩ (str v) cL (fun i=>pV (u i))) 167)->bL W a.heap.size (.branch [] v ks) cL (fun i=>pV (u i)):=fun W b=>qH a W _ _ _ _ b rfl
 have q:Hid (∀W,W=a.alloc (.cells (eX 3 ⟨#[]⟩ ⟨#[]⟩ (str v) cL (fun i=>pV (u i))) 167)->Calls yP 149 #[ptr (w.heap.size+1)] W fun e w'=>e=rV (ptr (w.heap.size+1))/\At w' (Nd.branch [] v ks).mk (fun x=>S x\/w.heap.size<=x) (ptr (w.heap.size+1))/\yW w w'):=fun W b=>by
  have t:yW w W:=by rw[b];exact g.alloc g.size _
  have h:=B W b;rw[z] at h;refine(zi W (.branch [] v ks) (fun x=>S x\/x=w.heap.size+1) (w.heap.size+1) cL (fun i=>pV (u i)) ⟨_,_,fun i x=>d i x/\x<w.heap.size,rfl,.inr rfl,h,fun i x hi p=>⟨.inl (o i x hi p.1),by omega⟩,fun i j x hi n h1 h2=>m i j x hi n h1.1 h2.1,fun i hi=>(k i hi).below t⟩ h s trivial rfl y (by rw[b];exact xh r _)).mono ?_;rintro e w' ⟨h1,h2,h3⟩;have C:Kept (w.heap.size+1) w W:=Kept.gj t _;have c:=(C.trans h3).below (Nat.le_succ _);exact⟨h1,⟨_,_,fun i x=>d i x/\x<w.heap.size,rfl,.inr (Nat.le_succ _),h2,fun i x hi p=>⟨.inl (o i x hi p.1),by omega⟩,fun i j x hi n h1 h2=>m i j x hi n h1.1 h2.1,fun i hi=>(k i hi).below c⟩,c⟩
 clear B s y T f k o m z g r;unfold ptr fP at*;generalize hP:str v=V at*;go_enter func138,ntmps138
 go_wp2_with fail
 rw[<-l];refine(q.out _ rfl).mono ?_;rintro e w1 ⟨rfl,c⟩;have A:=aa c;clear c q;go_wp2_with fail
 go_ret
 exact⟨_,rfl,A.out⟩
def iW(t:Nd):Prop:=t.hash=fv t.code\/t.hash=dS t.code
def Nd.fw:Nd->Prop
 | .unread _=>True
 | .branch _ _ _=>True
 | _=>False
def aI:Nd->Prop
 | .nil=>True
 | .unread h=>h.length=32
 | .leaf h p v=>iW (.leaf h p v)/\ak p/\p.length<=80/\v.length<=160
 | .ext h p k=>iW (.ext h p k)/\ak p/\p.length<=80/\k.fw/\aI k
 | .branch h v ks=>iW (.branch h v ks)/\v.length<=160/\∀i,i<16->aI (ks i)
theorem iW.cases{t}(h:iW t):(t.hash=[]/\t.code.length<32)\/t.hash.length=32:=by
 rcases h with h|h
 ·unfold fv at h;by_cases a:32<=t.code.length
  ·rw[QX a] at h;right;rw[h];exact jY _
  ·rw[QW a] at h;exact .inl ⟨h,by omega⟩
 ·right;rw[h];exact jY _
theorem iW.two{t}(h:iW t):t.hash=[]\/t.hash.length=32:=h.cases.imp (fun h=>h.1) id
theorem iW.short{t}(h:iW t)(e:t.hash=[]):t.code.length<32:=by
 rcases h.cases with h|h
 ·exact h.2
 ·rw[e] at h;cases h
theorem aI.jS:∀{t},aI t->mz t
 | .nil,_=>trivial
 | .unread _,h=>h
 | .leaf _ _ _,h=>⟨h.1.two,h.2⟩
 | .ext _ _ _,h=>⟨h.1.two,h.2.1,h.2.2.1,h.2.2.2.2.jS⟩
 | .branch _ _ _,h=>⟨h.1.two,h.2.1,fun i hi=>(h.2.2 i hi).jS⟩
theorem lk:∀(d:Nat) (x:Tree),bK d x=true->bK (d+1) x=true
 |d,x,h=>by
  rcases sZ d x h with⟨t,rfl⟩|⟨e,ks,rfl,rfl,h1,h2⟩
  ·exact mn _ _
  ·rw[mq]
   simp only[Sh,SD,Sp]
   exact⟨h1,fun k a=>lk e k (Sp.1 h2 k a)⟩
theorem vV:∀(d:Nat) (x:Tree),bK d x=true->bm (d+1) x=bm d x
 |d,x,h=>by
  rcases sZ d x h with⟨t,rfl⟩|⟨e,ks,rfl,rfl,h1,h2⟩
  ·rw[ir,ir]
  ·rw[kL,kL]
   congr 2
   exact Sq fun k a=>vV e k (Sp.1 h2 k a)
theorem pg(b:yL):b.length+1<=(gG b).length/\(gG b).length<=b.length+9:=by
 unfold gG;rw[Q4];have:=zc 192 b.length;have:=zb 192 b.length;omega
theorem oS(t):1<=(dg t).length/\(dg t).length<=t.length+9:=by
 refine⟨AS t,?_⟩;unfold dg;split
 ·omega
 ·rw[Q4];have:=zc 128 t.length;omega
theorem p8(t:yL)(h:t.length=32):(dg t).length=33:=by
 have a:fB t≠true:=by unfold fB;simp[h]
 unfold dg;rw[QW a,Q4,h];rfl
theorem zn:∀(L:List yL),(∀c∈L,1<=c.length)->L.length<=L.flatten.length/\∀c∈L,c.length+L.length<=L.flatten.length+1
 | [],_=>⟨QU _,fun c b=>by cases b⟩
 |a::L,h=>by
  obtain⟨h1,h2⟩:=zn L fun c b=>h c (QZ _ b)
  have d:=h a (QY ..)
  rw[List.flatten_cons,Q4]
  refine⟨by simp only[Ro];omega,fun c b=>?_⟩
  rcases Rh.1 b with rfl|b
  ·simp only[Ro];omega
  ·have:=h2 c b;simp only[Ro];omega
theorem Fp:∀(L:List yL) (m:Nat),(∀c∈L,c.length<=m)->L.flatten.length<=L.length*m
 | [],m,_=>by simp
 |a::L,m,h=>by
  have:=Fp L m fun c b=>h c (QZ _ b)
  have d:=h a (QY ..)
  rw[List.flatten_cons,Q4,Ro,Nat.succ_mul]
  omega
theorem yS(t:Nd):∃ks,t.item=bH ks:=by cases t<;>exact⟨_,rfl⟩
theorem xN(t:Nd):(∃s,t.ref=ay s)\/(t.ref=t.item/\t.hash=[]/\t.some):=by
 cases t with
 |nil=>exact .inl ⟨_,rfl⟩
 |unread h=>by_cases e:h=[];exact .inr ⟨QX e,e,trivial⟩;exact .inl ⟨h,QW e⟩
 |leaf h p v=>by_cases e:h=[];exact .inr ⟨QX e,e,trivial⟩;exact .inl ⟨h,QW e⟩
 |ext h p k=>by_cases e:h=[];exact .inr ⟨QX e,e,trivial⟩;exact .inl ⟨h,QW e⟩
 |branch h v ks=>by_cases e:h=[];exact .inr ⟨QX e,e,trivial⟩;exact .inl ⟨h,QW e⟩
theorem js{t:Nd}(a:t.some)(h:t.hash≠[]):t.ref=ay t.hash:=by
 cases t<;>first|exact a.elim|exact QW h
theorem lu{t:Nd}(a:t.some)(h:t.hash=[]):t.ref=t.item:=by
 cases t<;>first|exact a.elim|exact QX h
theorem Kf(d:Nat)(t:Nd):1<=(bm (d+1) t.ref).length:=by
 rcases xN t with⟨s,h⟩|⟨h,_⟩
 ·rw[h,ir];exact(oS s).1
 ·obtain⟨ks,e⟩:=yS t;rw[h,e,kL];exact Q7 (Nat.le_add_left _ _) (pg _).1
def lM(d:Nat)(v:yL)(ks:Nat->Nd):List yL:=(List.range 16).map (fun i=>bm d (ks i).ref)++[dg v]
theorem zH(d:Nat)(h v)(ks:Nat->Nd):bm (d+1) (Nd.branch h v ks).item=gG (lM d v ks).flatten:=by
 show bm (d+1) (bH _)=_;rw[kL];congr 2;unfold lM;rw[R9,List.map_map];congr 1;show [bm d (ay v)]=_;rw[ir]
theorem zM(d:Nat)(v)(ks:Nat->Nd):(lM d v ks).length=17:=by simp[lM]
theorem Gs(d:Nat)(v)(ks:Nat->Nd):∀c∈lM (d+1) v ks,1<=c.length:=by
 intro c a;rcases Re.1 a with a|a
 ·obtain⟨i,_,rfl⟩:=Rt.1 a;exact Kf d (ks i)
 ·obtain rfl:=Q2.1 a;exact(oS v).1
theorem Gd(d:Nat)(h p k):bm (d+1) (Nd.ext h p k).item=gG (dg (cN p false)++bm d k.ref):=by
 show bm (d+1) (bH [ay _,k.ref])=_;rw[kL];simp[ir]
theorem Pj(d:Nat)(h p v):bm (d+1) (Nd.leaf h p v).item=gG (dg (cN p true)++dg v):=by
 show bm (d+1) (bH [ay _,ay _])=_;rw[kL];simp[ir]
theorem Gq(d:Nat)(h v)(ks:Nat->Nd):18<=(bm (d+2) (Nd.branch h v ks).item).length:=by
 rw[zH];have h1:=(pg (lM (d+1) v ks).flatten).1;have h2:=(zn _ (Gs d v ks)).1;rw[zM] at h2;omega
theorem OI(d:Nat)(h p)(k:Nd)(a:k.fw)(b:aI k):20<=(bm (d+3) (Nd.ext h p k).item).length:=by
 rw[Gd];have h1:=(pg (dg (cN p false)++bm (d+2) k.ref)).1;rw[Q4] at h1;have h2:=(oS (cN p false)).1;have h3:18<=(bm (d+2) k.ref).length:=by
  cases k with
  |unread x=>
   have c:x≠[]:=fun e=>by subst e;cases b
   rw[js (t:=.unread x) trivial c,ir];have:=p8 x b;show 18<=(dg x).length;omega
  |branch x v ks=>
   by_cases e:x=[]
   ·rw[lu (t:=.branch x v ks) trivial e];exact Gq d x v ks
   ·rw[js (t:=.branch x v ks) trivial e,ir,p8 _ (b.1.two.resolve_left e)];omega
  |nil=>exact a.elim
  |leaf _ _ _=>exact a.elim
  |ext _ _ _=>exact a.elim
 omega
theorem zq(d:Nat)(h p v):bK (d+1) (Nd.leaf h p v).item=true:=by
 show bK (d+1) (bH [ay _,ay _])=true;rw[mq];simp[mn]
theorem Fu(d:Nat)(h p)(k:Nd)(a:bK d k.ref=true):bK (d+1) (Nd.ext h p k).item=true:=by
 show bK (d+1) (bH [ay _,k.ref])=true;rw[mq];simp[mn,a]
theorem Fv(d:Nat)(h v)(ks:Nat->Nd)(b:∀i,i<16->bK d (ks i).ref=true):bK (d+1) (Nd.branch h v ks).item=true:=by
 show bK (d+1) (bH _)=true;rw[mq];simp only[Sh,SD,Sp];refine⟨by simp,fun x a=>?_⟩;rcases Re.1 a with a|a
 ·obtain⟨i,hi,rfl⟩:=Rt.1 a;exact b i (Sg.1 hi)
 ·obtain rfl:=Q2.1 a;exact mn _ _
theorem Ew(h v)(ks:Nat->Nd)(hF:aI (.branch h v ks))(he:h=[]):bK 2 (Nd.branch h v ks).item=true:=by
 refine Fv 1 h v ks fun i hi=>?_
 rcases xN (ks i) with⟨s,e⟩|⟨e,eh,es⟩
 ·rw[e];exact mn _ _
 ·have hs:(bm 6 (Nd.branch h v ks).item).length<32:=hF.1.short he;rw[zH] at hs;have h1:=(pg (lM 5 v ks).flatten).1;have h2:(bm 5 (ks i).ref).length+(lM 5 v ks).length<=(lM 5 v ks).flatten.length+1:=(zn _ (Gs 4 v ks)).2 (bm 5 (ks i).ref) (Re.2 (.inl (Rt.2 ⟨i,Sg.2 hi,rfl⟩)));rw[zM] at h2;have A1:(bm 5 (ks i).ref).length<=14:=by omega
  have A0:=hF.2.2 i hi;rw[e] at A1⊢;clear h1 h2 hs e;generalize ks i=K at*;cases K with
  |nil=>exact es.elim
  |unread x=>have:x.length=32:=A0;rw[show x=[] from eh] at this;cases this
  |leaf x p w=>exact zq 0 x p w
  |ext x p k=>have:20<=(bm 5 (Nd.ext x p k).item).length:=OI 2 x p k A0.2.2.2.1 A0.2.2.2.2;exact absurd A1 (by omega)
  |branch x w k=>have:18<=(bm 5 (Nd.branch x w k).item).length:=Gq 3 x w k;exact absurd A1 (by omega)
theorem vH(t)(a:aI t)(f:t.some)(d:t.hash=[]):bK 3 t.item=true:=by
 cases t with
 |nil=>exact f.elim
 |unread x=>have:x.length=32:=a;rw[show x=[] from d] at this;cases this
 |leaf x p v=>exact zq 2 x p v
 |ext x p k=>
  refine Fu 2 x p k ?_;have b:=a.2.2.2.1;have c:=a.2.2.2.2;cases k with
  |unread y=>
   have g:y≠[]:=fun e=>by subst e;cases c
   rw[js (t:=.unread y) trivial g];exact mn _ _
  |branch y v ks=>
   by_cases e:y=[]
   ·rw[lu (t:=.branch y v ks) trivial e];exact Ew y v ks c e
   ·rw[js (t:=.branch y v ks) trivial e];exact mn _ _
  |nil=>exact b.elim
  |leaf _ _ _=>exact b.elim
  |ext _ _ _=>exact b.elim
 |branch x v ks=>exact lk 2 _ (Ew x v ks a d)
theorem BV(t)(c:aI t):bK 3 t.ref=true:=by
 rcases xN t with⟨s,e⟩|⟨e,a,b⟩
 ·rw[e];exact mn _ _
 ·rw[e];exact vH t c b a
theorem BU(t)(a:aI t):(bm 5 t.ref).length<=33:=by
 cases t with
 |nil=>decide
 |unread x=>
  have b:x≠[]:=fun e=>by subst e;cases a
  rw[js (t:=.unread x) trivial b,ir];have:=p8 x a;show(dg x).length<=33;omega
 |leaf x p v=>
  by_cases e:x=[]
  ·have h1:=a.1.short e;have h2:=vH _ a trivial e;rw[lu (t:=.leaf x p v) trivial e,<-vV 5 _ (lk 4 _ (lk 3 _ h2))];show(Nd.leaf x p v).code.length<=33;omega
  ·rw[js (t:=.leaf x p v) trivial e,ir,p8 _ (a.1.two.resolve_left e)];omega
 |ext x p v=>
  by_cases e:x=[]
  ·have h1:=a.1.short e;have h2:=vH _ a trivial e;rw[lu (t:=.ext x p v) trivial e,<-vV 5 _ (lk 4 _ (lk 3 _ h2))];show(Nd.ext x p v).code.length<=33;omega
  ·rw[js (t:=.ext x p v) trivial e,ir,p8 _ (a.1.two.resolve_left e)];omega
 |branch x p v=>
  by_cases e:x=[]
  ·have h1:=a.1.short e;have h2:=vH _ a trivial e;rw[lu (t:=.branch x p v) trivial e,<-vV 5 _ (lk 4 _ (lk 3 _ h2))];show(Nd.branch x p v).code.length<=33;omega
  ·rw[js (t:=.branch x p v) trivial e,ir,p8 _ (a.1.two.resolve_left e)];omega
theorem nt(h p v:yL)(a:p.length<=80)(b:v.length<=160):lR (.leaf h p v):=by
 refine⟨zq 5 h p v,?_⟩;show(bm 6 (Nd.leaf h p v).item).length<=4096;rw[Pj];have h1:=(pg (dg (cN p true)++dg v)).2;have h2:=(oS (cN p true)).2;have h3:=(oS v).2;rw[qy] at h2;rw[Q4] at h1;omega
theorem tm(h p:yL)(k)(b:p.length<=80)(a:aI k):lR (.ext h p k):=by
 refine⟨Fu 5 h p k (lk 4 _ (lk 3 _ (BV k a))),?_⟩;show(bm 6 (Nd.ext h p k).item).length<=4096;rw[Gd];have h1:=(pg (dg (cN p false)++bm 5 k.ref)).2;have h2:=(oS (cN p false)).2;have h3:=BU k a;rw[qy] at h2;rw[Q4] at h1;omega
theorem oG(h v:yL)(ks:Nat->Nd)(d:v.length<=160)(b:∀i,i<16->aI (ks i)):lR (.branch h v ks):=by
 refine⟨Fv 5 h v ks fun i hi=>lk 4 _ (lk 3 _ (BV _ (b i hi))),?_⟩;show(bm 6 (Nd.branch h v ks).item).length<=4096;rw[zH];have h1:=(pg (lM 5 v ks).flatten).2;have h2:=Fp (lM 5 v ks) 169 (fun c a=>by
  rcases Re.1 a with a|a
  ·obtain⟨i,hi,rfl⟩:=Rt.1 a;have:=BU _ (b i (Sg.1 hi));omega
  ·obtain rfl:=Q2.1 a;have:=(oS v).2;omega)
 rw[zM] at h2;omega
theorem aI.nw{t}(h:aI t)(a:t.read):lR t:=by
 cases t with
 |nil=>exact a.elim
 |unread _=>exact a.elim
 |leaf x p v=>exact nt x p v h.2.2.1 h.2.2.2
 |ext x p k=>exact tm x p k h.2.2.1 h.2.2.2.2
 |branch x v ks=>exact oG x v ks h.2.1 h.2.2
def da(p v:yL):Nd:=(Nd.leaf [] p v).mk
def fq(p:yL)(k:Nd):Nd:=(Nd.ext [] p k).mk
def cP(ks:Nat->Nd)(v:yL):Nd:=(Nd.branch [] v ks).mk
theorem oB{p v:yL}(a:ak p)(b:p.length<=80)(c:v.length<=160):aI (da p v):=⟨.inl rfl,a,b,c⟩
theorem td{p}{k:Nd}(c:ak p)(d:p.length<=80)(a:k.fw)(b:aI k):aI (fq p k):=⟨.inl rfl,c,d,a,b⟩
theorem oC{v:yL}{ks}(b:v.length<=160)(a:∀i,i<16->aI (ks i)):aI (cP ks v):=⟨.inl rfl,b,a⟩
def aQ(p:yL):Nd->Nd
 | .leaf h q v=>if p=[] then .leaf h q v else da (p++q) v
 | .ext h q k=>if p=[] then .ext h q k else fq (p++q) k
 | .nil=>if p=[] then .nil else fq p .nil
 | .unread h=>if p=[] then .unread h else fq p (.unread h)
 | .branch h v ks=>if p=[] then .branch h v ks else fq p (.branch h v ks)
theorem lF(t):aQ [] t=t:=by cases t<;>simp[aQ]
theorem kC{a b}(c:ak a)(d:ak b):ak (a++b):=fun x e=>(Re.1 e).elim (c x) (d x)
theorem zs{p}{t:Nd}(c:ak p)(d:p.length+t.path.length<=80)(e:t.some)(a:aI t):aI (aQ p t):=by
 by_cases b:p=[]
 ·subst b;rw[lF];exact a
 ·cases t with
  |nil=>exact e.elim
  |leaf h q v=>simp only[aQ,QW b];exact oB (kC c a.2.1) (by rw[Q4];exact d) a.2.2.2
  |ext h q k=>simp only[aQ,QW b];exact td (kC c a.2.1) (by rw[Q4];exact d) a.2.2.2.1 a.2.2.2.2
  |unread h=>simp only[aQ,QW b];exact td c (by have:(Nd.unread h).path.length=0:=rfl;omega) trivial a
  |branch h v ks=>simp only[aQ,QW b];exact td c (by have:(Nd.branch h v ks).path.length=0:=rfl;omega) trivial a
theorem Made.mono{w S S' t e w'}(h:Made w S t e w')(a:∀x,S x->S' x):Made w S' t e w':=by
 obtain⟨u,h1,h2,h3⟩:=h;exact⟨u,h1,h2.mono fun x b=>b.imp (a x) id,h3⟩
theorem Made.after{w w0:World}{S t e w'}(a:yW w w0)(h:Made w0 S t e w'):Made w S t e w':=by
 obtain⟨u,h1,h2,h3⟩:=h;exact⟨u,h1,h2.mono fun x b=>b.imp id (Q7 a.size),a.trans (h3.mono a.size)⟩
theorem NI(w t S u)(a:At w t S (pV u)):Calls yP 115 #[sV ⟨#[]⟩,pV u] w (Made w S t):=by
 have b:Hid (At w t (fun x=>S x\/w.heap.size<=x) (pV u)):=a.mono fun x c=>.inl c
 clear a;go_enter func115,ntmps115
 go_wp2_with fail
 go_ret
 exact⟨u,rfl,b.out,Q1 _ _⟩
theorem NJ(w)(p h q v:yL)(hp:p≠[])(S u)(hn:ak p)(hl:p.length+q.length<=80)(hF:aI (.leaf h q v))(hA:At w (.leaf h q v) S (pV u))(T:az w):
 Calls yP 115 #[sV (str p),pV u] w (Made w S (da (p++q) v)):=by
 obtain⟨b,hu,hs,B⟩:=hA;cases hu
 have c0:w.cell? ⟨b,0,none⟩=some (iV .i64 1):=B.c0;have c2:w.cell? ⟨b,2,none⟩=some (sV (str q)):=B.c2;have c3:w.cell? ⟨b,3,none⟩=some (sV (str v)):=B.c3;have A2:=B.lt;have he:(str p).toList.isEmpty=false:=by rw[jP];simp[hp]
 have A0:=oB (kC hn hF.2.1) (by rw[Q4];exact hl) hF.2.2.2;have HL:Hid (∀W,yW w W->Calls yP 133 #[sV (str p++str q),sV (str v)] W (Made w S (da (p++q) v))):=fun W hW=>by
  rw[qb];exact(pe W (p++q) v ⟨.inl rfl,A0.2⟩ (nt _ _ _ A0.2.2.1 A0.2.2.2) (T.below hW)).mono fun e w' h=>(h.mono fun x hx=>hx.elim).after hW
 have A3:(str p).size+(str q).size<=80:=by rw[aH,aH];exact hl
 clear B A0 hF hp hn T;generalize str p=P at*;generalize str q=Q at*;generalize hV:str v=V at*;go_enter func115,ntmps115
 go_wp2_with fail
 go_region_with (go_at_call 133;refine(HL.out _ (by first|exact Q1 _ _ |exact(Q1 _ _).drew)).mono ?_;rintro e1 w1 ⟨u1,rfl,A1⟩)
 all_goals
  have HF:Hid _:=A1;clear A1 HL;go_wp2_with fail
  go_ret
  exact⟨u1,rfl,HF.out⟩
theorem NL(w)(p h q:yL)(k)(hp:p≠[])(S u)(hn:ak p)(hl:p.length+q.length<=80)(hF:aI (.ext h q k))(hA:At w (.ext h q k) S (pV u))(T:az w):
 Calls yP 115 #[sV (str p),pV u] w (Made w S (fq (p++q) k)):=by
 obtain⟨b,kp,S1,hu,hs,B,A2,hK⟩:=hA;cases hu
 obtain⟨uk,rfl⟩:=hK.ptr;have c0:w.cell? ⟨b,0,none⟩=some (iV .i64 2):=B.c0;have c2:w.cell? ⟨b,2,none⟩=some (sV (str q)):=B.c2;have c4:w.cell? ⟨b,4,none⟩=some (pV uk):=B.c4;have A3:=B.lt;have he:(str p).toList.isEmpty=false:=by rw[jP];simp[hp]
 have A0:=td (kC hn hF.2.1) (by rw[Q4];exact hl) hF.2.2.2.1 hF.2.2.2.2;have HL:Hid (∀W,yW w W->Calls yP 136 #[sV (str p++str q),pV uk] W (Made w S (fq (p++q) k))):=fun W hW=>by
  rw[qb];exact(yo W (p++q) k S1 uk (hK.below hW) ⟨.inl rfl,A0.2.1,A0.2.2.1,hF.2.2.2.2.jS⟩ (tm _ _ _ A0.2.2.1 hF.2.2.2.2) (T.below hW)).mono fun e w' h=>(h.mono fun x hx=>(A2 x hx).1).after hW
 have A4:(str p).size+(str q).size<=80:=by rw[aH,aH];exact hl
 clear B A0 hF hp hn T hK A2;generalize str p=P at*;generalize str q=Q at*;go_enter func115,ntmps115
 go_wp2_with fail
 go_region_with (go_at_call 136;refine(HL.out _ (by first|exact Q1 _ _ |exact(Q1 _ _).drew)).mono ?_;rintro e1 w1 ⟨u1,rfl,A1⟩)
 all_goals
  have HF:Hid _:=A1;clear A1 HL;go_wp2_with fail
  go_ret
  exact⟨u1,rfl,HF.out⟩
theorem Ep(w p)(t:Nd)(i:p≠[])(S u)(h:ak p)(g:p.length<=80)(f:t.fw)(c:aI t)(a:At w t S (pV u))(T:az w):
 Calls yP 115 #[sV (str p),pV u] w (Made w S (fq p t)):=by
 have d:Hid (Calls yP 136 #[sV (str p),pV u] w (Made w S (fq p t))):=yo w p t S u a ⟨.inl rfl,h,g,c.jS⟩ (tm _ _ _ g c) T;obtain⟨b,q,r,l,o,B⟩:=a.ah (by cases t<;>first|exact f.elim|trivial);cases l
 have k:t.kind=0\/t.kind=3:=by cases t<;>first|exact f.elim|exact .inl rfl|exact .inr rfl
 have c0:=B.c0;have n:=B.lt;have m:(str p).toList.isEmpty=false:=by rw[jP];simp[i]
 clear B c i h T a;generalize t.kind=K at*;generalize str p=P at*;rcases k with rfl|rfl;all_goals
  go_enter func115,ntmps115
  go_wp2_with fail
  refine d.out.mono ?_;rintro e1 w1 ⟨u1,rfl,e⟩;have j:Hid _:=e;clear e d;go_wp2_with fail
  go_ret
  exact⟨u1,rfl,j.out⟩
theorem qO(w p)(t:Nd)(S u)(d:ak p)(e:p.length+t.path.length<=80)(f:t.some)(c:aI t)(b:At w t S (pV u))(T:az w):
 Calls yP 115 #[sV (str p),pV u] w (Made w S (aQ p t)):=by
 by_cases a:p=[]
 ·subst a;rw[lF];exact NI w t S u b
 ·cases t with
  |nil=>exact f.elim
  |leaf h q v=>simp only[aQ,QW a];exact NJ w p h q v a S u d e c b T
  |ext h q k=>simp only[aQ,QW a];exact NL w p h q k a S u d e c b T
  |unread h=>simp only[aQ,QW a];exact Ep w p _ a S u d (by have:(Nd.unread h).path.length=0:=rfl;omega) trivial c b T
  |branch h v ks=>simp only[aQ,QW a];exact Ep w p _ a S u d (by have:(Nd.branch h v ks).path.length=0:=rfl;omega) trivial c b T
def oJ(u:Nat->Option Addr):Array Value:=((List.range 16).map (fun i=>Value.pointer (u i))).toArray
def fM(u:Nat->Option Addr)(d:Nat)(x:Option Addr):Nat->Option Addr:=fun i=>if i=d then x else u i
def dF(w:World)(g:Nat)(u:Nat->Option Addr):Prop:=w.heap[g]? =some (.cells (oJ u) 165 (0,0))
theorem zR(u:Nat->Option Addr):(oJ u).size=16:=by simp[oJ]
theorem wg(u:Nat->Option Addr)(i:Nat)(h:i<16):(oJ u)[i]? =some (pV (u i)):=by
 unfold oJ;rw[Sl,Rp,List.getElem?_range h];rfl
theorem Qv(u:Nat->Option Addr)(d:Nat)(x)(h:d<16):(oJ u).setIfInBounds d (pV x)=oJ (fM u d x):=by
 apply Sn;intro j;rw[R4];by_cases a:d=j
 ·subst a;rw[QX rfl,QX (by rw[zR];exact h),wg _ _ h];simp[fM]
 ·rw[QW a];by_cases b:j<16
  ·rw[wg _ _ b,wg _ _ b];simp[fM,Ne.symm a]
  ·rw[Rk (by rw[zR];omega),Rk (by rw[zR];omega)]
namespace dF
variable {w : World} {g : Nat} {u : Nat → Option Addr}
theorem lt(h:dF w g u):g<w.heap.size:=(Q0.1 h).1
theorem cell(h:dF w g u)(i:Nat)(hi:i<16):w.cell? ⟨g,i,none⟩=some (pV (u i)):=by rw[Q5 w g i _ _ _ h,wg u i hi]
theorem free(h:dF w g u)(o:Nat):w.frozen? ⟨g,o,none⟩=false:=by simp[World.frozen?,show w.heap[g]? =_ from h]
theorem set(h:dF w g u)(d:Nat)(x)(a:d<16):dF (w.setCell ⟨g,d,none⟩ (pV x)) g (fM u d x):=by
 unfold dF;rw[Se w g d _ _ _ h,Qv u d x a]
theorem kept{w':World}(h:dF w g u)(k:w'.heap[g]? =w.heap[g]?):dF w' g u:=k.trans h
theorem made(w:World)(u:Nat->Option Addr):dF (w.alloc (.cells (oJ u) 165)) w.heap.size u:=Rl _ _
theorem all(h:dF w g u):w.cell? ⟨g,0,none⟩=some (pV (u 0))/\w.cell? ⟨g,1,none⟩=some (pV (u 1))/\w.cell? ⟨g,2,none⟩=some (pV (u 2))/\w.cell? ⟨g,3,none⟩=some (pV (u 3))/\w.cell? ⟨g,4,none⟩=some (pV (u 4))/\w.cell? ⟨g,5,none⟩=some (pV (u 5))/\w.cell? ⟨g,6,none⟩=some (pV (u 6))/\w.cell? ⟨g,7,none⟩=some (pV (u 7))/\w.cell? ⟨g,8,none⟩=some (pV (u 8))/\w.cell? ⟨g,9,none⟩=some (pV (u 9))/\w.cell? ⟨g,10,none⟩=some (pV (u 10))/\w.cell? ⟨g,11,none⟩=some (pV (u 11))/\w.cell? ⟨g,12,none⟩=some (pV (u 12))/\w.cell? ⟨g,13,none⟩=some (pV (u 13))/\w.cell? ⟨g,14,none⟩=some (pV (u 14))/\w.cell? ⟨g,15,none⟩=some (pV (u 15)):=⟨h.cell 0 (by omega),h.cell 1 (by omega),h.cell 2 (by omega),h.cell 3 (by omega),h.cell 4 (by omega),h.cell 5 (by omega),h.cell 6 (by omega),h.cell 7 (by omega),h.cell 8 (by omega),h.cell 9 (by omega),h.cell 10 (by omega),h.cell 11 (by omega),h.cell 12 (by omega),h.cell 13 (by omega),h.cell 14 (by omega),h.cell 15 (by omega)⟩
end dF
def fU(t:Nd)(p:yL):Nd:=match t with
 | .leaf _ _ v=>da p v
 | .ext _ _ k=>aQ p k
 |t=>t
theorem nf(p)(t:Nd)(h:t.some):(aQ p t).some:=by
 by_cases a:p=[]
 ·subst a;rw[lF];exact h
 ·cases t<;>first|exact h.elim| (simp only[aQ,QW a];trivial)
theorem nk{t:Nd}(h:t.fw):t.some:=by cases t<;>first|exact h.elim|trivial
theorem Fg{t:Nd}(h:t.fw):t.path=[]:=by cases t<;>first|exact h.elim|rfl
theorem Fy{t:Nd}{p}(b:t.kind=1\/t.kind=2)(d:ak p)(c:p.length<=80)(a:aI t):aI (fU t p):=by
 cases t with
 |nil=>rcases b with h|h<;>cases h
 |unread _=>rcases b with h|h<;>cases h
 |branch _ _ _=>rcases b with h|h<;>cases h
 |leaf h q v=>exact oB d c a.2.2.2
 |ext h q k=>exact zs d (by rw[Fg a.2.2.2.1];exact c) (nk a.2.2.2.1) a.2.2.2.2
theorem Ba(w)(t:Nd)(p S u)(hk:t.kind=1\/t.kind=2)(hn:ak p)(hl:p.length<=80)(hF:aI t)(hA:At w t S (pV u))(T:az w):
 Calls yP 150 #[pV u,sV (str p)] w (Made w S (fU t p)):=by
 cases t with
 |nil=>rcases hk with h|h<;>cases h
 |unread _=>rcases hk with h|h<;>cases h
 |branch _ _ _=>rcases hk with h|h<;>cases h
 |leaf h q v=>
  obtain⟨b,hu,hs,B⟩:=hA;cases hu
  have c0:w.cell? ⟨b,0,none⟩=some (iV .i64 1):=B.c0;have c3:w.cell? ⟨b,3,none⟩=some (sV (str v)):=B.c3;have HL:Hid (Calls yP 133 #[sV (str p),sV (str v)] w (Made w S (da p v))):=
   (pe w p v ⟨.inl rfl,hn,hl,hF.2.2.2⟩ (nt _ _ _ hl hF.2.2.2) T).mono fun e w' h=>h.mono fun x hx=>hx.elim
  show Calls yP 150 _ w (Made w S (da p v));clear B hk hF hn T hl;generalize da p v=R at*;generalize str p=P at*;generalize str v=V at*;go_enter func150,ntmps150
  go_wp2_with fail
  refine HL.out.mono ?_;rintro e1 w1 ⟨u1,rfl,A0⟩;have HF:Hid _:=A0;clear A0 HL;go_wp2_with fail
  go_ret
  exact⟨u1,rfl,HF.out⟩
 |ext h q k=>
  obtain⟨b,kp,S1,hu,hs,B,A1,hK⟩:=hA;cases hu
  obtain⟨uk,rfl⟩:=hK.ptr;have c0:w.cell? ⟨b,0,none⟩=some (iV .i64 2):=B.c0;have c4:w.cell? ⟨b,4,none⟩=some (pV uk):=B.c4;have HL:Hid (Calls yP 115 #[sV (str p),pV uk] w (Made w S (aQ p k))):=
   (qO w p k S1 uk hn (by rw[Fg hF.2.2.2.1];exact hl) (nk hF.2.2.2.1) hF.2.2.2.2 hK T).mono fun e w' h=>h.mono fun x hx=>(A1 x hx).1
  show Calls yP 150 _ w (Made w S (aQ p k));clear B hk hF hn T hl hK A1;generalize aQ p k=R at*;generalize str p=P at*;go_enter func150,ntmps150
  go_wp2_with fail
  refine HL.out.mono ?_;rintro e1 w1 ⟨u1,rfl,A0⟩;have HF:Hid _:=A0;clear A0 HL;go_wp2_with fail
  go_ret
  exact⟨u1,rfl,HF.out⟩
def aD(ks:Nat->Nd)(d:Nat)(k:Nd):Nat->Nd:=fun i=>if i=d then k else ks i
def fm(a:Nat->Nat->Prop)(d:Nat)(F:Nat->Prop):Nat->Nat->Prop:=fun i=>if i=d then F else a i
theorem df(ks:Nat->Nd)(d:Nat)(k):aD ks d k d=k:=by simp[aD]
theorem dJ(ks:Nat->Nd)(d:Nat)(k)(i:Nat)(h:i≠d):aD ks d k i=ks i:=by simp[aD,h]
theorem Kids.put{w w':World}{ks S u b}(h:Kids w ks S u b)(l:∀x,S x->x<w.heap.size->w'.heap[x]? =w.heap[x]?)
 (d:Nat) (k:Nd) (x:Option Addr) (F:Nat->Prop) (g:At w' k F (pV x)) (c:∀y,F y->S y/\∀i,i<16->i≠d->¬b i y):Kids w' (aD ks d k) S (fM u d x) (fm b d F):=by
 refine⟨fun i hi=>?_,fun i y hi a=>?_,fun i j y hi f h1 h2=>?_⟩
 ·by_cases e:i=d
  ·subst e;simp only[aD,fM,fm,RJ];exact g
  ·simp only[aD,fM,fm,e,Ry];exact(h.at_ i hi).kept fun y a=>l y (h.sub i y hi a)
 ·by_cases e:i=d
  ·subst e;simp only[fm,RJ] at a;exact(c y a).1
  ·simp only[fm,e,Ry] at a;exact h.sub i y hi a
 ·by_cases e:i=d
  ·by_cases e2:j=d
   ·omega
   ·subst e;simp only[fm,RJ,e2,Ry] at h1 h2;exact((c y h1).2 j f e2 h2).elim
  ·by_cases e2:j=d
   ·subst e2;simp only[fm,RJ,e,Ry] at h1 h2;exact((c y h2).2 i hi e h1).elim
   ·simp only[fm,e,e2,Ry] at h1 h2;exact h.iH i j y hi f h1 h2
theorem Kids.cut{w ks S u a}(h:Kids w ks S u a):Kids w ks S u (fun i x=>a i x/\x<w.heap.size):=
 ⟨fun i hi=>(h.at_ i hi).cut,fun i x hi c=>h.sub i x hi c.1,fun i j x hi b h1 h2=>h.iH i j x hi b h1.1 h2.1⟩
theorem Kids.none(w S):Kids w (fun _=>.nil) S (fun _=>none) (fun _ _=>False):=⟨fun _ _=>rfl,fun _ _ _ h=>h.elim,fun _ _ _ _ _ h=>h.elim⟩
theorem Kids.mono{w ks S S' u a}(h:Kids w ks S u a)(b:∀x,S x->S' x):Kids w ks S' u a:=
 ⟨h.at_,fun i x hi c=>b x (h.sub i x hi c),h.iH⟩
theorem Kids.kept{w w':World}{ks S u a}(h:Kids w ks S u a)(b:∀x,S x->x<w.heap.size->w'.heap[x]? =w.heap[x]?):Kids w' ks S u a:=
 ⟨fun i hi=>(h.at_ i hi).kept fun y c=>b y (h.sub i y hi c),h.sub,h.iH⟩
def dG(n:Nd)(s:Nat):Nat->Nd:=if s<n.path.length then aD (fun _=>.nil) (n.path.getD s 0).toNat (fU n (n.path.drop (s+1))) else fun _=>.nil
def cM(n:Nd)(path v:yL)(s:Nat):Nat->Nd:=if s<path.length then aD (dG n s) (path.getD s 0).toNat (da (path.drop (s+1)) v) else dG n s
def dy(n:Nd)(path v:yL)(s:Nat):yL:=if s<path.length then(if s<n.path.length then [] else n.value) else v
def eM(n:Nd)(path v:yL)(s:Nat):Nd:=aQ (path.take s) (cP (cM n path v s) (dy n path v s))
theorem xr(r)(n:Nat):(str r).extract 0 n=str (r.take n):=by
 apply Go.WideShapes.bytes_inj;rw[Lib.extract_data,dV,dV];simp
theorem cS{a}(h:ak a)(n:Nat):ak (a.drop n):=fun x b=>h x (List.mem_of_mem_drop b)
theorem uY{a}(h:ak a)(n:Nat):ak (a.take n):=fun x b=>h x (List.mem_of_mem_take b)
theorem jU{a}(h:ak a)(n:Nat):(a.getD n 0).toNat<16:=by
 by_cases b:n<a.length
 ·rw[Q3,QV b];exact h _ (RV b)
 ·rw[Q3,RP (by omega)];decide
theorem um(r)(n:Nat)(h:n<(str r).size):(str r)[n]=r.getD n 0:=by
 have a:n<r.length:=by rw[aH] at h;exact h
 rw[Q3,QV a];rfl
theorem rh(c:UInt8)(h:c.toNat<16):bits .and .u8 (c.toNat:Int) 15=(c.toNat:Int):=by
 have a:=pG c;have b:lo c=c:=by apply lq;rw[qL];omega
 rw[b] at a;exact a
theorem vO{n:Nd}{path v:yL}{s}(c:n.kind=1\/n.kind=2)(d:ak path)(g:path.length<=80)(f:v.length<=160)(b:aI n)(e:ak n.path)(h:n.path.length<=80):∀i,aI (cM n path v s i):=by
 have a:∀i,aI (dG n s i):=fun i=>by
  unfold dG;split
  ·unfold aD;split
   ·exact Fy c (cS e _) (by rw[Q8];omega) b
   ·trivial
  ·trivial
 intro i;unfold cM;split
 ·unfold aD;split
  ·exact oB (cS d _) (by rw[Q8];omega) f
  ·exact a i
 ·exact a i
theorem aI.Ip{n}(a:aI n):n.value.length<=160:=by
 cases n with
 |nil=>exact Ri _
 |unread _=>exact Ri _
 |leaf _ _ _=>exact a.2.2.2
 |ext _ _ _=>exact Ri _
 |branch _ _ _=>exact a.2.1
theorem uq{n}{path v:yL}{s}(b:v.length<=160)(a:aI n):(dy n path v s).length<=160:=by
 unfold dy;split
 ·split
  ·exact Ri _
  ·exact a.Ip
 ·exact b
theorem Fz{n:Nd}{path v:yL}{s}(d:n.kind=1\/n.kind=2)(b:ak path)(e:path.length<=80)(c:v.length<=160)(a:aI n)(f:ak n.path)(g:n.path.length<=80):aI (eM n path v s):=
 zs (uY b s) (by show(path.take s).length+0<=80;rw[Rs];omega) trivial (oC (uq c a) fun i _=>vO d b e c a f g i)
end Go.Proofs.YtiimkkahmpmhdaaGreatDoor
