import Derived.Test.YtiimkkahmpmhdaaGreatDoorY
import Derived.Test.YtiimkkahmpmhdaaGreatDoorZ
import Derived.Test.YtiimkkahmpmhdaaGreatDoorZa
open Go.Proofs.Tryz
open Go.Proofs.Tryz renaming prog→yP
open Go.Value renaming string→sV,pointer→pV,int→iV,slice→lV,bool→bV,tuple→tV,agg→gV
open Go.Ending renaming returned→rV
namespace Go.Proofs.YtiimkkahmpmhdaaGreatDoor
open Go.RowKit
set_option maxRecDepth 100000
set_option maxHeartbeats 0
set_option linter.all false
def gY(W:World)(n:Nat)(k x y z:Int)(s t:yB):Prop:=W.heap[n]? =some (.cells #[iV .i64 k,iV .i64 x,iV .i64 y,iV .i64 z,sV s,sV t] 33 (0,0))
theorem gY.new(w:World)(k x y z:Int)(s t):gY (w.alloc (.cells #[iV .i64 k,iV .i64 x,iV .i64 y,iV .i64 z,sV s,sV t] 33)) w.heap.size k x y z s t:=Rl w _
theorem gY.lt{W n}{k x y z:Int}{s t}(h:gY W n k x y z s t):n<W.heap.size:=(Q0.1 h).1
theorem gY.cells{W n}{k x y z:Int}{s t}(h:gY W n k x y z s t):W.cell? ⟨n,0,none⟩=some (iV .i64 k)/\W.cell? ⟨n,1,none⟩=some (iV .i64 x)/\W.cell? ⟨n,2,none⟩=some (iV .i64 y)/\W.cell? ⟨n,3,none⟩=some (iV .i64 z)/\W.cell? ⟨n,4,none⟩=some (sV s)/\W.cell? ⟨n,5,none⟩=some (sV t):=
 ⟨by rw[Q5 W _ 0 _ _ _ h];rfl,by rw[Q5 W _ 1 _ _ _ h];rfl,by rw[Q5 W _ 2 _ _ _ h];rfl,by rw[Q5 W _ 3 _ _ _ h];rfl,by rw[Q5 W _ 4 _ _ _ h];rfl,by rw[Q5 W _ 5 _ _ _ h];rfl⟩
theorem gY.mv{T l l' W a n}{k x y z:Int}{s t}(h:gY W n k x y z s t)(b:l n=0)(m:Mv T l l' W a)(h0:¬T 0):gY a n k x y z s t:=(m.kept h.lt b h0).trans h
theorem gY.below{W a n}{k x y z:Int}{s t}(h:gY W n k x y z s t)(b:yW W a):gY a n k x y z s t:=(b.block _ h.lt).trans h
theorem EZ(G:yB->Option yB){t}(a:aw t 0)(key):aw (bg G t key) 0:=by
 unfold bg;split
 ·exact a
 ·exact(uS G _ t (aC key) 0 false a (ch key)).1
theorem Nx{l L w B S H F vs j}(h:Bk l L w B S)(f:cG l L w B.sb B.hb H F vs j)(I:L.ok)(T:az w)(A7:∀k,k<3->l k=0)(k x y z:Int)(key t:yB)(s:key.size<=maxLen)(ht:t.size<=1073741824)(hy:Rg y)(hz:Rg z):
 Calls yP 22 #[pV (qA B.bb),fX k x y z key t] w fun e w'=>∃q,e=rV (bV (Fk (ae j) H F B.t B.m key q))/\e8 l L w {B with t:=sX (ae j) H F B.t B.m key} w':=by
 obtain⟨n,P⟩:=yX (w.alloc (.cells #[iV .i64 k,iV .i64 x,iV .i64 y,iV .i64 z,sV key,sV t] 33))
 have A4:yW w n:=by rw[P];exact(Q1 _ _).alloc (QU _) _
 have A0:gY n w.heap.size k x y z key t:=by rw[P];exact gY.new w k x y z key t
 have m0:=Mv.below (fun _=>False) l A4;have h0:=h.move m0 id id id;have f0:=f.move m0 id id;have V:az n:=T.mv m0 fun _ _ h=>h
 have A2:fA l w.heap.size w.heap.size=0:=nr (QU _);have Z:∀k,k<3->fA l w.heap.size k=0:=fun k s=>by have:=T.size;rw[j5 (by omega)];exact A7 k s
 have B0:∀g,B.mv.ownBlock=some g->g<n.heap.size:=fun g Q=>(h0.pm.lt g Q).2
 have A9:∀g,B.bv.ownBlock=some g->g<n.heap.size:=fun g Q=>(h0.pb.lt g Q).2
 generalize hl:fA l w.heap.size=l0 at*;have M:=I.apart.2.2;have K:∀{l1:Nat->Nat} {W:World},Mv (fun x=>x=L.tr\/x=L.bk) l0 l1 n W->az W:=fun m=>V.mv m fun k s Y=>by rw[Z k s] at Y;exact M Y
 obtain⟨A5,A6⟩:=uJ (G:=ae j) (EZ (ae j) h.tr.ok key) key;have A1:∀c∈(bj (ae j) (bg (ae j) B.t key) key).map str,c.size<=4096:=fun c D=>by
  obtain⟨d,hd,rfl⟩:=Rt.1 D;rw[aH];exact A6 d hd
 have A8:((bj (ae j) (bg (ae j) B.t key) key).map str).length<=81:=by rw[Rr];exact A5
 have B2:=Oo w n B.bb B.tb B.hb B.mv H F k x y z key t P h.bk.lt
  (fun W=>e8 l0 L n {B with t:=bg (ae j) B.t key} W)
  (fun v c W=>gd l0 L n {B with t:=bg (ae j) (bg (ae j) B.t key) key} H F j v c W)
  (qt (ae j) H F B.t B.m key) (cE (ae j) (bg (ae j) B.t key) key:Int) ((bj (ae j) (bg (ae j) B.t key) key).map str)
  (str (bM (bg (ae j) (bg (ae j) B.t key) key))) (dj B.m key)
  (Ed h0 f0 I V Z key s)
  (fun W ⟨l1,A,m,C⟩=>by
   obtain⟨_,c1,_⟩:=C.cells;have r:=A0.mv A2 m M;have md:=Mv.below (fun _=>False) l1 ((Q1 W.heap.size W).drew);exact⟨c1,r.cells.2.2.2.2.1,⟨_,A,m.trans (md.mono fun _ hx=>hx.elim),C.move md id id id⟩,C.bk.lt,r.lt⟩)
  (fun W ⟨l1,A,m,C⟩=>by
   refine(C.ly (f0.to I m) I (K m) key s).mono ?_;rintro e w' ⟨v,J,i,_⟩;obtain⟨a,cap,U,_⟩:∃a cap,v=lV a ((bj (ae j) (bg (ae j) B.t key) key).map str).length cap/\True:=by
    obtain⟨_,_,_,_,o⟩:=id i;obtain⟨a,cap,e,_⟩:=dr o.row;exact⟨a,cap,e,trivial⟩
   exact⟨v,a,cap,U,J,i.after m B0 A9⟩)
  (fun v c W i=>by
   obtain⟨c1,c2,c4,d0,d1,_⟩:=i.cells;obtain⟨l1,A,_,_,o⟩:=i;have r:=A0.mv A2 o.mv M;exact⟨⟨c1,c2,c4,d0,d1⟩,⟨r.cells.2.2.1,r.cells.2.2.2.1,r.cells.2.2.2.2.1,r.cells.2.2.2.2.2⟩,o.bk.bk.lt,r.lt⟩)
  (fun v c W X i C=>i.below C)
  (fun W=>Ee key s W)
  (fun W c h1 h2 h3=>qN h1 h2 h3 c)
  (fun v W i=>by
   obtain⟨l1,A,_,_,o⟩:=i;obtain⟨⟨u,h1,h2⟩,h3,_⟩:=o.bk.tr;exact pM W B.tb _ u _ A h1 h2 h3.aJ (K o.mv))
  (fun W=>pk z 6 hz (by decide) (by decide) W)
  (fun a cap W i=>by
   obtain⟨_,_,_,_,_,_,R⟩:=i.cells;have B3:bO z 6<6:=kz z 6 (by decide);refine(Nw W a cap _ R (bO z 6:Nat) y ⟨by omega,by omega⟩ hy t ht (by omega) A1).mono ?_;rintro e w' ⟨v,q,J,hf,h1,h2,h3⟩;obtain⟨N,O,U,_⟩:=id hf;subst U;exact⟨N,O,q,J,hf,h1,h2,h3⟩)
  (fun v W N O b q i o h1 h2=>by
   obtain⟨l1,A,_,_,E⟩:=i;rw[<-wP];exact zV W _ key N O q o.texts (by unfold maxLen;omega) (fun p i=>by have:=h2 p i;unfold maxLen;omega) s (K E.mv))
  (fun v W X i hW=>by
   obtain⟨_,_,_,_,_,B1,_⟩:=i.cells;exact mY X B.mv B.m key (cK B1 fun g _=>by rw[hW]) (by have:=h.nm;omega))
  (fun v c W b vq q i o hn=>i.append I b vq q o (by omega))
  (fun v q W i h1 h2=>by
   obtain⟨_,_,_,_,_,_,R⟩:=i.cells;obtain⟨l1,A,_,_,E⟩:=i;refine oh W v _ R ?_ ?_ (K E.mv)
   ·rw[Q4,Q4,Sa];omega
   ·intro p i;rcases Re.1 i with i|i
    ·rcases Re.1 i with i|i
     ·have:=A1 p i;unfold maxLen;omega
     ·have:=h1 p i;unfold maxLen;omega
    ·rw[Q2.1 i];decide)
  A8
 refine B2.mono ?_;rintro e w' ⟨q,J,D⟩;refine⟨q,?_,?_⟩
 ·rw[J];unfold Fk Fi Fj;have e2:(((cE (ae j) (bg (ae j) B.t key) key:Nat):Int)=0)=(cE (ae j) (bg (ae j) B.t key) key=0):=by simp
  simp only[ne_eq,e2]
 have A3:Mv (fun x=>x=L.tr\/x=L.bk) l l0 w n:=m0.mono fun _ hx=>hx.elim
 rcases D with⟨E,D⟩|⟨E,v,c,D⟩
 ·unfold sX;rw[E,QW Bool.false_ne_true];exact e8.trans A3 D
 ·unfold sX;rw[E,QX rfl];exact e8.trans A3 D.to
def dT(b:List Nat)(x:Nat):Prop:=∃a∈b,Of a x
theorem kT(a:List Nat):¬dT a 0:=fun⟨_,_,h⟩=>mf _ h
theorem gg{f a b}(h:a∉f):¬dT f (pr a b):=fun⟨c,hc,k⟩=>h (by obtain⟨d,e⟩:=k;rw[(gz e).1];exact hc)
theorem IU{b a x}(h:a∈b)(k:Of a x):dT b x:=⟨a,h,k⟩
theorem mL{c a b x}(h:a∈c)(k:x=pr a b):dT c x:=⟨a,h,b,k⟩
theorem dT.mono{b c}(h:∀a∈b,a∈c){x}(k:dT b x):dT c x:=by
 obtain⟨a,d,k⟩:=k;exact⟨a,h a d,k⟩
def kd(w:World)(a:Nat):Option TypeId:=match w.heap[a]? with
 |some (.cells _ t _)=>some t
 | _=>none
theorem iO{w:World}{a cs t z}(h:w.heap[a]? =some (.cells cs t z)):kd w a=some t:=by unfold kd;rw[h]
theorem dA{w a b s t}(h:kd w a=some s)(k:kd w b=some t)(c:s≠t):a≠b:=fun e=>by
 rw[e,k] at h
 injection h with h
 exact c h.symm
def eP(B:dI):jm:=⟨pr B.sb 0,pr B.hb 0,pr B.tb 0,pr B.bb 0⟩
theorem eI.kd{w sb c b}(h:eI w sb c b):kd w sb=some 71:=by
 obtain⟨d,a,_⟩:=h.st;exact iO a.ah
theorem Bk.kd{l L w B S}(h:Bk l L w B S):kd w B.bb=some 47/\kd w B.tb=some 75:=by
 obtain⟨u,h1,_⟩:=h.tr.at_;exact⟨iO h.bk,iO h1⟩
theorem cG.kd{l L w sb a e c d b}(h:cG l L w sb a e c d b):kd w sb=some 71/\kd w a=some 44:=⟨h.st.kd,iO h.hu⟩
theorem bS.kd{l w R c b}(h:bS l w R c b):kd w R.rb=some 65/\kd w R.tt=some 61/\kd w R.sp=some 98/\kd w R.sb=some 71:=by
 obtain⟨g,e,f,d,a,_⟩:=h.x.st;exact⟨iO h.y.ah,iO h.y.tn,iO a.ah.ah,h.x.ko.kd⟩
structure Dt where
 ao:List dI
 aB:List bN
 bv:Value
 rv:Value
 yes:Nat->Bool
 ag:Nat->Bool
 us:Nat->Nat->Value
 ps:Nat->List (yB×yB)
 w0:World
structure GR(w0:World)(l:Nat->Nat)(w:World):Prop where
 l3:∀k,k<3->l k=0
 lo:∀k,k<w0.heap.size->l k=0
 dD:yW w0 w
def ny(B:dI):Value:=pV (qA B.bb)
def lr(R:bN):Value:=pV (qA R.rb)
structure Wo(wb:Nat)(l:Nat->Nat)(w:World)(bv rv:Value)(bs rs:List Value):Prop where
 ah:w.heap[wb]? =some (.cells #[bv,rv] 30 (0,0))
 lw:l wb=pr wb 0
 rb:w.ownsRow 3 41 1 bv bs.length bs
 qK:∀g,bv.ownBlock=some g->l g=pr wb 0
 rr:w.ownsRow 3 58 1 rv rs.length rs
 qJ:∀g,rv.ownBlock=some g->l g=pr wb 0
theorem Wo.move{c l l' w w' e f d rs T}(h:Wo c l w e f d rs)(m:Mv T l l' w w')(b:¬T (pr c 0)):Wo c l' w' e f d rs:=
 {ah:=(m.kept (Q0.1 h.ah).1 h.lw b).trans h.ah
  lw:=(m.aM _ (Q0.1 h.ah).1).trans h.lw
  rb:=cK h.rb fun g a=>m.kept (h.rb.lt g a).2 (h.qK g a) b
  qK:=fun g a=>(m.aM g (h.rb.lt g a).2).trans (h.qK g a)
  rr:=cK h.rr fun g a=>m.kept (h.rr.lt g a).2 (h.qJ g a) b
  qJ:=fun g a=>(m.aM g (h.rr.lt g a).2).trans (h.qJ g a)}
structure Inv(wb:Nat)(l:Nat->Nat)(w:World)(d:Dt):Prop where
 wo:Wo wb l w d.bv d.rv (d.ao.map ny) (d.aB.map lr)
 bk:∀B∈d.ao,∃S,Bk l (eP B) w B S
 cI:∀B∈d.ao,cG l (eP B) w B.sb B.hb (d.yes B.hb) (d.ag B.hb) (d.us B.sb) (d.ps B.sb)
 rl:∀R∈d.aB,bS l w R (d.us R.sb) (d.ps R.sb)
 nX:(d.ao.map dI.bb).Nodup
 nT:(d.ao.map dI.tb).Nodup
 jv:(d.aB.map bN.rb).Nodup
 nU:(d.aB.map bN.sp).Nodup
 hs:∀B∈d.ao,∀C∈d.ao,B.hb=C.hb↔B.sb=C.sb
 br:∀B∈d.ao,∀R∈d.aB,B.sb≠R.sb
 bt:az w
 pins:GR d.w0 l w
theorem Inv.l3{a l w d}(h:Inv a l w d):∀k,k<3->l k=0:=h.pins.l3
theorem mQ{α:Type}{f:α->Nat}:∀{c:List α},(c.map f).Nodup->∀{a b:α},a∈c->b∈c->f a=f b->a=b:=by
 intro c;induction c with
 |nil=>intro _ a b d;cases d
 |cons x c ih=>
  intro h a b d g e;rw[List.map_cons,List.nodup_cons] at h;rcases Rh.1 d with e1|h1
  ·rcases Rh.1 g with e2|h2
   ·rw[e1,e2]
   ·exact absurd (show f x∈c.map f from Rt.2 ⟨b,h2,by rw[<-e,e1]⟩) h.1
  ·rcases Rh.1 g with e2|h2
   ·exact absurd (show f x∈c.map f from Rt.2 ⟨a,h1,by rw[e,e2]⟩) h.1
   ·exact ih h.2 h1 h2 e
section
variable {wb : Nat} {l l' : Nat → Nat} {w w' : World} {d : Dt} {As : List Nat}
theorem Inv.od(h:Inv wb l w d){B}(b:B∈d.ao):(eP B).ok:=by
 obtain⟨S,c⟩:=h.bk B b;have f:=h.cI B b;obtain⟨k1,k2⟩:=c.kd;obtain⟨k3,k4⟩:=f.kd;have a:∀{x y:Nat},x≠y->pr x 0≠pr y 0:=fun h e=>h (gz e).1
 exact⟨⟨ie _ _,ie _ _,ie _ _,ie _ _⟩,⟨a (dA k3 k4 (by decide)),a (dA k3 k2 (by decide)),a (dA k3 k1 (by decide)),a (dA k4 k2 (by decide)),a (dA k4 k1 (by decide)),a (dA k2 k1 (by decide))⟩⟩
theorem Inv.kw(h:Inv wb l w d):kd w wb=some 30:=iO h.wo.ah
theorem Inv.pE(h:Inv wb l w d)(m:Mv (dT As) l l' w w'){B}(a:B∈d.ao)(h1:B.bb∉As)(h2:B.tb∉As):∃S,Bk l' (eP B) w' B S:=by
 obtain⟨S,b⟩:=h.bk B a;exact⟨S,b.move m (kT _) (gg h1) (gg h2)⟩
theorem Inv.pA(h:Inv wb l w d)(m:Mv (dT As) l l' w w'){B}(a:B∈d.ao)(h1:B.sb∉As)(h2:B.hb∉As):cG l' (eP B) w' B.sb B.hb (d.yes B.hb) (d.ag B.hb) (d.us B.sb) (d.ps B.sb):=(h.cI B a).move m (gg h1) (gg h2)
theorem bS.nY{R b a}(h:bS l w R b a)(m:Mv (dT As) l l' w w')(h1:R.rb∉As)(h2:R.tt∉As)(h3:R.sp∉As)(h4:R.sb∉As):bS l' w' R b a:=
 ⟨h.y.move m (kT _) (gg h1) (gg h2),h.x.move m (kT _) (gg h4) fun _=>gg h3⟩
theorem Inv.rest(h:Inv wb l w d)(m:Mv (dT As) l l' w w'):az w'/\GR d.w0 l' w':=
 ⟨h.bt.mv m fun k a b=>by rw[h.l3 k a] at b;exact kT _ b,fun k a=>(m.aM k (by have:=h.bt.size;omega)).trans (h.l3 k a),fun k a=>(m.aM k (Q6 a h.pins.dD.size)).trans (h.pins.lo k a),h.pins.dD.trans (m.low h.pins.dD.size fun k a b=>by rw[h.pins.lo k a] at b;exact kT _ b)⟩
theorem Inv.gK(h:Inv wb l w d){B}(a:B∈d.ao):kd w B.bb=some 47/\kd w B.tb=some 75/\kd w B.sb=some 71/\kd w B.hb=some 44:=by
 obtain⟨S,b⟩:=h.bk B a;exact⟨b.kd.1,b.kd.2,(h.cI B a).kd⟩
theorem Inv.ky(h:Inv wb l w d){R}(a:R∈d.aB):kd w R.rb=some 65/\kd w R.tt=some 61/\kd w R.sp=some 98/\kd w R.sb=some 71:=(h.rl R a).kd
theorem Inv.idle(h:Inv wb l w d)(m:Mv (dT []) l l' w w'):Inv wb l' w' d:=by
 have b:∀a:Nat,a∉([]:List Nat):=fun a h=>by cases h
 exact⟨h.wo.move m (gg (b _)),fun B c=>h.pE m c (b _) (b _),fun B c=>h.pA m c (b _) (b _),fun R e=>(h.rl R e).nY m (b _) (b _) (b _) (b _),h.nX,h.nT,h.jv,h.nU,h.hs,h.br,(h.rest m).1,(h.rest m).2⟩
theorem Inv.below(h:Inv wb l w d)(a:yW w w'):Mv (dT []) l (fA l w.heap.size) w w'/\Inv wb (fA l w.heap.size) w' d:=⟨Mv.below (dT []) l a,h.idle (Mv.below (dT []) l a)⟩
end
def kV(a:List dI)(B:dI):List dI:=a.map fun C=>if C.bb=B.bb then B else C
theorem nZ{a B C}(h:C∈kV a B):C=B\/(C∈a/\C.bb≠B.bb):=by
 obtain⟨D,b,e⟩:=Rt.1 h;by_cases k:D.bb=B.bb
 ·rw[QX k] at e;exact .inl e.symm
 ·rw[QW k] at e;subst e;exact .inr ⟨b,k⟩
theorem Kw{β:Type}(f:dI->β){a}{B:dI}(h:∀C∈a,C.bb=B.bb->f C=f B):(kV a B).map f=a.map f:=by
 unfold kV;rw[List.map_map];refine Sq fun C b=>?_
 show f (if C.bb=B.bb then B else C)=f C;split
 ·next k=>exact(h C b k).symm
 ·rfl
structure rF(B B':dI):Prop where
 bb:B'.bb=B.bb
 sb:B'.sb=B.sb
 tb:B'.tb=B.tb
 hb:B'.hb=B.hb
theorem rF.aM{B a}(h:rF B a):eP a=eP B:=by unfold eP;rw[h.bb,h.sb,h.tb,h.hb]
theorem Inv.book{u l l' w w' d}(h:Inv u l w d){B g}(j:B∈d.ao)(c:rF B g)(m:Mv (fun x=>x=(eP B).tr\/x=(eP B).bk) l l' w w'){S'}(A:Bk l' (eP B) w' g S'):Inv u l' w' {d with ao:=kV d.ao g}:=by
 have n:Mv (dT [B.tb,B.bb]) l l' w w':=m.mono fun x b=>by
  rcases b with e|e
  ·exact mL (QY ..) e
  ·exact mL (QZ _ (QY ..)) e
 obtain⟨q1,q2,q3,q4⟩:=h.gK j;have i:∀{x:Nat} {t:TypeId},kd w x=some t->t≠75->t≠47->x∉[B.tb,B.bb]:=fun {x t} k n1 n2 b=>by
  rcases Rh.1 b with e|b
  ·exact dA k q2 n1 e
  ·rw[Q2] at b;exact dA k q1 n2 b
 have F:∀C∈d.ao,C.bb=g.bb->C=B:=fun C a e=>mQ h.nX a j (e.trans c.bb)
 have s:∀C∈d.ao,cG l' (eP C) w' C.sb C.hb (d.yes C.hb) (d.ag C.hb) (d.us C.sb) (d.ps C.sb):=fun C a=>by
  obtain⟨_,_,k3,k4⟩:=h.gK a;exact h.pA n a (i k3 (by decide) (by decide)) (i k4 (by decide) (by decide))
 have q:∀{β:Type} (f:dI->β),f g=f B->(kV d.ao g).map f=d.ao.map f:=fun f e=>Kw f fun C a E=>by rw[F C a E,e]
 refine⟨?_,fun C a=>?_,fun C a=>?_,fun R o=>?_,?_,?_,h.jv,h.nU,fun C a D v=>?_,fun C a R o=>?_,(h.rest n).1,(h.rest n).2⟩
 ·have:=h.wo.move n (gg (i h.kw (by decide) (by decide)));rw[<-q ny (by unfold ny;rw[c.bb])] at this;exact this
 ·rcases nZ a with rfl|⟨a,r⟩
  ·rw[c.aM];exact⟨S',A⟩
  ·obtain⟨k1,k2,_,_⟩:=h.gK a;refine h.pE n a (fun b=>?_) fun b=>?_
   ·rcases Rh.1 b with e|b
    ·exact dA k1 q2 (by decide) e
    ·rw[Q2] at b;exact r (by rw[b,c.bb])
   ·rcases Rh.1 b with e|b
    ·exact r (by rw[mQ h.nT a j e,c.bb])
    ·rw[Q2] at b;exact dA k2 q1 (by decide) b
 ·rcases nZ a with rfl|⟨a,r⟩
  ·rw[c.aM,c.sb,c.hb];exact s B j
  ·exact s C a
 ·obtain⟨k1,k2,k3,k4⟩:=h.ky o;exact(h.rl R o).nY n (i k1 (by decide) (by decide)) (i k2 (by decide) (by decide)) (i k3 (by decide) (by decide)) (i k4 (by decide) (by decide))
 ·show((kV d.ao g).map dI.bb).Nodup;rw[q dI.bb c.bb];exact h.nX
 ·show((kV d.ao g).map dI.tb).Nodup;rw[q dI.tb c.tb];exact h.nT
 ·have e:∀X,X∈kV d.ao g->∃Y∈d.ao,X.hb=Y.hb/\X.sb=Y.sb:=fun X p=>by
   rcases nZ p with rfl|⟨p,_⟩
   ·exact⟨B,j,c.hb,c.sb⟩
   ·exact⟨X,p,rfl,rfl⟩
  obtain⟨Y,y,y1,y2⟩:=e C a;obtain⟨Z,z,z1,z2⟩:=e D v;rw[y1,y2,z1,z2];exact h.hs Y y Z z
 ·rcases nZ a with rfl|⟨a,_⟩
  ·rw[c.sb];exact h.br B j R o
  ·exact h.br C a R o
section
variable {wb : Nat} {l l' : Nat → Nat} {w w' : World} {d : Dt}
def Dt.cI(d:Dt)(sb a:Nat)(y t:Bool)(b:Nat->Value)(ps:List (yB×yB)):Dt:={d with yes:=bf d.yes a y,ag:=bf d.ag a t,us:=bf d.us sb b,ps:=bf d.ps sb ps}
theorem Inv.family(h:Inv wb l w d){B}(n:B∈d.ao){y t j i}(m:Mv (fun x=>x=(eP B).st\/x=(eP B).hu) l l' w w')(o:cG l' (eP B) w' B.sb B.hb y t j i):Inv wb l' w' (d.cI B.sb B.hb y t j i):=by
 have f:Mv (dT [B.sb,B.hb]) l l' w w':=m.mono fun x a=>by
  rcases a with e|e
  ·exact mL (QY ..) e
  ·exact mL (QZ _ (QY ..)) e
 obtain⟨q1,q2,q3,q4⟩:=h.gK n;have c:∀{x:Nat} {t:TypeId},kd w x=some t->t≠71->t≠44->x∉[B.sb,B.hb]:=fun {x t} k n1 n2 a=>by
  rcases Rh.1 a with e|a
  ·exact dA k q3 n1 e
  ·rw[Q2] at a;exact dA k q4 n2 a
 refine⟨h.wo.move f (gg (c h.kw (by decide) (by decide))),fun C b=>?_,fun C b=>?_,fun R p=>?_,h.nX,h.nT,h.jv,h.nU,h.hs,h.br,(h.rest f).1,(h.rest f).2⟩
 ·obtain⟨k1,k2,_,_⟩:=h.gK b;exact h.pE f b (c k1 (by decide) (by decide)) (c k2 (by decide) (by decide))
 ·obtain⟨_,_,k3,k4⟩:=h.gK b;by_cases e:C.hb=B.hb
  ·have e2:=(h.hs C b B n).1 e;show cG l' (eP C) w' C.sb C.hb (bf d.yes B.hb y C.hb) (bf d.ag B.hb t C.hb) (bf d.us B.sb j C.sb) (bf d.ps B.sb i C.sb);rw[e,e2,de,de,de,de];have q:(eP C).st=(eP B).st/\(eP C).hu=(eP B).hu:=by unfold eP;rw[e,e2];exact⟨rfl,rfl⟩
   exact⟨o.hu,by rw[q.2];exact o.lh,o.st,by rw[q.1];exact o.ls⟩
  ·have e2:C.sb≠B.sb:=fun k=>e ((h.hs C b B n).2 k)
   show cG l' (eP C) w' C.sb C.hb (bf d.yes B.hb y C.hb) (bf d.ag B.hb t C.hb) (bf d.us B.sb j C.sb) (bf d.ps B.sb i C.sb);rw[cZ _ _ e,cZ _ _ e,cZ _ _ e2,cZ _ _ e2];refine h.pA f b (fun a=>?_) fun a=>?_
   ·rcases Rh.1 a with g|a
    ·exact e2 g
    ·rw[Q2] at a;exact dA k3 q4 (by decide) a
   ·rcases Rh.1 a with g|a
    ·exact dA k4 q3 (by decide) g
    ·rw[Q2] at a;exact e a
 ·obtain⟨k1,k2,k3,k4⟩:=h.ky p;have e2:R.sb≠B.sb:=fun k=>h.br B n R p k.symm
  show bS l' w' R (bf d.us B.sb j R.sb) (bf d.ps B.sb i R.sb);rw[cZ _ _ e2,cZ _ _ e2];refine(h.rl R p).nY f (c k1 (by decide) (by decide)) (c k2 (by decide) (by decide)) (c k3 (by decide) (by decide)) fun a=>?_
  rcases Rh.1 a with g|a
  ·exact e2 g
  ·rw[Q2] at a;exact dA k4 q4 (by decide) a
theorem kQ{w a t}(h:kd w a=some t):a<w.heap.size:=by
 unfold kd at h;by_cases k:a<w.heap.size
 ·exact k
 ·rw[Rk (by omega)] at h;cases h
def Dt.book(d:Dt)(B:dI)(bv:Value)(y t:Bool)(b:Nat->Value)(a:List (yB×yB)):Dt:={d.cI B.sb B.hb y t b a with ao:=d.ao++[B],bv:=bv}
theorem uV{α:Type}{f:α->Nat}{c:List α}{x:α}(h:(c.map f).Nodup)(k:∀y∈c,f y≠f x):((c++[x]).map f).Nodup:=by
 rw[R9];refine List.nodup_append.2 ⟨h,by simp,fun a d b g e=>?_⟩;obtain⟨y,j,rfl⟩:=Rt.1 d;have i:b=f x:=by simpa using g
 exact k y j (e.trans i)
structure kg(R R':bN):Prop where
 rb:R'.rb=R.rb
 sb:R'.sb=R.sb
 sp:R'.sp=R.sp
 tt:R'.tt=R.tt
theorem ke.iI{R a}(h:ke R a):kg R a:=⟨h.rb,h.sb,h.sp,h.tt⟩
def fc(a Q:bN):bN:=if Q.rb=a.rb then a else if Q.tt=a.tt then {Q with yes:=a.yes} else Q
def nQ(rs:List bN)(a:bN):List bN:=rs.map (fc a)
theorem xS{a Q:bN}(h:Q.rb=a.rb->kg Q a):kg Q (fc a Q):=by
 unfold fc;split
 ·next k=>exact h k
 ·split
  ·exact⟨rfl,rfl,rfl,rfl⟩
  ·exact⟨rfl,rfl,rfl,rfl⟩
theorem Inv.oX(h:Inv wb l w d){R i}(z:R∈d.aB)(r:kg R i)(m:Mv (RT R) l l' w w')(a:bS l' w' i (d.us R.sb) (d.ps R.sb)):Inv wb l' w' {d with aB:=nQ d.aB i}:=by
 have c:Mv (dT [R.sp,R.rb,R.tt]) l l' w w':=m.mono fun x a=>by
  rcases a with e|e|e
  ·exact IU (QY ..) e
  ·exact mL (by simp) e
  ·exact mL (by simp) e
 obtain⟨q1,q2,q3,q4⟩:=h.ky z;have q:∀{x:Nat} {t:TypeId},kd w x=some t->t≠98->t≠65->t≠61->x∉[R.sp,R.rb,R.tt]:=fun {x t} k n1 n2 n3 a=>by
  rcases Rh.1 a with e|a
  ·exact dA k q3 n1 e
  ·rcases Rh.1 a with e|a
   ·exact dA k q1 n2 e
   ·rw[Q2] at a;exact dA k q2 n3 a
 have u:∀Q∈d.aB,kg Q (fc i Q):=fun Q j=>xS fun e=>by
  rw[mQ h.jv j z (e.trans r.rb)];exact r
 have B:∀{β:Type} (f:bN->β),(∀Q∈d.aB,f (fc i Q)=f Q)->(nQ d.aB i).map f=d.aB.map f:=fun f e=>by
  unfold nQ;rw[List.map_map];exact Sq fun Q j=>e Q j
 refine⟨?_,fun C p=>?_,fun C p=>?_,fun Q j=>?_,h.nX,h.nT,?_,?_,h.hs,fun C p Q j=>?_,(h.rest c).1,(h.rest c).2⟩
 ·have:=h.wo.move c (gg (q h.kw (by decide) (by decide) (by decide)));rw[<-B lr fun Q j=>by unfold lr;rw[(u Q j).rb]] at this;exact this
 ·obtain⟨k1,k2,_,_⟩:=h.gK p;exact h.pE c p (q k1 (by decide) (by decide) (by decide)) (q k2 (by decide) (by decide) (by decide))
 ·obtain⟨_,_,k3,k4⟩:=h.gK p;exact h.pA c p (q k3 (by decide) (by decide) (by decide)) (q k4 (by decide) (by decide) (by decide))
 ·obtain⟨P,o,rfl⟩:=Rt.1 j;show bS l' w' (fc i P) (d.us (fc i P).sb) (d.ps (fc i P).sb);rw[(u P o).sb];have A:=h.rl P o;obtain⟨k1,k2,k3,k4⟩:=h.ky o;by_cases e:P.rb=i.rb
  ·have:P=R:=mQ h.jv o z (e.trans r.rb);subst this;unfold fc;rw[QX e];exact a
  ·have H:P≠R:=fun k=>e (by rw[k,r.rb])
   have D:P.rb∉[R.sp,R.rb,R.tt]:=fun a=>by
    rcases Rh.1 a with n|a
    ·exact dA k1 q3 (by decide) n
    ·rcases Rh.1 a with n|a
     ·exact e (by rw[n,r.rb])
     ·rw[Q2] at a;exact dA k1 q2 (by decide) a
   have E:P.sp∉[R.sp,R.rb,R.tt]:=fun a=>by
    rcases Rh.1 a with n|a
    ·exact H (mQ h.nU o z n)
    ·rcases Rh.1 a with n|a
     ·exact dA k3 q1 (by decide) n
     ·rw[Q2] at a;exact dA k3 q2 (by decide) a
   have F:=q k4 (by decide) (by decide) (by decide);by_cases v:P.tt=i.tt
   ·unfold fc;rw[QW e,QX v];have G:=A.x.move c (kT _) (gg F) (fun _=>gg E);have b:=A.y;refine⟨⟨?_,?_,?_,?_,?_,?_,?_,?_,b.sm,?_,?_,b.nm,b.nb,b.ns⟩,G⟩
    ·exact(c.kept b.ij b.lb (gg D)).trans b.ah
    ·exact(c.aM _ b.ij).trans b.lb
    ·exact(b.pm.mv b.lm c (kT _)).1
    ·exact(b.pm.mv b.lm c (kT _)).2
    ·exact(b.pb.mv b.lv c (kT _)).1
    ·exact(b.pb.mv b.lv c (kT _)).2
    ·exact cK b.sn fun g s=>c.kept (b.sn.lt g s).2 (b.ls g s) (gg D)
    ·exact fun g s=>(c.aM g (b.sn.lt g s).2).trans (b.ls g s)
    ·show w'.heap[P.tt]? =_;rw[v];exact a.y.tn
    ·exact(c.aM _ b.pf).trans b.lt
   ·unfold fc;rw[QW e,QW v];refine A.nY c D (fun a=>?_) E F;rcases Rh.1 a with n|a
    ·exact dA k2 q3 (by decide) n
    ·rcases Rh.1 a with n|a
     ·exact dA k2 q1 (by decide) n
     ·rw[Q2] at a;exact v (by rw[a,r.tt])
 ·show((nQ d.aB i).map bN.rb).Nodup;rw[B bN.rb fun Q j=>(u Q j).rb];exact h.jv
 ·show((nQ d.aB i).map bN.sp).Nodup;rw[B bN.sp fun Q j=>(u Q j).sp];exact h.nU
 ·obtain⟨P,o,rfl⟩:=Rt.1 j;rw[(u P o).sb];exact h.br C p P o
theorem Inv.Jm(h:Inv wb l w d){R}(z:R∈d.aB){n i}(m:Mv (fun x=>x=pr R.sb 0) l l' w w')(A:eI w' R.sb n i)(E:∀x,bW R.sb n x->l' x=pr R.sb 0)(K:∀c,e9 i c=true->e9 (d.ps R.sb) c=true){f}(q:∀Q∈d.aB,kg Q (f Q)/\(Q.sb≠R.sb->f Q=Q)/\∀l w us ps,bS l w Q us ps->SX l w (f Q).sp (f Q).sb (f Q).tw (f Q).D (f Q).N us ps->bS l w (f Q) us ps)(F:∀Q∈d.aB,Q.sb=R.sb->SX l' w' Q.sp Q.sb Q.tw Q.D Q.N n i->SX l' w' (f Q).sp (f Q).sb (f Q).tw (f Q).D (f Q).N n i):Inv wb l' w' {d with aB:=d.aB.map f,us:=bf d.us R.sb n,ps:=bf d.ps R.sb i}:=by
 have p:Mv (dT [R.sb]) l l' w w':=m.mono fun x r=>mL (QY ..) r
 obtain⟨q1,q2,q3,q4⟩:=h.ky z;have b:∀{x:Nat} {t:TypeId},kd w x=some t->t≠71->x∉[R.sb]:=fun {x t} k n1 r=>by
  rw[Q2] at r;exact dA k q4 n1 r
 have u:∀{β:Type} (g:bN->β),(∀Q∈d.aB,g (f Q)=g Q)->(d.aB.map f).map g=d.aB.map g:=fun g e=>by
  rw[List.map_map];exact Sq fun Q a=>e Q a
 refine⟨?_,fun C j=>?_,fun C j=>?_,fun Q a=>?_,h.nX,h.nT,?_,?_,h.hs,fun C j Q a=>?_,(h.rest p).1,(h.rest p).2⟩
 ·have:=h.wo.move p (gg (b h.kw (by decide)));rw[<-u lr fun Q a=>by unfold lr;rw[(q Q a).1.rb]] at this;exact this
 ·obtain⟨k1,k2,_,_⟩:=h.gK j;exact h.pE p j (b k1 (by decide)) (b k2 (by decide))
 ·obtain⟨_,_,k3,k4⟩:=h.gK j;have v:=h.br C j R z;show cG l' (eP C) w' C.sb C.hb (d.yes C.hb) (d.ag C.hb) (bf d.us R.sb n C.sb) (bf d.ps R.sb i C.sb);rw[cZ _ _ v,cZ _ _ v];exact h.pA p j (by simpa using v) (b k4 (by decide))
 ·obtain⟨P,o,rfl⟩:=Rt.1 a;obtain⟨I,H,J⟩:=q P o;show bS l' w' (f P) (bf d.us R.sb n (f P).sb) (bf d.ps R.sb i (f P).sb);rw[I.sb];obtain⟨k1,k2,k3,k4⟩:=h.ky o;have s:=h.rl P o;have G:=s.y.move p (kT _) (gg (b k1 (by decide))) (gg (b k2 (by decide)));by_cases e:P.sb=R.sb
  ·rw[e,de,de];have L:∀c,e9 i c=true->e9 (d.ps P.sb) c=true:=by rw[e];exact K
   have B:SX l' w' P.sp P.sb P.tw P.D P.N n i:=by
    rw[<-e] at m A E;exact s.x.store m A E L
   exact J _ _ _ _ ⟨G,B⟩ (F P o e B)
  ·rw[cZ _ _ e,cZ _ _ e,H e];exact s.nY p (b k1 (by decide)) (b k2 (by decide)) (b k3 (by decide)) (by simpa using e)
 ·show((d.aB.map f).map bN.rb).Nodup;rw[u bN.rb fun Q a=>(q Q a).1.rb];exact h.jv
 ·show((d.aB.map f).map bN.sp).Nodup;rw[u bN.sp fun Q a=>(q Q a).1.sp];exact h.nU
 ·obtain⟨P,o,rfl⟩:=Rt.1 a;rw[(q P o).1.sb];exact h.br C j P o
def Dt.oX(d:Dt)(R:bN)(rv:Value)(us:Nat->Value)(ps:List (yB×yB)):Dt:={d with aB:=d.aB++[R],rv:=rv,us:=bf d.us R.sb us,ps:=bf d.ps R.sb ps}
end
theorem NZ:(yP.info? 41).map (fun i=>(i.zero,i.size,i.bytes))=some (some (Value.pointer none),1,8):=by kernel_rfl
theorem NY:(yP.info? 58).map (fun i=>(i.zero,i.size,i.bytes))=some (some (Value.pointer none),1,8):=by kernel_rfl
theorem Cg{t e}(c:yP.underlying t=some (.slice e))(hi:(yP.info? e).map (fun i=>(i.zero,i.size,i.bytes))=some (some (Value.pointer none),1,8)){W:World}{v}{a:List Value}(o:W.ownsRow 3 e 1 v a.length a)(p)(b:Nat)(l:W.heap[b]? =some (.cells #[.pointer p] e (0,0)))(z:a.length<4000000000)(h3:3<=W.heap.size):
 ∃a' c' w',(Builtin.append_ #[t,t] t #[v,.slice (qA b) 1 1]).run yP W=.ok (.slice a' (a.length+1) c') w'/\w'.ownsRow 3 e 1 (.slice a' (a.length+1) c') (a++[Value.pointer p]).length (a++[Value.pointer p])/\W.grownBy w' v.ownBlock/\∀g,(Value.slice a' (a.length+1) c').ownBlock=some g->v.ownBlock=some g\/g=W.heap.size:=by
 obtain⟨i0,n,s,w,y⟩:=Sf hi;obtain⟨g,cap,w',r,q,m,k,_⟩:=run_append_lies (P:=yP) W t t 3 e i0 (Value.pointer none) 1 8 c n s w y rfl (by decide) v a.length a o ⟨b,0,none⟩ 1 1 [Value.pointer p] rfl (fun j u c=>by
  have h:(⟨b,0,none⟩:Addr).add j=⟨b,0+j,none⟩:=by unfold Addr.add;split<;>simp_all
  have f:=(Rb.1 c).1;simp at f;subst f;simp at c;subst c;rw[h,R5,Q5 W b 0 _ _ _ l];rfl) (fun u c=>by rw[Q2.1 c];rfl) (by decide) (by unfold maxLen;omega) (by omega) h3 W.heap.size rfl
 refine⟨_,cap,w',r,by rw[Q4];exact q,m,fun x d=>?_⟩;injection d with d;subst d;exact k
theorem oU{w:World}{base e c v n d}(h:w.ownsRow base e c v n d){g}(a:v.ownBlock=some g):kd w g=some e:=by
 rcases h.2 with⟨rfl,_⟩|⟨i,cap,f,rfl,_,b,_⟩
 ·cases a
 ·injection a with a;subst a;exact iO b
theorem Wo.Ky{a l W q r c rs}(h:Wo a l W q r c rs)(p)(b:Nat)(D:W.heap[b]? =some (.cells #[pV p] 41 (0,0)))(s:c.length<4000000000)(h3:3<=W.heap.size):
 ∃f j w' l',(Builtin.append_ #[27,27] 27 #[q,lV (qA b) 1 1]).run yP W=.ok (lV f (c.length+1) j) w'/\Mv (fun x=>x=pr a 0) l l' W w'/\w'.heap[a]? =W.heap[a]?/\Mv (fun x=>x=pr a 0) l l' W (w'.setCell ⟨a,0,none⟩ (lV f (c.length+1) j))/\Wo a l' (w'.setCell ⟨a,0,none⟩ (lV f (c.length+1) j)) (lV f (c.length+1) j) r (c++[pV p]) rs:=by
 obtain⟨f,j,w',H,G,n,t⟩:=Cg underlying27 NZ h.rb p b D s h3;have C:a<W.heap.size:=(Q0.1 h.ah).1;have B:q.ownBlock≠some a:=fun e=>dA (oU h.rb e) (iO h.ah) (by decide) rfl
 have y:w'.heap[a]? =W.heap[a]? :=n.block a C fun e=>B e.symm
 obtain⟨l',z⟩:∃l':Nat->Nat,l'=fun k=>if k<W.heap.size then l k else pr a 0:=⟨_,rfl⟩
 have lo:∀k,k<W.heap.size->l' k=l k:=fun k o=>by rw[z];simp[o]
 have J:∀k,W.heap.size<=k->l' k=pr a 0:=fun k o=>by rw[z];simp[SE.2 o]
 have m:Mv (fun x=>x=pr a 0) l l' W w':=⟨n.os,n.tape,n.output,n.size,lo,fun k o s=>n.block k o fun e=>s (h.qK k e.symm)⟩
 have A:=(lo a C).trans h.lw;have m2:Mv (fun x=>x=pr a 0) l' l' w' (w'.setCell ⟨a,0,none⟩ (lV f (c.length+1) j)):=by
  have:=qg (l:=l') (w:=w') (b:=a) (i:=0) (v:=lV f (c.length+1) j);rw[A] at this;exact this
 have I:∀g,r.ownBlock=some g->(w'.setCell ⟨a,0,none⟩ (lV f (c.length+1) j)).heap[g]? =W.heap[g]? :=fun g d=>by
  have k1:=oU h.rr d;have E:=(h.rr.lt g d).2;rw[Rc _ _ _ _ fun e=>dA k1 (iO h.ah) (by decide) e];exact n.block g E fun e=>dA k1 (oU h.rb e.symm) (by decide) rfl
 have F:∀g,(Value.slice f (c.length+1) j).ownBlock=some g->g≠a:=fun g d e=>by
  rcases t g d with k|k
  ·exact B (by rw[<-e];exact k)
  ·omega
 refine⟨f,j,w',l',H,m,y,m.trans m2,⟨?_,A,?_,fun g d=>?_,cK h.rr I,fun g d=>(lo g (h.rr.lt g d).2).trans (h.qJ g d)⟩⟩
 ·have u:=y.trans h.ah;rw[RM w' a 0 _ _ (0,0) _ u,R7 w' a _ _ _ _ u];rfl
 ·exact cK G fun g d=>Rc _ _ _ _ fun e=>F g d e
 ·rcases t g d with k|k
  ·rw[lo g (h.rb.lt g k).2];exact h.qK g k
  ·exact J g (Nat.le_of_eq k.symm)
theorem Wo.Kx{a l W o q s rs}(h:Wo a l W o q s rs)(p)(b:Nat)(D:W.heap[b]? =some (.cells #[pV p] 58 (0,0)))(r:rs.length<4000000000)(h3:3<=W.heap.size):
 ∃d f w' l',(Builtin.append_ #[28,28] 28 #[q,lV (qA b) 1 1]).run yP W=.ok (lV d (rs.length+1) f) w'/\Mv (fun x=>x=pr a 0) l l' W w'/\w'.heap[a]? =W.heap[a]?/\Mv (fun x=>x=pr a 0) l l' W (w'.setCell ⟨a,1,none⟩ (lV d (rs.length+1) f))/\Wo a l' (w'.setCell ⟨a,1,none⟩ (lV d (rs.length+1) f)) o (lV d (rs.length+1) f) s (rs++[pV p]):=by
 obtain⟨d,f,w',H,G,j,t⟩:=Cg underlying28 NY h.rr p b D r h3;have C:a<W.heap.size:=(Q0.1 h.ah).1;have B:q.ownBlock≠some a:=fun e=>dA (oU h.rr e) (iO h.ah) (by decide) rfl
 have y:w'.heap[a]? =W.heap[a]? :=j.block a C fun e=>B e.symm
 obtain⟨l',z⟩:∃l':Nat->Nat,l'=fun k=>if k<W.heap.size then l k else pr a 0:=⟨_,rfl⟩
 have lo:∀k,k<W.heap.size->l' k=l k:=fun k n=>by rw[z];simp[n]
 have J:∀k,W.heap.size<=k->l' k=pr a 0:=fun k n=>by rw[z];simp[SE.2 n]
 have m:Mv (fun x=>x=pr a 0) l l' W w':=⟨j.os,j.tape,j.output,j.size,lo,fun k n r=>j.block k n fun e=>r (h.qJ k e.symm)⟩
 have A:=(lo a C).trans h.lw;have m2:Mv (fun x=>x=pr a 0) l' l' w' (w'.setCell ⟨a,1,none⟩ (lV d (rs.length+1) f)):=by
  have:=qg (l:=l') (w:=w') (b:=a) (i:=1) (v:=lV d (rs.length+1) f);rw[A] at this;exact this
 have I:∀g,o.ownBlock=some g->(w'.setCell ⟨a,1,none⟩ (lV d (rs.length+1) f)).heap[g]? =W.heap[g]? :=fun g c=>by
  have k1:=oU h.rb c;have E:=(h.rb.lt g c).2;rw[Rc _ _ _ _ fun e=>dA k1 (iO h.ah) (by decide) e];exact j.block g E fun e=>dA k1 (oU h.rr e.symm) (by decide) rfl
 have F:∀g,(Value.slice d (rs.length+1) f).ownBlock=some g->g≠a:=fun g c e=>by
  rcases t g c with k|k
  ·exact B (by rw[<-e];exact k)
  ·omega
 refine⟨d,f,w',l',H,m,y,m.trans m2,⟨?_,A,cK h.rb I,fun g c=>(lo g (h.rb.lt g c).2).trans (h.qK g c),?_,fun g c=>?_⟩⟩
 ·have u:=y.trans h.ah;rw[RM w' a 1 _ _ (0,0) _ u,R7 w' a _ _ _ _ u];rfl
 ·exact cK G fun g c=>Rc _ _ _ _ fun e=>F g c e
 ·rcases t g c with k|k
  ·rw[lo g (h.rr.lt g k).2];exact h.qJ g k
  ·exact J g (Nat.le_of_eq k.symm)
theorem LX(n:Nat)(a:Int){i j}(hi:i<n)(b:j<n)(h:fe n a i=fe n a j):i=j:=by
 unfold fe at h;split at h
 ·omega
 ·have c:=kz a n (by omega);generalize bO a n=p at*;have e:∀x,x<n->(x+p) % n=if x+p<n then x+p else x+p - n:=fun x d=>by
   split
   ·exact Sz (by omega)
   ·rw[Nat.mod_eq_sub_mod (by omega)];exact Sz (by omega)
  rw[e i hi,e j b] at h;split at h<;>split at h<;>omega
theorem Dc(n:Nat)(c:Int):∀i,i<=n->((List.range i).map (fe n c)).Nodup
 | 0,_=>by simp
 |i+1,h=>by
  rw[List.range_succ,R9]
  refine List.nodup_append.2 ⟨Dc n c i (by omega),by simp,fun a d b f e=>?_⟩
  obtain⟨x,k,rfl⟩:=Rt.1 d
  have g:b=fe n c i:=by simpa using f
  have l:=Sg.1 k
  have:=LX n c (i:=x) (j:=i) (by omega) (by omega) (e.trans g)
  omega
theorem Jj(f)(a b:List Nat):dq f (a++b)=dq f a+dq f b:=by
 induction a with
 |nil=>show dq f b=0+_;omega
 |cons x r ih=>show f x+dq f (r++b)=f x+dq f r+_;rw[ih];omega
theorem Ji(f g)(a:List Nat):dq f (a.map g)=dq (fun x=>f (g x)) a:=by
 induction a with
 |nil=>rfl
 |cons x r ih=>show f (g x)+dq f (r.map g)=_;rw[ih];rfl
def iS:a6:=⟨⟨#[]⟩,0,⟨#[]⟩,⟨#[]⟩,none,0,[]⟩
def lG(a:List a6)(j:Nat):Nat:=6000*(1+(a.getD j iS).aS.length)
theorem EP:∀(a:List a6),dq (lG a) (List.range a.length)=6000*aR a
 | []=>rfl
 |h::t=>by
  have b:=EP t
  rw[Ro,List.range_succ_eq_map]
  show lG (h::t) 0+dq (lG (h::t)) ((List.range t.length).map Nat.succ)=6000*(1+h.aS.length+aR t)
  rw[Ji]
  have e:(fun x=>lG (h::t) (Nat.succ x))=lG t:=by funext x;unfold lG;simp
  have e0:lG (h::t) 0=6000*(1+h.aS.length):=by unfold lG;simp
  rw[e,e0,b];omega
def ql(a:List a6)(b:Int)(i:Nat):Nat:=dq (lG a) ((List.range i).map (fe a.length b))
theorem JM(a:List a6)(b:Int)(i:Nat):ql a b (i+1)=ql a b i+lG a (fe a.length b i):=by
 unfold ql;rw[List.range_succ,R9,Jj];show _+(lG a (fe a.length b i)+0)=_;omega
theorem BM(a:List a6)(b:Int)(i:Nat)(hi:i<=a.length):ql a b i<=6000*aR a:=by
 rw[<-EP];unfold ql;refine xi _ ?_ ?_
 ·exact Dc a.length b i hi
 ·intro x c;obtain⟨y,d,rfl⟩:=Rt.1 c;exact Sg.2 (uU _ _ _ (by have:=Sg.1 d;omega))
structure QH(w:World)(sb:Nat)(us:Nat->Value)(ps:List (yB×yB))(A:jF):Prop where
 sb:A.sb=sb
 us:A.us=us
 ps:A.ps=ps
 n:A.N=1
 dh:∀x,x<w.heap.size->¬Of A.sp (A.l x)
 dD:yW w A.w
 sp:w.heap.size<=A.sp
 lb:∀x,x<w.heap.size->A.l x=0\/A.l x=pr A.sb 0
 oo:A.sb<w.heap.size
def j7(w:World)(sb:Nat)(d:Nat->Value)(b:List (yB×yB))(c:Nat)(K:Nat)(a:List (Nat×Obj))(W:World):Prop:=∃A,QH w sb d b A/\A.sp=c/\SC A K [] a W
theorem j7.below{w sb f d e K c W}(h:j7 w sb f d e K c W):yW w W:=by
 obtain⟨A,a,_,l',g,m,_⟩:=h;refine⟨m.os.trans a.dD.os,m.tape.trans a.dD.tape,m.output.trans a.dD.output,Q7 a.dD.size m.size,fun k b=>?_⟩;exact(m.kept (Q6 b a.dD.size) rfl (a.dh k b)).trans (a.dD.block k b)
theorem j7.step{w sb g f a K K' c d W b}(h:j7 w sb g f a K c W)(i:∀A:jF,A.sp=a->A.N=1->SC A K [] c W->SC A K' [] d b):j7 w sb g f a K' d b:=by
 obtain⟨A,e,h1,h2⟩:=h;exact⟨A,e,h1,i A h1 e.n h2⟩
theorem j7.calls{w:World}{sb:Nat}{us:Nat->Value}{ps:List (ByteArray×ByteArray)}{sp K K':Nat}{bx:List (Nat×Obj)}{W:World}{f:Nat}{A0:Array Value}{R:Ending->World->Prop}(h:j7 w sb us ps sp K bx W)(hs:∀A:jF,A.sp=sp->A.N=1->SC A K [] bx W->Calls Tryz.prog f A0 W fun e w'=>R e w'/\SC A K' [] bx w'):Calls Tryz.prog f A0 W fun e w'=>R e w'/\j7 w sb us ps sp K' bx w':=by
 obtain⟨A,hA,h1,h2⟩:=h
 exact(hs A h1 hA.n h2).mono fun e w' ⟨h3,h4⟩=>⟨h3,A,hA,h1,h4⟩
theorem JP{w W sb f g}(d:eI w sb f g)(T:az w)(a:yW w W)(h:yB)(r:h.size=32):
 Calls yP 23 #[pV (qA sb),sV h] W fun e w'=>∃c,e=rV (tV #[pV (qA c),iV .i64 0])/\j7 w sb f g c 0 [] w':=by
 classical
 have s:=d.below a;refine(xH (l:=fun x=>if bW sb f x then pr sb 0 else 0) s (fun x b=>QX b) (T.below a) (fun k i=>QW fun q=>by have:=d.m3 k q;omega) h r).mono ?_;rintro e w' ⟨c,j,l',o,t,m,b⟩;have n:yW W w':=⟨m.os,m.tape,m.output,m.size,fun k i=>m.kept i rfl id⟩
 refine⟨c,o,⟨l',w',c,sb,j,[j],1,f,g⟩,⟨rfl,rfl,rfl,rfl,fun x b=>?_,a.trans (n.mono a.size),Q7 a.size t,fun x b=>?_,d.st.dQ sb (.inl rfl)⟩,rfl,SC.start b⟩
 ·have u:sb<w.heap.size:=d.st.dQ sb (.inl rfl);have p:=m.aM x (Q6 b a.size);show ¬Of c (l' x);rw[p];split
  ·exact mg (by have:=a.size;omega)
  ·exact mf c
 ·show l' x=0\/l' x=pr sb 0;rw[m.aM x (Q6 b a.size)];split
  ·exact .inr rfl
  ·exact .inl rfl
theorem Kr{w sb B z}(O:eI w sb B z)(T:az w){v l}(o:fE w v l)(R:aR l<=600000)(r:Int)(F:Rg r):
 Calls yP 59 #[pV (qA sb),v,iV .i64 r] w fun e w'=>∃f,e=rV (pV (qA f))/\j7 w sb B z f (6000*aR l) [] w':=by
 obtain⟨a,cap,rfl⟩:=o.form
 have Q:=sO l
 have E:∀j,j<l.length->l[j]? =some (l.getD j iS):=fun j s=>by rw[Q3,QV s];rfl
 have M:∀j,j<l.length->l.getD j iS∈l:=fun j s=>Rv (E j s)
 refine(Kq w sb a cap l.length r F (by omega) (fun j=>l.getD j iS) (ql l r) (6000*aR l)
  (fun f K W=>j7 w sb B z f K [] W)
  (fun f n h K W=>j7 w sb B z f K [(n,.cells (iP h) 107 (0,0))] W/\h∈l)
  (og w T)
  (fun W H=>JP O T H _ (by rw[aH];exact jY _))
  (fun W h0=>pk r _ F h0 (by omega) W)
  rfl
  (fun i hi=>⟨JM l r i,BM l r (i+1) hi⟩)
  (fun f K W j t s=>by
   obtain⟨g,h1,h2,h3⟩:=(o.below t.below).at_ j _ (E j s)
   exact⟨g,h1,h2,h3⟩)
  (fun f K W j t s=>⟨t.step fun A _ _ h=>h.box _ _,M j s⟩)
  (fun f n h K K' W b u=>b.1.step fun A _ _ h=>(h.mono u).drop (fun _ ht=>ht) fun _ q=>absurd q (Si))
  (fun f n h K W b=>by
   obtain⟨A,_,_,p⟩:=b.1
   have q:=p.at_
   have m:=o.2 h b.2
   refine⟨(Q0.1 q).1,?_,?_,?_,?_,?_,m.len⟩
   ·rw[Q5 W _ 0 _ _ _ q];rfl
   ·rw[Q5 W _ 1 _ _ _ q];rfl
   ·rw[Q5 W _ 2 _ _ _ q];rfl
   ·rw[Q5 W _ 3 _ _ _ q];rfl
   ·rw[Q5 W _ 4 _ _ _ q];rfl)
  (fun f n h K W b=>⟨b.1.step fun A _ _ h=>h.drew,b.2⟩)
  (fun f n h K W k b u=>by
   have m:=(o.2 h b.2)
   have N:=m.at_.below b.1.below
   have J:h.aS[k]? =some h.aS[k]:=QV u
   obtain⟨g,e,L,c,d⟩:=dP.at_ (a:=h.sa) (cap:=h.sc) N k _ J
   obtain⟨s1,s2⟩:=m.small _ (RV u)
   exact⟨g,_,_,e,L,c,d,by unfold maxLen;omega,by unfold maxLen;omega⟩)
  (fun f n h K W x b C D=>by
   have m:=(o.2 h b.2)
   refine(b.1.calls (K':=K+500) fun A e1 e2 p=>?_).mono fun e w' ⟨h1,h2⟩=>⟨h1,h2,b.2⟩
   subst e1
   exact qe p h.addr (by have:=m.addr;unfold maxLen;omega) x D (by omega))
  (fun f n h K W b=>(o.2 h b.2).n)
  (fun f n h K W x y b C D P=>by
   have m:=(o.2 h b.2)
   refine(b.1.calls (K':=K+1300) fun A e1 e2 p=>?_).mono fun e w' ⟨h1,h2⟩=>⟨h1,h2,b.2⟩
   subst e1
   exact GN p h.addr x y (by have:=m.addr;unfold maxLen;omega) D P (by omega))
  (fun f n h K W b C=>by
   have m:=(o.2 h b.2)
   refine(b.1.calls (K':=K+500) fun A e1 e2 p=>?_).mono fun e w' ⟨h1,h2⟩=>⟨h1,h2,b.2⟩
   subst e1
   exact qf p h.addr (by have:=m.addr;unfold maxLen;omega) h.code (by omega))
  (fun f n h K W b C=>by
   have m:=(o.2 h b.2)
   refine(b.1.calls (K':=K+500) fun A e1 e2 p=>?_).mono fun e w' ⟨h1,h2⟩=>⟨h1,h2,b.2⟩
   subst e1
   exact qh p h.addr (by have:=m.addr;unfold maxLen;omega) h.aj (by have:=m.aj;unfold maxLen;omega) (by omega))
  (fun f n h K W b=>by
   have G:=T.below b.1.below
   refine(iE ik (by decide) W G).mono ?_
   rintro e w' ⟨h1,h2⟩
   exact⟨⟨_,h1,by have:(ai ik).size=32:=eL _;rw[this];decide⟩,b.1.step fun A _ _ h=>h.below h2,b.2⟩)
  (fun f n h K W x b=>by
   have m:=(o.2 h b.2)
   refine(mY W h.sv h.aS x (m.at_.below b.1.below) (by have:=m.len;omega)).mono ?_
   rintro e w' ⟨h1,h2⟩
   exact⟨⟨_,h1⟩,h2⟩)).mono ?_
 rintro e w' ⟨f,I,t⟩
 exact⟨f,I,t.out.step fun A _ _ h=>h.mono (BM l r _ (QU _))⟩
def LB(a sb:Nat):Nat:=pr (a+sb+1) 7
theorem DX(a sb:Nat):¬Of a (LB a sb):=mg (by omega)
theorem yD(a sb:Nat):LB a sb≠0:=by have:=ie (a+sb+1) 7;unfold LB;omega
theorem DW(a sb:Nat):LB a sb≠pr sb 0:=fun e=>by have:=(gz e).1;omega
def wD(r s:Value×List yB):Prop:=∀g,r.1.ownBlock=some g->s.1.ownBlock≠some g
theorem wD.symm{r s}(h:wD r s):wD s r:=fun g a e=>h g e a
structure Ao(w:World)(sb:Nat)(us:Nat->Value)(ps:List (yB×yB))(sp N:Nat)(rows:List (Value×List yB))(bs:List (Nat×Obj))(W:World)(l:Nat->Nat)(tw:Nat)(D:List Nat):Prop where
 x:SX l W sp sb tw D N us ps
 dD:yW w W
 px:w.heap.size<=sp
 oo:sb<w.heap.size
 dh:∀x,x<w.heap.size->¬Of sp (l x)/\l x≠LB sp sb
 row:∀r∈rows,W.ownsRow w.heap.size 9 1 r.1 r.2.length (r.2.map Value.string)/\∀g,r.1.ownBlock=some g->l g=LB sp sb
 pw:rows.Pairwise wD
 bx:∀b∈bs,W.heap[b.1]? =some b.2/\l b.1=0
def FX(w:World)(sb:Nat)(e:Nat->Value)(b:List (yB×yB))(d N:Nat)(c:List (Value×List yB))(a:List (Nat×Obj))(W:World):Prop:=∃l tw D,Ao w sb e b d N c a W l tw D
theorem FX.dh{w sb e b d N c a W}(h:FX w sb e b d N c a W):yW w W:=by
 obtain⟨l,f,D,h⟩:=h;exact h.dD
theorem FX.texts{w sb f d e N a b W}(h:FX w sb f d e N a b W){v cs}(c:(v,cs)∈a):du w.heap.size W v cs:=by
 obtain⟨l,g,D,h⟩:=h;exact mP (h.row _ c).1
theorem FX.boxes{w sb g d f N e a W}(h:FX w sb g d f N e a W):∀b∈a,W.heap[b.1]? =some b.2:=by
 obtain⟨l,i,D,h⟩:=h;exact fun b c=>(h.bx b c).1
theorem FX.move{w sb o j c N q y s W e l l' n D p T}(h:Ao w sb o j c N y s W l n D)(m:Mv T l l' W e)(f:∀x,T x->Of c x)(a:SX l' e c sb n p q o j):Ao w sb o j c q y s e l' n p:=by
 have v:∀x,x<w.heap.size->x<W.heap.size:=fun x a=>Q6 a h.dD.size
 refine⟨a,?_,h.px,h.oo,fun x a=>?_,fun r A=>?_,h.pw,fun b z=>?_⟩
 ·exact⟨m.os.trans h.dD.os,m.tape.trans h.dD.tape,m.output.trans h.dD.output,Q7 h.dD.size m.size,fun k i=>(m.kept (v k i) rfl fun t=>(h.dh k i).1 (f _ t)).trans (h.dD.block k i)⟩
 ·rw[m.aM x (v x a)];exact h.dh x a
 ·obtain⟨h1,h2⟩:=h.row r A;exact⟨cK h1 fun g d=>m.kept (h1.lt g d).2 (h2 g d) fun t=>DX c sb (f _ t),fun g d=>(m.aM g (h1.lt g d).2).trans (h2 g d)⟩
 ·obtain⟨h1,h2⟩:=h.bx b z;have u:b.1<W.heap.size:=(Q0.1 h1).1;exact⟨(m.kept u h2 fun t=>mf c (f _ t)).trans h1,(m.aM _ u).trans h2⟩
theorem FX.below{w sb g d f N e b W a}(h:FX w sb g d f N e b W)(c:yW W a):FX w sb g d f N e b a:=by
 obtain⟨l,i,D,h⟩:=h;exact⟨_,i,D,FX.move h (Mv.below (fun _=>False) l c) (fun _ h=>h.elim) (h.x.below c)⟩
theorem FX.box{w sb g d f N e c W}(h:FX w sb g d f N e c W)(cs:Array Value)(t):FX w sb g d f N e ((W.heap.size,.cells cs t (0,0))::c) (W.alloc (.cells cs t)):=by
 obtain⟨l,i,D,h⟩:=h;have a:yW W (W.alloc (.cells cs t)):=(Q1 _ _).alloc (QU _) _;have h2:=FX.move h (Mv.below (fun _=>False) l a) (fun _ h=>h.elim) (h.x.below a);refine⟨_,i,D,⟨h2.x,h2.dD,h2.px,h2.oo,h2.dh,h2.row,h2.pw,fun b a=>?_⟩⟩;rcases Rh.1 a with rfl|a
 ·exact⟨Rl W _,nr (QU _)⟩
 ·exact h2.bx b a
theorem FX.less{w sb j e i N a}{f g:List (Value×List yB)}{c bs' W}(h:FX w sb j e i N f c W)(p:N<=a)(d:g.Sublist f)(k:∀b∈bs',b∈c):FX w sb j e i a g bs' W:=by
 obtain⟨l,o,D,h⟩:=h;refine⟨l,o,D,⟨?_,h.dD,h.px,h.oo,h.dh,fun r n=>h.row r (d.mem n),h.pw.sublist d,fun b m=>h.bx b (k b m)⟩⟩;have:=h.x.more (a - N);rw[show N+(a - N)=a by omega] at this;exact this
theorem FX.swap{w sb f c e N r s d b W}(h:FX w sb f c e N (r::s::d) b W):FX w sb f c e N (s::r::d) b W:=by
 obtain⟨l,g,D,h⟩:=h;refine⟨l,g,D,⟨h.x,h.dD,h.px,h.oo,h.dh,fun x a=>h.row x (by simp only[Rh] at a⊢;rcases a with h|h|h;exact .inr (.inl h);exact .inl h;exact .inr (.inr h)),?_,h.bx⟩⟩;have:=h.pw;rw[List.pairwise_cons,List.pairwise_cons] at this⊢;obtain⟨h1,h2,h3⟩:=this;refine⟨fun x a=>?_,fun x a=>h1 x (QZ _ a),h3⟩;rcases Rh.1 a with rfl|a
 ·exact(h1 s (QY ..)).symm
 ·exact h2 x a
theorem gX.mem{base c v cs}(h:gX base c v cs){W:World}(k:∀b∈c,W.heap[b.1]? =some b.2)(g:Nat)(f:v.ownBlock=some g):∃o,(g,o)∈c:=by
 refine Sb fun m=>?_
 have n:∀b∈c,b.1≠g:=fun b d e=>m ⟨b.2,by rw[<-e];exact d⟩
 have h2:=h.own {W with heap:=W.heap.setIfInBounds g (.cells #[] 0 (0,0))} fun b d=>by
  show(W.heap.setIfInBounds g _)[b.1]? =_;rw[Array.getElem?_setIfInBounds_ne (fun e=>n b d e.symm)];exact k b d
 rcases h2.2 with⟨rfl,_⟩|⟨i,cap,j,rfl,_,l,_⟩
 ·cases f
 ·injection f with f;subst f;have a:=l;rw[Array.getElem?_setIfInBounds_self] at a;split at a
  ·injection a with a;injection a with _ a;cases a
  ·cases a
theorem FX.arg{w sb j i d N z n W}(h:FX w sb j i d N z n W):∃A:jF,A.sp=d/\A.N=N/\A.w=W/\SC A 0 [] [] W/\(∀K c a,SC A K [] c a->FX w sb j i d (N+K) z n a)/\∀K c C a (v) (cs:List yB),SC A K [] (c++C) a->gX W.heap.size c v cs->FX w sb j i d (N+K) ((v,cs)::z) n a:=by
 obtain⟨l,B,D,h⟩:=h;refine⟨⟨l,W,d,sb,B,D,N,j,i⟩,rfl,rfl,rfl,SC.start h.x,fun K c a p=>?_,fun K c C a v cs p F=>?_⟩
 ·obtain⟨l',k,m,_,_,y,_⟩:=p;exact⟨l',B,k,FX.move h m (fun _ t=>t) y⟩
 ·obtain⟨l',k,m,_,_,y,s⟩:=p;have h2:=FX.move h m (fun _ t=>t) y;have E:=F.own a fun b q=>(s b (Rw _ q)).1
  have G:∀g,v.ownBlock=some g->l' g=LB d sb:=fun g u=>by
   obtain⟨o,H⟩:=F.mem (fun b q=>(s b (Rw _ q)).1) g u;exact(s _ (Rw _ H)).2.1
  refine⟨l',B,k,⟨h2.x,h2.dD,h2.px,h2.oo,h2.dh,fun r f=>?_,?_,h2.bx⟩⟩
  ·rcases Rh.1 f with rfl|f
   ·exact⟨l9 E h.dD.size,G⟩
   ·exact h2.row r f
  ·refine List.pairwise_cons.2 ⟨fun r f g u e=>?_,h2.pw⟩;have h1:=(E.lt g u).1;have h3:=((h.row r f).1.lt g e).2;omega
theorem FX.append{w sb H G d N v cs p u W}(h:FX w sb H G d N ((v,cs)::p) u W)(b:Nat)(s)(q:List yB)(L:du b W s q)(h63:cs.length+q.length<=4200000000000):
 ∃o w',(Builtin.append_ #[63,63] 63 #[v,s]).run yP W=.ok o w'/\FX w sb H G d N ((o,cs++q)::p) u w':=by
 obtain⟨l,P,D,h⟩:=h;obtain⟨F,C⟩:=h.row _ (QY ..);obtain⟨h1,h2⟩:=List.pairwise_cons.1 h.pw;obtain⟨o,w',n,K,i,z⟩:=tA W w.heap.size v cs F b s q L h63 h.dD.size;refine⟨o,w',n,?_⟩;obtain⟨l',B⟩:∃l':Nat->Nat,l'=fun k=>if k<W.heap.size then l k else LB d sb:=⟨_,rfl⟩
 have lo:∀k,k<W.heap.size->l' k=l k:=fun k c=>by rw[B];simp[c]
 have O:∀k,W.heap.size<=k->l' k=LB d sb:=fun k c=>by rw[B];simp[SE.2 c]
 have m:Mv (fun x=>x=LB d sb) l l' W w':=⟨i.os,i.tape,i.output,i.size,lo,fun k c J=>i.block k c fun e=>J (C k e.symm)⟩
 have j:=h.x.move m (fun e=>yD d sb e.symm) (fun e=>DW d sb e.symm) (fun b e=>DX d sb ⟨b,e.symm⟩);have E:∀x,x<w.heap.size->x<W.heap.size:=fun x j=>Q6 j h.dD.size
 have M:∀r∈p,∀g,r.1.ownBlock=some g->w'.heap[g]? =W.heap[g]? :=fun r n g a=>i.block g ((h.row r (QZ _ n)).1.lt g a).2 fun e=>h1 r n g e.symm a
 refine⟨l',P,D,⟨j,?_,h.px,h.oo,fun x j=>?_,fun r f=>?_,?_,fun b I=>?_⟩⟩
 ·exact⟨m.os.trans h.dD.os,m.tape.trans h.dD.tape,m.output.trans h.dD.output,Q7 h.dD.size m.size,fun k c=>(m.kept (E k c) rfl fun t=>(h.dh k c).2 t).trans (h.dD.block k c)⟩
 ·rw[lo x (E x j)];exact h.dh x j
 ·rcases Rh.1 f with rfl|f
  ·refine⟨K,fun g a=>?_⟩;rcases z g a with e|e
   ·rw[lo g (F.lt g e).2];exact C g e
   ·exact O g e
  ·obtain⟨k1,k2⟩:=h.row r (QZ _ f);exact⟨cK k1 (M r f),fun g a=>(lo g (k1.lt g a).2).trans (k2 g a)⟩
 ·refine List.pairwise_cons.2 ⟨fun r f g a e=>?_,h2⟩;rcases z g a with y|y
  ·exact h1 r f g y e
  ·have:=((h.row r (QZ _ f)).1.lt g e).2;omega
 ·obtain⟨k1,k2⟩:=h.bx b I;have A:b.1<W.heap.size:=(Q0.1 k1).1;exact⟨(m.kept A k2 fun e=>yD d sb e.symm).trans k1,(lo _ A).trans k2⟩
theorem FX.nV{w sb i d f N e c W}(h:FX w sb i d f N e c W):FX w sb i d f N ((lV none 0 0,[])::e) c W:=by
 obtain⟨l,j,D,h⟩:=h;refine⟨l,j,D,⟨h.x,h.dD,h.px,h.oo,h.dh,fun r b=>?_,List.pairwise_cons.2 ⟨(fun r _ g a=>by cases a),h.pw⟩,h.bx⟩⟩;rcases Rh.1 b with rfl|b
 ·exact⟨RO _ _ _ _,(fun g a=>by cases a)⟩
 ·exact h.row r b
theorem FX.ly{w sb j g b N i d W}(h:FX w sb j g b N i d W)(addr:yB)(n:addr.size<=maxLen):
 Calls yP 60 #[pV (qA b),sV addr] W fun e w'=>∃(v:Value) (c:Nat) (cs:List yB),e=rV (tV #[v,iV .i64 c])/\cs.length<=81/\(∀x∈cs,x.size<=4096)/\FX w sb j g b (N+250) ((v,cs)::i) d w':=by
 obtain⟨A,e1,e2,e3,l,_,o⟩:=h.arg;subst e1;refine(BN l addr n).mono ?_;rintro e w' ⟨⟨v,c,cs,k,m,a,f⟩,_⟩;rw[e3] at a;exact⟨v,c,cs,m,a.len,a.small,o _ k [] w' v cs (by rw[R5] at f;exact f) a⟩
theorem FX.xT{w sb n l g N m i W}(h:FX w sb n l g N m i W)(addr f:yB)(q:addr.size<=maxLen)(r:f.size<=maxLen)(t:N+1000<4000000000):
 Calls yP 61 #[pV (qA g),sV addr,sV f] W fun e w'=>∃(u v:Value) (c:Nat) (cs:List yB),e=rV (tV #[u,v,iV .i64 c])/\cs.length<=81/\(∀x∈cs,x.size<=4096)/\FX w sb n l g (N+800) ((v,cs)::m) i w':=by
 obtain⟨A,e1,e2,e3,o,_,s⟩:=h.arg;subst e1;refine(Ci o addr f q r (by omega)).mono ?_;rintro e w' ⟨⟨u,v,c,cs,j,b1,b2,p,y,d,k⟩,_⟩;rw[e3] at d;exact⟨u,v,c,j,p,d.len,d.small,s _ b2 b1 w' v j ((SC.drop (by rw[R5] at k;exact k) (fun _ ht=>ht) fun b a=>by
  rw[Rz];rcases Re.1 a with a|a
  ·exact Ru _ a
  ·exact Rw _ a)) d⟩
theorem j7.fx{w sb j g i K W}(h:j7 w sb j g i K [] W):FX w sb j g i (1+K) [] [] W:=by
 have c:=h.below;obtain⟨A,n,rfl,l',k,m,_,_,a,_⟩:=h;obtain⟨e1,e2,e3,e4,q,l,p,f,d⟩:=n;rw[e4,e1,e2,e3] at a;rw[e1] at f d;refine⟨l',A.tw,k,⟨a,c,p,d,fun x a=>?_,(fun r o=>by cases o),List.Pairwise.nil,fun b c=>by cases c⟩⟩;rw[m.aM x (Q6 a l.size)];refine⟨q x a,fun e=>?_⟩;rcases f x a with h0|h0
 ·exact yD A.sp sb (e.symm.trans h0)
 ·exact DW A.sp sb (e.symm.trans h0)
theorem yn{w w1:World}(h3:3<=w.heap.size)(a:fR 3 w1 w.heap.size (fun _=>lV none 0 0) []):eI w1 w.heap.size (fun _=>lV none 0 0) []:=
 ⟨a,by decide,(fun h t e=>by cases e),fun x b=>by
  rcases b with h|⟨c,_,h⟩
  ·rw[h];exact h3
  ·simp[Value.ownBlock] at h⟩
def dx(w:World)(c N:Nat)(b:List (Value×List yB))(a:List (Nat×Obj))(W:World):Prop:=∃w1 ob us,yW w w1/\FX w1 ob us [] c N b a W
theorem dx.dh{w d N c b W}(h:dx w d N c b W):yW w W:=by
 obtain⟨w1,e,f,a,h⟩:=h;exact a.trans (h.dh.mono a.size)
theorem dx.below{w d N c b W a}(h:dx w d N c b W)(e:yW W a):dx w d N c b a:=by
 obtain⟨w1,f,g,h1,h⟩:=h;exact⟨w1,f,g,h1,h.below e⟩
theorem dx.less{w f N a}{d e:List (Value×List yB)}{c bs' W}(h:dx w f N d c W)(i:N<=a)(j:e.Sublist d)(g:∀b∈bs',b∈c):dx w f a e bs' W:=by
 obtain⟨w1,k,l,h1,h⟩:=h;exact⟨w1,k,l,h1,h.less i j g⟩
theorem dx.texts{w e N a c W}(h:dx w e N a c W){v cs}(d:(v,cs)∈a):∃b,du b W v cs:=by
 obtain⟨w1,f,g,h1,h⟩:=h;exact⟨_,h.texts d⟩
theorem dx.cells{w n N j k W}(h:dx w n N j k W){a c}{cs:List yB}(m:(Value.slice a cs.length c,cs)∈j):mG W a cs:=by
 obtain⟨w1,r,t,h1,l,s,D,h⟩:=h;obtain⟨b,_⟩:=h.row _ m;intro i p d;obtain⟨o,q,e,_,_,f⟩:=dr b;cases e
 have hi:=(Rb.1 d).1;rcases f with⟨_,h0,_⟩|⟨g,rfl⟩
 ·have:cs.length=0:=h0;omega
 ·exact⟨g,rfl,(b.lt g rfl).2,dK b rfl i _ (by rw[Rp,d];rfl)⟩
theorem dx.append{w j N v cs i f W}(h:dx w j N ((v,cs)::i) f W)(b:Nat)(d)(q:List yB)(k:du b W d q)(h63:cs.length+q.length<=4200000000000):
 ∃a c w',(Builtin.append_ #[63,63] 63 #[v,d]).run yP W=.ok (lV a (cs++q).length c) w'/\dx w j N ((lV a (cs++q).length c,cs++q)::i) f w':=by
 obtain⟨w1,m,n,h1,h⟩:=h;obtain⟨o,w',l,g⟩:=h.append b d q k h63;obtain⟨a,c,e,_⟩:=g.texts (QY ..);subst e;exact⟨a,c,w',l,w1,m,n,h1,g⟩
theorem dx.nV{w c N b a W}(h:dx w c N b a W):dx w c N ((lV none 0 0,[])::b) a W:=by
 obtain⟨w1,d,e,h1,h⟩:=h;exact⟨w1,d,e,h1,h.nV⟩
theorem dx.swap{w c N r s b a W}(h:dx w c N (r::s::b) a W):dx w c N (s::r::b) a W:=by
 obtain⟨w1,d,e,h1,h⟩:=h;exact⟨w1,d,e,h1,h.swap⟩
theorem dx.box{w c N b a W}(h:dx w c N b a W)(cs:Array Value)(t):dx w c N b ((W.heap.size,.cells cs t (0,0))::a) (W.alloc (.cells cs t)):=by
 obtain⟨w1,d,e,h1,h⟩:=h;exact⟨w1,d,e,h1,h.box cs t⟩
theorem dx.ly{w d N i f W}(h:dx w d N i f W)(addr:yB)(k:addr.size<=maxLen):
 Calls yP 60 #[pV (qA d),sV addr] W fun e w'=>∃(a:Option Addr) (b:Nat) (c:Int) (cs:List yB),e=rV (tV #[lV a cs.length b,iV .i64 c])/\dO 81 cs/\dx w d (N+250) ((lV a cs.length b,cs)::i) f w':=by
 obtain⟨w1,l,m,h1,h⟩:=h;refine(h.ly addr k).mono ?_;rintro e w' ⟨v,c,cs,rfl,h2,h3,g⟩;obtain⟨j,b,e,_⟩:=g.texts (QY ..);subst e;exact⟨j,b,c,cs,rfl,⟨h2,h3⟩,w1,l,m,h1,g⟩
theorem dx.xT{w f N j g W}(h:dx w f N j g W)(addr d:yB)(m:addr.size<=maxLen)(n:d.size<=maxLen)(l:N+1000<4000000000):
 Calls yP 61 #[pV (qA f),sV addr,sV d] W fun e w'=>∃(u:Value) (a:Option Addr) (b:Nat) (c:Int) (cs:List yB),e=rV (tV #[u,lV a cs.length b,iV .i64 c])/\dO 81 cs/\dx w f (N+800) ((lV a cs.length b,cs)::j) g w':=by
 obtain⟨w1,o,p,h1,h⟩:=h;refine(h.xT addr d m n l).mono ?_;rintro e w' ⟨u,v,c,cs,rfl,h2,h3,i⟩;obtain⟨k,b,e,_⟩:=i.texts (QY ..);subst e;exact⟨u,k,b,c,cs,rfl,⟨h2,h3⟩,w1,o,p,h1,i⟩
theorem dx.root{w a N c b W}(h:dx w a N c b W):
 Calls yP 56 #[pV (qA a)] W fun e w'=>(∃r:yB,e=rV (sV r)/\r.size=32)/\dx w a N c b w':=by
 obtain⟨w1,g,i,h1,h⟩:=h;obtain⟨A,e1,e2,e3,d,f,_⟩:=h.arg;subst e1;refine(JN d).mono ?_;rintro e w' ⟨h2,h3⟩;exact⟨h2,w1,g,i,h1,f 0 [] w' h3⟩
theorem dx.Gj{w f N v cs d a W}(h:dx w f N ((v,cs)::d) a W)(T:az w)(c:dO 4000000000 cs):
 Calls yP 46 #[v] W fun e w'=>bE e/\dx w f N ((v,cs)::d) a w':=by
 obtain⟨b,j⟩:=h.texts (QY ..);refine(oh W v cs j.texts (by have:=c.1;omega) (fun p k=>by have:=c.2 p k;unfold maxLen;omega) (T.below h.dh)).mono ?_;rintro e w' ⟨i,g⟩;exact⟨⟨_,i⟩,h.below g⟩
theorem CM{w}(T:az w){v c}(i:fE w v c)(j:aR c<=600000)(d:Int)(h:Rg d):
 Calls yP 10 #[] w fun e w'=>∃ob,e=rV (pV (qA ob))/\yW w w'/\Calls yP 59 #[pV (qA ob),v,iV .i64 d] w' fun e w2=>∃b,e=rV (pV (qA b))/\dx w b (1+6000*aR c) [] [] w2:=by
 refine(so 3 w).mono ?_;rintro e w1 ⟨g,f,a⟩;refine⟨_,g,a,(Kr (yn T.size f) (T.below a) (i.below a) j d h).mono ?_⟩;rintro e w2 ⟨b,h1,h2⟩;exact⟨b,h1,w1,_,_,a,h2.fx⟩
def jB:List a6->Nat->Nat
 | _,0=>0
 | [],_+1=>0
 |h::t,i+1=>800*(1+h.aS.length)+jB t i
theorem zG:∀(a:List a6) (i:Nat),jB a i<=800*aR a
 | _,0=>by simp[jB]
 | [],i+1=>Ri _
 |h::t,i+1=>by
  have:=zG t i
  show 800*(1+h.aS.length)+jB t i<=800*(1+h.aS.length+aR t)
  omega
theorem FU:∀(a:List a6) (i:Nat),i<a.length->jB a (i+1)=jB a i+800*(1+(a.getD i iS).aS.length)
 | [],i,h=>by cases h
 |h::t,0,_=>by
  have:jB t 0=0:=by cases t<;>rfl
  show 800*(1+h.aS.length)+jB t 0=0+800*(1+h.aS.length)
  omega
 |h::t,i+1,hi=>by
  have b:=FU t i (by simp at hi;omega)
  show 800*(1+h.aS.length)+jB t (i+1)=800*(1+h.aS.length)+jB t i+800*(1+(t.getD i iS).aS.length)
  omega
theorem OU{w:World}{rb C v1 v2 v4 v5 I base M V}(G:w.heap[rb]? =some (.cells #[pV (qA C),v1,v2,I,v4,v5] 65 (0,0)))(u:fE w I base)(hw:aR base<=500000)(H:eI w C M V)(T:az w):
 Calls yP 58 #[pV (qA rb)] w fun e w'=>bE e/\yW w w':=by
 obtain⟨a,cap,rfl⟩:=u.form;have Z:=sO base;have E:rb<w.heap.size:=(Q0.1 G).1;have J:∀W,yW w W->W.heap[rb]? =some (.cells #[pV (qA C),v1,v2,lV a base.length cap,v4,v5] 65 (0,0)):=fun W O=>(O.block rb E).trans G
 have K:∀j,j<base.length->base[j]? =some (base.getD j iS):=fun j o=>by rw[Q3,QV o];rfl
 have B:∀j,j<base.length->base.getD j iS∈base:=fun j o=>Rv (K j o)
 refine(OT w rb C a cap base.length (by omega) (fun j=>base.getD j iS) (fun i=>1+6000*aR base+jB base i) (1+6000*aR base+800*aR base) (fun f k l m W=>dx w f k l m W)
  ⟨by rw[Q5 w _ 3 _ _ _ G];rfl,E⟩ ?_ ?_ ?_ ?_ ?_ ?_ ?_ ?_ ?_ ?_ ?_ ?_ ?_ ?_ ?_ ?_ ?_ ?_ ?_ ?_ ?_).mono ?_
 ·refine(CM T u (by omega) 1 ⟨by decide,by decide⟩).mono ?_;rintro e w1 ⟨L,D,p,z⟩;refine⟨L,D,⟨by rw[Q5 w1 _ 3 _ _ _ (J w1 p)];rfl,Q6 E p.size⟩,z.mono ?_⟩;rintro e w2 ⟨f,h1,h2⟩;exact⟨f,h1,h2.less (by omega) (List.Sublist.refl _) fun _ h=>h⟩
 ·intro i hi;have h1:=FU base i hi;have h2:=zG base (i+1);exact⟨by show 1+6000*aR base+jB base (i+1)=1+6000*aR base+jB base i+800*(1+(base.getD i iS).aS.length);omega,by show 1+6000*aR base+jB base (i+1)<=_;omega⟩
 ·have:=zG base 0;show 1+6000*aR base+jB base 0<=_;omega
 ·show _<_;omega
 ·intro f k l m W h;have z:=J W h.dh;exact⟨by rw[Q5 W _ 0 _ _ _ z];rfl,by rw[Q5 W _ 3 _ _ _ z];rfl,(Q0.1 z).1⟩
 ·intro f k l m W j h o;exact(u.below h.dh).at_ j _ (K j o)
 ·intro f k l m W j i h o hi;have y:=u.2 _ (B j o);have U:=y.at_.below h.dh;have R:(base.getD j iS).aS[i]? =some (base.getD j iS).aS[i]:=QV hi;obtain⟨g,e,S,c,d⟩:=dP.at_ (a:=(base.getD j iS).sa) (cap:=(base.getD j iS).sc) U i _ R;obtain⟨s1,s2⟩:=y.small _ (RV hi);exact⟨g,_,e,S,c,by unfold maxLen;omega⟩
 ·intro j o;exact(u.2 _ (B j o)).len
 ·intro f k l m W cs t h;exact h.box cs t
 ·intro f k l n h W N;obtain⟨w1,L,M,_,A⟩:=N;have p:=A.boxes _ (QY ..);refine⟨(Q0.1 p).1,?_,?_⟩
  ·rw[Q5 W _ 0 _ _ _ p];rfl
  ·rw[Q5 W _ 4 _ _ _ p];rfl
 ·intro f k l m W h;exact h.below (gB (Q1 _ _) 1)
 ·intro f k l m W a c cs h F;exact h.cells F
 ·intro f k l m W r h F;exact h.texts F
 ·intro f k k' l A0 m bs' W h h1 h2 h3;exact h.less h1 h2 h3
 ·intro f k r s l m W h;exact h.swap
 ·intro f k l m W h;exact h.nV
 ·intro f k v cs l m W b X q h h1 h2;exact h.append b X q h1 h2
 ·intro f k l m W j h o;have y:=u.2 _ (B j o);exact h.ly _ (by have:=y.addr;unfold maxLen;omega)
 ·intro f k l m W j x h o A Y;have y:=u.2 _ (B j o);exact h.xT _ x (by have:=y.addr;unfold maxLen;omega) A (by omega)
 ·intro f k l m W t h ht;have p:=h.dh;refine(Ec (H.below p).oy (fun x A=>(H.below p).st.dQ x A) (fun k t e=>by have:=H.sm k t e;unfold maxLen;omega) t (by unfold maxLen;omega) (T.below p)).mono ?_;rintro e w' ⟨D,P⟩;exact⟨⟨_,D⟩,h.below P⟩
 ·intro f k v cs l m W h Q;exact h.Gj T Q
 ·rintro e w' ⟨h1,f,k,r,b,h2⟩;exact⟨h1,h2.out.dh⟩
def eN(l:Nat->Nat)(n L:Nat):Nat->Nat:=fun k=>if k<n then l k else L
theorem mN{l n L k}(h:k<n):eN l n L k=l k:=by simp[eN,h]
theorem nM{l n L k}(h:n<=k):eN l n L k=L:=by simp[eN,SE.2 h]
theorem Mv.pH(l)(w:World)(o:Obj)(L:Nat):Mv (fun _=>False) l (eN l w.heap.size L) w (w.alloc o):=
 ⟨rfl,rfl,rfl,by simp,fun _ a=>mN a,fun k a _=>RL w o k a⟩
theorem Mv.mR{l}{w w':World}(h:yW w w')(L:Nat):Mv (fun _=>False) l (eN l w.heap.size L) w w':=
 ⟨h.os,h.tape,h.output,h.size,fun _ a=>mN a,fun k a _=>h.block k a⟩
theorem Mv.jb{l l' w w'}(m:Mv (fun _=>False) l l' w w')(a:List Nat):Mv (dT a) l l' w w':=m.mono fun _ h=>h.elim
theorem Mv.tg(l w)(n:Nat)(T):Mv T l l w (w.drewN n):=
 ⟨(gB (Q1 0 w) n).os,(gB (Q1 0 w) n).tape,(gB (Q1 0 w) n).output,(gB (Q1 0 w) n).size,fun _ _=>rfl,fun k a _=>(gB (Q1 w.heap.size w) n).block k a⟩
theorem py(w:World)(o:Obj):(w.alloc o).heap[w.heap.size]? =some o:=Rl w o
theorem mM(w:World)(o:Obj):(w.alloc o).heap.size=w.heap.size+1:=by simp
structure Af(l:Nat->Nat)(W:World)(R:bN)(us:Nat->Value)(ps:List (yB×yB)):Prop where
 x:SX l W R.sp R.sb R.tw R.D R.N us ps
 pm:fE W R.mv R.m
 lm:mE l R.mv R.m
 sn:W.ownsRow 3 9 1 R.sv R.seen.length (R.seen.map Value.string)
 sm:∀s∈R.seen,s.size<=1073741824
 nm:R.m.length<1000000000
 ns:R.seen.length<1000000000
 base:R.base=R.m/\R.bv=R.mv
theorem Dj{b l W R q p d1}(h1:Inv b l W d1)(a:Af l W R q p)
 (r:R.rb=W.heap.size) (Z:∀g,R.sv.ownBlock=some g->l g=pr W.heap.size 0) (B:W.heap[R.tt]? =some (.cells #[bV R.yes] 61 (0,0))) (A3:l R.tt=pr R.tt 0) (X:d1.aB.length<4000000000)
 (A0:∀Q∈d1.aB,Q.sp≠R.sp) (w:(∀C∈d1.ao,C.sb≠R.sb)/\∀Q∈d1.aB,Q.sb=R.sb->q=d1.us Q.sb/\p=d1.ps Q.sb):
 ∃j m w',(Builtin.append_ #[28,28] 28 #[d1.rv,lV (some ⟨W.heap.size+1,0,none⟩) 1 1]).run yP ((W.alloc (.cells #[pV (qA R.sb),pV (qA R.sp),R.mv,R.bv,R.sv,pV (qA R.tt)] 65)).alloc (.cells #[pV (qA W.heap.size)] 58))=.ok (lV j (d1.aB.length+1) m) w'/\(∀x,x<W.heap.size->l x≠pr b 0->w'.heap[x]? =W.heap[x]?)/\w'.heap[b]? =W.heap[b]?/\∃l',Mv (dT [b]) l l' W (w'.setCell ⟨b,1,none⟩ (lV j (d1.aB.length+1) m))/\Inv b l' (w'.setCell ⟨b,1,none⟩ (lV j (d1.aB.length+1) m)) (d1.oX R (lV j (d1.aB.length+1) m) q p):=by
 obtain⟨o1,A⟩:∃o1:Obj,o1=.cells #[pV (qA R.sb),pV (qA R.sp),R.mv,R.bv,R.sv,pV (qA R.tt)] 65 (0,0):=⟨_,rfl⟩
 obtain⟨o2,I⟩:∃o2:Obj,o2=.cells #[pV (qA W.heap.size)] 58 (0,0):=⟨_,rfl⟩
 obtain⟨h,v⟩:∃h,h=W.alloc o1:=⟨_,rfl⟩
 obtain⟨c,u⟩:∃c,c=h.alloc o2:=⟨_,rfl⟩
 have z1:h.heap.size=W.heap.size+1:=by rw[v];exact mM W o1
 have z2:c.heap.size=W.heap.size+2:=by rw[u,mM,z1]
 have m1:Mv (fun _=>False) l (eN l W.heap.size (pr W.heap.size 0)) W h:=by rw[v];exact Mv.pH l W o1 _
 have m2:Mv (fun _=>False) (eN l W.heap.size (pr W.heap.size 0)) (eN (eN l W.heap.size (pr W.heap.size 0)) h.heap.size 0) h c:=by rw[u];exact Mv.pH _ h o2 _
 obtain⟨l2,G⟩:∃l2,l2=eN (eN l W.heap.size (pr W.heap.size 0)) h.heap.size 0:=⟨_,rfl⟩
 rw[<-G] at m2;have m12:=m1.trans m2;have Y:l2 W.heap.size=pr W.heap.size 0:=by rw[G,mN (by omega),nM (QU _)]
 have F:c.heap[W.heap.size]? =some o1:=by
  rw[u,RL h o2 _ (by omega),v];exact py W o1
 have T:c.heap[W.heap.size+1]? =some o2:=by
  have:=py h o2;rw[<-u,z1] at this;exact this
 have K:Wo b l2 c d1.bv d1.rv (d1.ao.map ny) (d1.aB.map lr):=h1.wo.move m12 id;obtain⟨j,m,w',l',J,mw,U,M,L⟩:=K.Kx (qA W.heap.size) (W.heap.size+1) (by rw[T,I]) (by rw[Rr];exact X) (by have:=h1.bt.size;omega);rw[Rr] at J M L;refine⟨j,m,w',?_,fun x i V=>?_,?_,?_⟩
 ·rw[<-A,<-v,<-I,<-u];exact J
 ·rw[mw.ah x (by omega) (by show l2 x≠_;rw[m12.aM x i];exact V)];exact m12.ah x i id
 ·rw[U];exact m12.ah b (Q0.1 h1.wo.ah).1 id
 ·have A2:SX l2 c R.sp R.sb R.tw R.D R.N q p:=a.x.move m12 id id fun _=>id
  have kW:=iO K.ah;have kR:kd c R.rb=some 65:=by rw[r];exact iO (by rw[F,A])
  have A1:c.heap[R.tt]? =some (.cells #[bV R.yes] 61 (0,0)):=(m12.ah R.tt (Q0.1 B).1 id).trans B;have S:j9 l2 c R:=
   {ah:=by rw[r,F,A]
    lb:=by rw[r];exact Y
    pm:=(a.pm.mv a.lm m12 id).1
    lm:=(a.pm.mv a.lm m12 id).2
    pb:=by rw[a.base.1,a.base.2];exact(a.pm.mv a.lm m12 id).1
    lv:=by rw[a.base.1,a.base.2];exact(a.pm.mv a.lm m12 id).2
    sn:=cK a.sn fun g y=>m12.ah g (a.sn.lt g y).2 id
    ls:=fun g y=>by rw[m12.aM g (a.sn.lt g y).2,r];exact Z g y
    sm:=a.sm
    tn:=A1
    lt:=(m12.aM _ (Q0.1 B).1).trans A3
    nm:=a.nm
    nb:=by rw[a.base.1];exact a.nm
    ns:=a.ns}
  have E:bS l2 c R q p:=⟨S,A2⟩
  obtain⟨k1,k2,k3,k4⟩:=E.kd;have O:Mv (dT [b]) l2 l' c (w'.setCell ⟨b,1,none⟩ (lV j (d1.aB.length+1) m)):=M.mono fun x i=>mL (QY ..) i
  have z:∀{x:Nat} {t:TypeId},kd c x=some t->t≠30->x∉[b]:=fun {x t} k n i=>by
   rw[Q2] at i;exact dA k kW n i
  have P:=E.nY O (z k1 (by decide)) (z k2 (by decide)) (z k3 (by decide)) (z k4 (by decide));have s:=(m12.jb _).trans O;refine⟨l',s,?_⟩;have o:∀{x:Nat} {t:TypeId},kd W x=some t->t≠30->x∉[b]:=fun {x t} k n i=>by
   rw[Q2] at i;exact dA k h1.kw n i
  have lt:∀{x:Nat} {t:TypeId},kd W x=some t->x<W.heap.size:=fun k=>kQ k
  refine⟨?_,fun C d=>?_,fun C d=>?_,fun Q f=>?_,h1.nX,h1.nT,?_,?_,h1.hs,fun C d Q f=>?_,(h1.rest s).1,(h1.rest s).2⟩
  ·show Wo b l' _ d1.bv _ (d1.ao.map ny) ((d1.aB++[R]).map lr);rw[R9];have:[R].map lr=[pV (qA W.heap.size)]:=by simp[lr,r]
   rw[this];exact L
  ·obtain⟨k1,k2,_,_⟩:=h1.gK d;exact h1.pE s d (o k1 (by decide)) (o k2 (by decide))
  ·obtain⟨_,_,k3,k4⟩:=h1.gK d;show cG l' (eP C) _ C.sb C.hb (d1.yes C.hb) (d1.ag C.hb) (bf d1.us R.sb q C.sb) (bf d1.ps R.sb p C.sb);rw[cZ _ _ (w.1 C d),cZ _ _ (w.1 C d)];exact h1.pA s d (o k3 (by decide)) (o k4 (by decide))
  ·show bS l' _ Q (bf d1.us R.sb q Q.sb) (bf d1.ps R.sb p Q.sb);rcases Re.1 f with f|f
   ·obtain⟨k1,k2,k3,k4⟩:=h1.ky f;have H:=(h1.rl Q f).nY s (o k1 (by decide)) (o k2 (by decide)) (o k3 (by decide)) (o k4 (by decide));by_cases e:Q.sb=R.sb
    ·obtain⟨e2,e3⟩:=w.2 Q f e;rw[e,de,de,e2,e3];exact H
    ·rw[cZ _ _ e,cZ _ _ e];exact H
   ·rw[Q2.1 f,de,de];exact P
  ·exact uV h1.jv fun C d e=>by have:=lt (h1.ky d).1;rw[r] at e;omega
  ·exact uV h1.nU fun C d e=>A0 C d e
  ·rcases Re.1 f with f|f
   ·exact h1.br C d Q f
   ·rw[Q2.1 f];exact w.1 C d
def iZ(b:Nat->Nat)(c:Nat)(a:Nat->Bool)(t0:Bool):Nat->Bool
 | 0=>t0
 |i+1=>iZ b c a t0 i || (decide (b i=c) && a i)
theorem Ii(w:World)(Q D K a N X:Nat)(U:Option Addr)(hN:N<4000000000)(x b G E:Nat->Nat)(C:Nat->Option Addr)(c:Nat->Bool)(t0:Bool)(F:Bool->World->Prop)
 (S:Hid (F t0 w))
 (j:Hid (∀t W,F t W->(W.cell? ⟨Q,0,none⟩=some (lV U N X)/\Q<W.heap.size)/\(W.cell? ⟨D,0,none⟩=some (pV (qA K))/\W.cell? ⟨D,4,none⟩=some (pV (qA a))/\D<W.heap.size)/\W.cell? ⟨a,1,none⟩=some (bV t)/\W.frozen? ⟨a,1,none⟩=false/\a<W.heap.size))
 (m:Hid (∀t W i,F t W->i<N->∃g,U=some ⟨g,0,none⟩/\g<W.heap.size/\W.cell? ⟨g,i,none⟩=some (pV (some ⟨x i,0,none⟩))/\x i<W.heap.size/\W.cell? ⟨x i,4,none⟩=some (pV (some ⟨b i,0,none⟩))/\W.cell? ⟨x i,3,none⟩=some (lV (C i) (G i) (E i))))
 (h:Hid (∀t W n,F t W->F t (W.drewN n)))
 (y:Hid (∀t W i,F t W->i<N->b i=a->Calls yP 43 #[pV (qA K),lV (C i) (G i) (E i)] W fun e w'=>e=rV (bV (c i))/\F t w'))
 (P:Hid (∀t W i,F t W->i<N->b i≠a->(binOp BinOp.eql 42 (pV (some ⟨b i,0,none⟩)) (pV (qA a))).run yP W=.ok (bV false) W))
 (B:Hid (∀t W,F t W->F true (W.setCell ⟨a,1,none⟩ (bV true)))):
 Calls yP 19 #[pV (qA Q),pV (qA D)] w fun e w'=>e=rV (tV #[])/\Hid (F (iZ b a c t0 N) w'):=by
 go_enter func19,ntmps19
 go_wp2_with fail
 go_loopg [4] N (fun g r wr=>∃i:Nat,g=N - i/\i<=N/\r=iV .i64 i/\Hid (F (iZ b a c t0 i) wr))
 case atStart=>exact⟨0,rfl,by omega,rfl,S⟩
 case round=>
  obtain⟨i,V,hi,rfl,d⟩:=hrel;have O:=aa V;clear V S;generalize gk=GK at*;obtain⟨⟨c0,s⟩,⟨b0,b4,o⟩,d1,f1,q⟩:=j.out _ _ d.out;by_cases J:i<N
  ·have Z:(i:Int)<(N:Int):=by omega
   obtain⟨g,rfl,I,e0,H,e4,e3⟩:=m.out _ _ _ d.out J;have A:Hid (iZ b a c t0 (i+1)=(iZ b a c t0 i || (decide (b i=a) && c i))):=rfl;generalize iZ b a c t0 i=TV at*;by_cases l:b i=a
   ·have L:Hid (∀n,Calls yP 43 #[pV (qA K),lV (C i) (G i) (E i)] (wr.drewN n).drew fun e w'=>e=rV (bV (c i))/\F TV w'):=fun n=>y.out _ _ _ (h.out _ _ 1 (h.out _ _ n d.out)) J l
    have k:Hid (iZ b a c t0 (i+1)=(TV || c i)):=by show _=_;rw[A.out,Ra l,Bool.true_and]
    rw[l] at e4;have A1:(binOp BinOp.eql 42 (pV (qA a)) (pV (qA a))).run yP wr.drew=.ok (bV true) wr.drew:=KA a _;clear A P;go_upto_region 3 with fail
    go_cut [29] from 6 to 51 (fun v u=>v=bV true/\∃n,u=wr.drewN n)
    case first=>
     clear j m h y B L d k;go_region
     all_goals
      go_wp2_with fail
      go_meet
      exact⟨by first|rfl|simp,_,rfl⟩
    case rest=>
     obtain⟨rfl,f,rfl⟩:=hcut;have R:=aa (L.out f);have z:=aa (h.out _ _ f d.out);clear L d c0 s b0 b4 o d1 f1 q e0 H e4 e3 I;generalize wr.drewN f=W2 at*;obtain⟨⟨c0,s⟩,⟨b0,b4,o⟩,d1,f1,q⟩:=j.out _ _ z.out;obtain⟨g',p,I,e0,H,e4,e3⟩:=m.out _ _ _ z.out J;injection p with p;injection p with p _;subst p;go_upto_region 4 with fail
     go_cut [5] from 6 to 51 (fun v u=>v=bV (c i)/\Hid (F TV u))
     case first=>
      clear j m h y B z;go_region_with (go_at_call 43;refine R.out.mono ?_;rintro e w6 ⟨rfl,Y⟩)
      all_goals
       go_wp2_with fail
       go_meet
       exact⟨rfl,Y⟩
     case rest=>
      obtain⟨rfl,M⟩:=hcut;clear R z c0 s b0 b4 o d1 f1 q e0 H e4 e3 I;generalize wc=W3 at*;obtain⟨⟨c0,s⟩,⟨b0,b4,o⟩,d1,f1,q⟩:=j.out _ _ M.out;cases hex:c i with
      |true=>
       have T:Hid (F (iZ b a c t0 (i+1)) (W3.setCell ⟨a,1,none⟩ (bV true))):=by show F (iZ b a c t0 (i+1)) _;rw[k.out,hex,Bool.or_true];exact B.out _ _ M.out
       go_wp2_with fail
       go_roundg (N - (i+1))
       case measure=>have:=O.out;omega
       case rel=>exact⟨i+1,rfl,by omega,by go_num,by assumption⟩
      |false=>
       have T:Hid (F (iZ b a c t0 (i+1)) W3):=by show F (iZ b a c t0 (i+1)) _;rw[k.out,hex,Bool.or_false];exact M
       go_wp2_with fail
       go_roundg (N - (i+1))
       case measure=>have:=O.out;omega
       case rel=>exact⟨i+1,rfl,by omega,by go_num,by assumption⟩
   ·have k:Hid (iZ b a c t0 (i+1)=TV):=by show _=_;rw[A.out,Q9 l,Bool.false_and,Bool.or_false]
    have A0:(binOp BinOp.eql 42 (pV (some ⟨b i,0,none⟩)) (pV (qA a))).run yP wr.drew=.ok (bV false) wr.drew:=P.out TV _ i (h.out _ _ 1 d.out) J l;clear A P;go_upto_region 3 with fail
    go_cut [29] from 6 to 51 (fun v u=>v=bV false/\∃n,u=wr.drewN n)
    case first=>
     clear j m h y B d k;go_region
     all_goals
      go_wp2_with fail
      go_meet
      exact⟨by first|rfl| (simp[l]),_,rfl⟩
    case rest=>
     obtain⟨rfl,f,rfl⟩:=hcut;have T:Hid (F (iZ b a c t0 (i+1)) (wr.drewN f)):=by show F (iZ b a c t0 (i+1)) _;rw[k.out];exact h.out _ _ f d.out
     clear d c0 s b0 b4 o d1 f1 q e0 H e4 e3 I;generalize wr.drewN f=W2 at*;go_wp2_with fail
     go_roundg (N - (i+1))
     case measure=>have:=O.out;omega
     case rel=>exact⟨i+1,rfl,by omega,by go_num,by assumption⟩
  ·obtain rfl:i=N:=by omega
   have Z:¬(i:Int)<(i:Int):=by omega
   go_wp2_with fail
   go_end0
   exact⟨rfl,d⟩
def tE(m:List (yB×yB))(c:yL):Prop:=∃p∈m,c∈bj bJ (aP m 1) p.1
structure fC(G:yB->Option yB)(yes:Prop)(t:Nd)(m base:List (yB×yB))(Q:yL->Prop)(F:Nd):Prop where
 tree:gv m F
 part:Part Q t F
 sure:pK G yes Q
 mH:∀c,Q c->tE base c
def jE(G:yB->Option yB)(a:Prop)(t:Nd)(m base:List (yB×yB)):Prop:=∃Q F,fC G a t m base Q F
theorem fC.opened{G}{a:Prop}{t m base Q F}(h:fC G a t m base Q F)(b:aw t 0)(key):fC G a (aE G t key).1 m base Q F/\rC a (aE G t key).2:=by
 obtain⟨h1,_,h3⟩:=Lh h.sure 81 t F (aC key) 0 false h.part b h.tree.ok h.tree.loose h.tree.all (fun h=>by cases h) (fun h=>absurd h (Nat.lt_irrefl 0)) (ch key);exact⟨⟨h.tree,h1,h.sure,h.mH⟩,h3⟩
theorem fC.ox{G}{a:Prop}{t m base Q F}(h:fC G a t m base Q F)(b:aw t 0)(key):fC G a (bg G t key) m base Q F:=by
 unfold bg;split
 ·exact h
 ·exact(h.opened b key).1
theorem yt{a}(c:Bool){e}(h:rC (a=true) e)(h0:e≠0):bQ a c (e:Int)=true:=by
 rcases h with h|⟨b,h⟩
 ·exact absurd h h0
 ·unfold bQ;rw[b];rcases h with rfl|rfl<;>simp
theorem fC.Ks{G f t m base Q F}(h:fC G (f=true) t m base Q F)(d:aw t 0)(key value):jE G (f=true) (l7 G t key value) (l5 G t m key value) base:=by
 by_cases b:40<key.size\/160<value.size
 ·have a:bX G t key value=1:=by unfold bX;rw[QX b]
  have c:bC G t key value=t:=by unfold bC fb;rw[a,QW (by decide),QX b]
  refine⟨Q,F,?_⟩;unfold l7 l5;rw[a,QW (by decide),QW (by decide),c];exact h
 ·by_cases e:value.size=0
  ·have a:bX G t key value=4:=by unfold bX;rw[QW b,QX e]
   have c:bC G t key value=t:=by unfold bC fb;rw[a,QW (by decide),QW b,QX e]
   refine⟨Q,F,?_⟩;unfold l7 l5;rw[a,QW (by decide),QW (by decide),c];exact h
  ·have a:bX G t key value=(aE G t key).2:=by unfold bX;rw[QW b,QW e]
   obtain⟨h1,_⟩:=h.opened d key;have g:key.size<=40/\value.size<=160:=⟨SE.1 fun k=>b (.inl k),SE.1 fun k=>b (.inr k)⟩
   by_cases h0:(aE G t key).2=0
   ·have c:bC G t key value=bF (aE G t key).1 (aC key) value.data.toList:=by unfold bC jt;rw[a,QX h0]
    have i:=jf G t key d;have n:value.data.toList.length=value.size:=by simp
    have l:=Lj (v:=value.data.toList) i.aJ h.tree.ok.aJ h1.part (kA G t key d (by omega) h0) (ch key) (by rw[gA];omega) (by omega);have h3:fC G (f=true) (bC G t key value) (cz m key value) base Q (bF F (aC key) value.data.toList):=by
     rw[c];exact⟨AJ h.tree key value g.1 (by omega) g.2,l.1,h.sure,h.mH⟩
    have j:aw (bC G t key value) 0:=by unfold bC;rw[a,QX h0];exact qq d (by rw[a];exact h0)
    refine⟨Q,bF F (aC key) value.data.toList,?_⟩;unfold l7 l5;rw[a,QX h0,QX h0];exact h3.ox j key
   ·have c:bC G t key value=(aE G t key).1:=by unfold bC fb;rw[a,QW h0,QW b,QW e]
    refine⟨Q,F,?_⟩;unfold l7 l5;rw[a,QW h0,QW h0,c];exact h1
theorem fC.OQ{G}{c:Prop}{t m base Q F}(h:fC G c t m base Q F)(b:aw t 0)(o:bD t)(key:yB)(k:key.size<=40):
 ((aW G t key).2.2=0/\(aW G t key).2.1=decide ((dj m key).size≠0)/\∃d,fC G c (aW G t key).1 (cz m key ⟨#[]⟩) base Q d)\/((aW G t key).2.2≠0/\rC c (aW G t key).2.2/\fC G c (aW G t key).1 m base Q F):=by
 obtain⟨h1,h2⟩:=h.opened b key;unfold aW;rw[QW (by omega)];by_cases h0:(aE G t key).2=0
 ·rw[QW (by simpa using h0)];have g:=kA G t key b k h0;have f:aG (aE G t key).1 (aC key)=aG F (aC key):=h1.part.find g (ch key);have i:aG F (aC key)=(dj m key).data.toList:=(h.tree.find _ (ch key)).trans (sI m key);have l:(dj m key).data.toList.length=(dj m key).size:=by simp
  by_cases a:aG (aE G t key).1 (aC key)=[]
  ·rw[QX a];refine .inl ⟨rfl,?_,F,⟨AK h.tree key (by rw[<-f];exact a),h1.part,h.sure,h.mH⟩⟩;rw[f,i] at a;rw[a] at l;simp at l;exact(Q9 (by omega)).symm
  ·rw[QW a];have j:=ov _ _ a;have n:=jf G t key b;have p:=nS G t key b o;rcases Cx h.sure _ F (aC key) 0 h1.part n h.tree.ok p h.tree.loose h.tree.all g j (ch key) (by rw[gA];omega) with⟨u,d,e1,e2,q⟩|⟨s,e,e1,r⟩
   ·rw[e1];refine .inl ⟨rfl,?_,d,⟨AL h.tree key k (EV h1.part g (ch key) j) e2,q.1,h.sure,h.mH⟩⟩;rw[f,i] at a;refine(Ra ?_).symm;intro e3;exact a (Rm.1 (by omega))
   ·rw[e1];refine .inr ⟨?_,.inr ⟨s,r⟩,h1⟩;show e≠0;omega
 ·rw[QX h0];exact .inr ⟨h0,h2,h1⟩
theorem fC.OY{G key d t m base Q F}(h:fC G (d=true) t m base Q F)(f:aw t 0)(i:bD t)(g:aw (aW G t key).1 0):jE G (d=true) (lK G t m key) (lJ G t m key) base:=by
 by_cases b:40<key.size
 ·have j:aW G t key=(t,false,1):=by unfold aW;rw[QX b]
  have a:¬lL G t m key:=fun k=>k.1 b
  refine⟨Q,F,?_⟩;unfold lK lJ;rw[QW a,QW a,j];exact h
 ·rcases h.OQ f i key (by omega) with⟨e1,e2,e,h3⟩|⟨e1,_,h3⟩
  ·have c:lL G t m key:=⟨b,e1,e2⟩
   refine⟨Q,e,?_⟩;unfold lK lJ;rw[QX c,QX c];exact h3.ox g key
  ·have a:¬lL G t m key:=fun k=>e1 k.2.1
   refine⟨Q,F,?_⟩;unfold lK lJ;rw[QW a,QW a];exact h3
theorem Ie(W:yL->Prop):∀(t) (d f:Nat),aw t d->bA t->(∀x,ak x->aG t x≠[]->x.length+1<=f/\∀c∈eG f t x d,W c)->gw W t:=by
 intro t;induction t with
 |nil=>intro d f _ _ _;trivial
 |unread h=>intro d f _ h;exact h.elim
 |leaf h p v=>
  intro d f a j g o;obtain⟨h1,h2⟩:=g p a.aJ.2.1 (by rw[kJ,QX rfl];exact a.bu);cases f with
  |zero=>omega
  |succ f=>
   refine h2 _ ?_;show _∈(if(Nd.leaf h p v).isNil=true then [] else dZ _ d++_);rw[QW (by simp[Nd.isNil])];refine Rw _ ?_;unfold dZ;rw[QX (.inr o)];exact Q2.2 rfl
 |ext h p k ih=>
  intro d f a j g;have u:=dY a;have y:k.some:=by
   have:=a.bu.2.1;cases k with
   |nil=>exact this.elim
   | _=>trivial
  obtain⟨x0,r,n⟩:=qd k _ u j y;have s:∀x,ak x->aG k x≠[]->x.length+1+p.length<=f/\∀c∈eG f (.ext h p k) (p++x) d,W c:=fun x q m=>by
   have:=g (p++x) (fun c b=>(Re.1 b).elim (a.aJ.2.1 c) (q c)) (by rw[kK];exact m);rw[Q4] at this;exact⟨by omega,this.2⟩
  have A:p.length≠0:=fun e=>a.bu.1 (Rm.1 e)
  cases f with
  |zero=>have:=(s x0 r n).1;omega
  |succ f=>
   have w:∀x,eG (f+1) (.ext h p k) (p++x) d=dZ (.ext h p k) d++eG f k x (d+p.length):=fun x=>by
    show(if(Nd.ext h p k).isNil=true then [] else dZ _ d++eG f (aA (.ext h p k) (p++x) d).1 (aA (.ext h p k) (p++x) d).2.1 (aA (.ext h p k) (p++x) d).2.2.1)=_;rw[QW (by simp[Nd.isNil])];have e:aA (.ext h p k) (p++x) d=(k,x,d+p.length,true):=by
     show(if aF p (p++x)=p.length then _ else _)=_;rw[QX (uy p x),List.drop_left]
    rw[e]
   refine⟨fun o=>?_,ih (d+p.length) f u j fun x q m=>?_⟩
   ·refine(s x0 r n).2 _ ?_;rw[w];refine Rw _ ?_;unfold dZ;rw[QX (.inr o)];exact Q2.2 rfl
   ·obtain⟨h1,h2⟩:=s x q m;refine⟨by omega,fun c b=>h2 c ?_⟩;rw[w];exact Ru _ b
 |branch h v ks ih=>
  intro d f a j g;obtain⟨x0,r,n⟩:=qd (.branch h v ks) d a j trivial;have z:1<=f:=by have:=(g x0 r n).1;omega
  cases f with
  |zero=>omega
  |succ f=>
   refine⟨fun o=>?_,fun i hi=>ih i (d+1) f (di a i hi) (j i hi) fun x q m=>?_⟩
   ·refine(g x0 r n).2 _ ?_;show _∈(if(Nd.branch h v ks).isNil=true then [] else dZ _ d++_);rw[QW (by simp[Nd.isNil])];refine Rw _ ?_;unfold dZ;rw[QX (.inr o)];exact Q2.2 rfl
   ·have b:(UInt8.ofNat i).toNat=i:=UInt8.toNat_ofNat_of_lt' (by show i<256;omega);obtain⟨h1,h2⟩:=g (UInt8.ofNat i::x) (fun c l=>by
     rcases Rh.1 l with rfl|l
     ·rw[b];exact hi
     ·exact q c l) (by show aG (ks (UInt8.ofNat i).toNat) x≠[];rw[b];exact m)
    rw[Ro] at h1;refine⟨by omega,fun c l=>h2 c ?_⟩;show c∈(if(Nd.branch h v ks).isNil=true then [] else dZ _ d++eG f (ks (UInt8.ofNat i).toNat) x (d+1));rw[QW (by simp[Nd.isNil]),b];exact Ru _ l
theorem Iy{m}(h:kh m):gw (tE m) (aP m 1)/\((aP m 1).read->tE m (aP m 1).code):=by
 have f:=tq h 1;have g:=zK m 1;have i:∀x,ak x->aG (aP m 1) x≠[]->∃p∈m,x=aC p.1:=fun x d b=>by
  rw[f.find x d] at b;refine Sb fun o=>b (DO fun p a e=>o ⟨p,a,e.symm⟩)
 have j:∀p∈m,bj bJ (aP m 1) p.1=eG 81 (aP m 1) (aC p.1) 0:=fun p a=>Cj g (h.size p a).1
 refine⟨Ie _ _ 0 81 f.ok g fun x d b=>?_,fun k=>?_⟩
 ·obtain⟨p,a,rfl⟩:=i x d b;refine⟨by rw[gA];have:=(h.size p a).1;omega,fun c n=>⟨p,a,?_⟩⟩;rw[j p a];exact n
 ·have l:(aP m 1).some:=by cases hb:aP m 1<;>rw[hb] at k<;>first|exact k.elim|trivial
  obtain⟨x,d,b⟩:=qd _ 0 f.ok g l;obtain⟨p,a,rfl⟩:=i x d b;refine⟨p,a,?_⟩;rw[j p a];show _∈(if(aP m 1).isNil=true then [] else dZ _ 0++_);rw[QW (by rw[(gn _).2 l];simp)];refine Rw _ ?_;unfold dZ;rw[QX (.inl rfl)];exact Q2.2 rfl
theorem gw.both{Q R}:∀{t},gw Q t->gw R t->gw (fun c=>Q c/\R c) t:=by
 intro t;induction t with
 |nil=>intro _ _;trivial
 |unread _=>intro _ _;trivial
 |leaf h p v=>exact fun h1 h2 a=>⟨h1 a,h2 a⟩
 |ext h p k ih=>exact fun h1 h2=>⟨fun a=>⟨h1.1 a,h2.1 a⟩,ih h1.2 h2.2⟩
 |branch h v ks ih=>exact fun h1 h2=>⟨fun a=>⟨h1.1 a,h2.1 a⟩,fun i hi=>ih i (h1.2 i hi) (h2.2 i hi)⟩
theorem Cw{Q}:∀{t F},aI t->cR t->Part Q t F->t.hash=F.hash->gw (fun c=>c∈bY t false\/Q c) F:=by
 have j:∀{n F:Nd},aI n->n.read->n.hash=fv n.code->Part Q n F->n.hash=F.hash->F.hash≠[]->F.code∈ig n.code false:=fun {n F} d hr hh b g e=>by
  have h32:32<=n.code.length:=by rw[<-g,hh] at e;exact(EU e).2
  rw[<-b.code d hr];unfold ig;rw[QX (.inr h32)];exact Q2.2 rfl
 intro t;induction t with
 |nil=>intro F _ _ h _;rw[show F=.nil from h];trivial
 |unread x=>intro F _ _ h _;exact h.2.2.2.mono fun c a=>.inr a
 |leaf h p v=>
  intro F d f b g;obtain⟨l,rfl⟩:=id b;exact fun e=>.inl (j d trivial f b g e)
 |ext h p k ih=>
  intro F d f b g;obtain⟨l,m,rfl,h1,h2⟩:=id b;refine⟨fun e=>.inl (Ru _ (j d trivial f.1 b g e)),(ih d.2.2.2.2 f.2 h1 h2).mono fun c a=>?_⟩;rcases a with a|a
  ·exact .inl (Rw _ a)
  ·exact .inr a
 |branch h v ks ih=>
  intro F d f b g;obtain⟨l,o,rfl,h1⟩:=id b;refine⟨fun e=>.inl (Ru _ (j d trivial f.1 b g e)),fun i hi=>(ih i (d.2.2 i hi) (f.2 i hi) (h1 i hi).1 (h1 i hi).2).mono fun c a=>?_⟩;rcases a with a|a
  ·exact .inl (Rw _ (List.mem_flatMap.2 ⟨i,Sg.2 hi,a⟩))
  ·exact .inr a
theorem Lf{Q t F}(e:aI t)(j:bD t)(d:Part Q t F):gw (fun c=>c∈bY t true\/Q c) F/\(F.read->F.code∈bY t true\/Q F.code):=by
 have f:t.read->F.code∈ig t.code true:=fun l=>by
  rw[<-d.code e l];unfold ig;rw[QX (.inl rfl)];exact Q2.2 rfl
 cases t with
 |nil=>rw[show F=.nil from d];exact⟨trivial,fun h=>h.elim⟩
 |unread x=>exact⟨d.2.2.2.mono fun c a=>.inr a,fun _=>.inr d.2.2.1⟩
 |leaf h p v=>
  have b:=f trivial;obtain⟨g,rfl⟩:=id d;exact⟨fun _=>.inl b,fun _=>.inl b⟩
 |ext h p k=>
  have b:=f trivial;obtain⟨g,m,rfl,h1,h2⟩:=id d;refine⟨⟨fun _=>.inl (Ru _ b),(Cw e.2.2.2.2 j h1 h2).mono fun c a=>?_⟩,fun _=>.inl (Ru _ b)⟩;rcases a with a|a
  ·exact .inl (Rw _ a)
  ·exact .inr a
 |branch h v ks=>
  have b:=f trivial;obtain⟨g,n,rfl,h1⟩:=id d;refine⟨⟨fun _=>.inl (Ru _ b),fun i hi=>(Cw (e.2.2 i hi) (j i hi) (h1 i hi).1 (h1 i hi).2).mono fun c a=>?_⟩,fun _=>.inl (Ru _ b)⟩;rcases a with a|a
  ·exact .inl (Rw _ (List.mem_flatMap.2 ⟨i,Sg.2 hi,a⟩))
  ·exact .inr a
theorem IT{Q R F c}(d:aI F)(e:bA F)(a:Part Q F c)(j:gw R F)(m:F.read->R F.code):gw R c:=by
 have f:F.read->R c.code:=fun l=>by rw[<-a.code d l];exact m l
 cases F with
 |nil=>rw[show c=.nil from a];trivial
 |unread _=>exact e.elim
 |leaf h p v=>
  have b:=f trivial;obtain⟨g,rfl⟩:=id a;exact fun _=>b
 |ext h p k=>
  have b:=f trivial;obtain⟨g,n,rfl,h1,h2⟩:=id a;exact⟨fun _=>b,h1.texts d.2.2.2.2 e h2 j.2⟩
 |branch h v ks=>
  have b:=f trivial;obtain⟨g,o,rfl,h1⟩:=id a;exact⟨fun _=>b,fun i hi=>(h1 i hi).1.texts (d.2.2 i hi) (e i hi) (h1 i hi).2 (j.2 i hi)⟩
theorem zx{G m}(h:jA G m=false){c}(a:tE m c):iB G (str c)=false:=by
 obtain⟨p,b,a⟩:=a;cases ht:iB G (str c) with
 |false=>rfl
 |true=>
  unfold jA at h;have:iC G (aP m 1) m m.length=true:=by
   unfold iC;rw[SG];exact List.any_eq_true.2 ⟨p,b,List.any_eq_true.2 ⟨c,a,ht⟩⟩
  rw[this] at h;cases h
theorem yd{G t u}(h:iB G t=false)(c:G (ai t)=some u)(b:ai u=ai t):u=t:=by
 have a:(!(u.toList == t.toList) && ((ai u).toList == (ai t).toList))=false:=by
  unfold iB at h;rw[c] at h;exact h
 rw[b] at a;simp only[fZ,decide_true,Bool.and_true] at a;simpa using a
theorem IJ{G t}(h:iB G t=false):G (ai t)=some t\/G (ai t)=none\/∃u,G (ai t)=some u/\ai u≠ai t:=by
 cases hg:G (ai t) with
 |none=>exact .inr (.inl rfl)
 |some u=>
  by_cases e:ai u=ai t
  ·rw[yd h hg e];exact .inl rfl
  ·exact .inr (.inr ⟨u,rfl,e⟩)
theorem Pt{l n}(h:cQ l n=false)(i j:Nat)(x y)(hi:i<n)(c:j<i)(f:l[i]? =some x)(g:l[j]? =some y)(b:ai x=ai y):x=y:=by
 induction n with
 |zero=>exact absurd hi (Nat.not_lt_zero _)
 |succ n ih=>
  have a:(cQ l n || (match l[n]? with|some x=>gu l x n|none=>false))=false:=h;rw[Bool.or_eq_false_iff] at a;by_cases e:i=n
  ·have h2:=a.2;rw[<-e,f] at h2;have h3:((l.take i).any fun y=>((ai x).toList == (ai y).toList) && !(x.toList == y.toList))=false:=h2;rw[List.any_eq_false] at h3;have d:y∈l.take i:=by
    refine Rv (i:=j) ?_;rw[Sm,QX c];exact g
   have h4:=h3 y d;rw[b] at h4;simp only[fZ,decide_true,Bool.true_and] at h4;simpa using h4
  ·exact ih a.1 (by omega)
theorem fC.N9{G a}{g:Prop}{t m base Q F}(h:fC G g t m base Q F)(f:jA a base=false){d:Prop}(b:d):fC a d t m base Q F:=by
 refine⟨h.tree,h.part,fun c e=>?_,h.mH⟩;rcases IJ (zx f (h.mH c e)) with k|k|k
 ·exact .inl k
 ·exact .inr ⟨b,.inl k⟩
 ·exact .inr ⟨b,.inr k⟩
theorem fC.laid{a l}{d:Prop}{t m base Q F}(h:fC (ae a) d t m base Q F)(f:jA (ae (dt a l)) base=false):fC (ae (dt a l)) d t m base Q F:=by
 refine⟨h.tree,h.part,fun c b=>?_,h.mH⟩;rcases vl l a (ai (str c)) with⟨e,_⟩|⟨g,_,e1,e2⟩
 ·rw[e];exact h.sure c b
 ·exact .inl (by rw[yd (zx f (h.mH c b)) e1 e2] at e1;exact e1)
theorem Pk{F:Nd}(b:F.read):F.code≠[128]:=by
 have key:∀a:yL,gG a≠[128]:=fun a e=>by
  unfold gG cX at e;split at e
  ·next hb=>
   injection e with e1 e2;have:(UInt8.ofNat (192+a.length)).toNat=128:=by rw[e1];rfl
   rw[UInt8.toNat_ofNat_of_lt' (by show 192+a.length<256;omega)] at this;omega
  ·have:=congrArg List.length e;simp only[Q4,Ro,List.length_nil] at this;omega
 cases F with
 |nil=>exact b.elim
 |unread _=>exact b.elim
 |leaf h p v=>exact fun e=>key _ (by rw[<-kL 5];exact e)
 |ext h p k=>exact fun e=>key _ (by rw[<-kL 5];exact e)
 |branch h v ks=>exact fun e=>key _ (by rw[<-kL 5];exact e)
theorem Kc{F}(b:aI F)(a:F.read):bM F=dS F.code:=by
 have c:F.some:=by cases F<;>first|exact a.elim|trivial
 rw[nN c];by_cases e:F.hash=[]
 ·rw[QX e]
 ·rw[QW e];rcases b.ET a with h|h
  ·unfold fv at h;split at h
   ·exact h
   ·exact absurd h e
  ·exact h
theorem fC.again{g}{q:Prop}{t m base Q F}(h:fC (ae g) q t m base Q F)(s:aw t 0)(x:bD t)(o:kh m)(k:jA (ae (dt g (bY t true))) m=false):jE (ae (dt g (bY t true))) q (cl (bM t)) m m:=by
 have a:=tq o 1;obtain⟨w1,w2⟩:=Iy o;obtain⟨r1,r2⟩:=Lf s.aJ x h.part;have l:Part (fun _=>True) F (aP m 1):=h.tree.one a _;have r3:=IT h.tree.ok.aJ h.tree.all l r1 r2;have n:bM t=bM (aP m 1):=by
  rw[h.part.root s.aJ h.tree.ok.aJ,l.root h.tree.ok.aJ a.ok.aJ]
 have D:pK (ae (dt g (bY t true))) q (fun c=>(c∈bY t true\/Q c)/\tE m c):=fun c j=>by
  rcases vl (bY t true) g (ai (str c)) with⟨e,B⟩|⟨E,_,e1,e2⟩
  ·rcases j.1 with h1|h1
   ·exact absurd rfl (B c h1)
   ·rw[e];exact h.sure c h1
  ·exact .inl (by rw[yd (zx k j.2) e1 e2] at e1;exact e1)
 refine⟨_,aP m 1,⟨a,?_,D,fun c j=>j.2⟩⟩;by_cases f:(aP m 1).some
 ·have d:=a.all.read f;have w:=Kc a.ok.aJ d;have r:F.read:=by
   have:=l.same.2 f;exact h.tree.all.read this
  have C:bM t≠cw:=fun e=>by
   have y:cQ (eZ (aP m 1) m m.length) (eZ (aP m 1) m m.length).length=false:=by
    unfold jA at k;rw[Bool.or_eq_false_iff] at k;exact k.2
   obtain⟨p,v,G⟩:=w2 d;have z:str (aP m 1).code∈(m.take m.length).flatMap fun p=>((bj bJ (aP m 1) p.1).take 1).map str:=by
    refine List.mem_flatMap.2 ⟨p,by rw[SG];exact v,?_⟩;rw[Cj a.all (o.size p v).1];show _∈List.map str ((if(aP m 1).isNil=true then [] else dZ (aP m 1) 0++_).take 1);rw[QW (by rw[(gn _).2 f];simp)];unfold dZ;rw[QX (.inl rfl)];simp
   obtain⟨i,hi⟩:=List.getElem?_of_mem z;have u:(eZ (aP m 1) m m.length)[i+1]? =some (str (aP m 1).code):=by
    unfold eZ;rw[List.getElem?_cons_succ];exact hi
   have A:=(Rb.1 u).1;have:=Pt y (i+1) 0 _ aX A (by omega) u rfl (by
    have e2:dS (aP m 1).code=dS [128]:=by rw[<-w,<-n];exact e
    rw[<-lW,e2,lW];rfl)
   have h128:(aP m 1).code=[128]:=by
    have:=congrArg (fun b:yB=>b.data.toList) this;simpa [FV,aX] using this
   exact Pk d h128
  unfold cl;rw[QW C];exact⟨d,by rw[n];exact w,⟨by have:=r2 r;rw[l.code h.tree.ok.aJ r] at this;exact this,w2 d⟩,r3.both w1⟩
 ·have e1:aP m 1=.nil:=by cases hb:aP m 1<;>rw[hb] at f<;>first|rfl|exact absurd trivial f
  rw[e1] at n⊢;have:bM t=cw:=n;unfold cl;rw[QX this];rfl
structure Ag(l:Nat->Nat)(W:World)(B:dI)(S:Nat->Prop):Prop where
 tr:dH W B.tb (qA B.sb) S B.t
 loose:bD B.t
 lS:∀x,S x->l x=pr B.tb 0
 lt:l B.tb=pr B.tb 0
 pm:dP W B.mv B.m
 lm:∀g,B.mv.ownBlock=some g->l g=0
 om:kh B.m
 nm:B.m.length<4000000000
 base:B.base=B.m/\B.bv=B.mv
theorem Dl{c l W B S d1 y t w v}(h1:Inv c l W d1)(b:Ag l W B S)(X:cG l (eP B) W B.sb B.hb y t w v)
 (r:B.bb=W.heap.size) (Z:d1.ao.length<4000000000) (A2:∀C∈d1.ao,C.tb≠B.tb)
 (s:(∀C∈d1.ao,(C.hb=B.hb↔C.sb=B.sb)/\(C.hb=B.hb->y=d1.yes C.hb/\t=d1.ag C.hb/\w=d1.us C.sb/\v=d1.ps C.sb))/\∀R∈d1.aB,B.sb≠R.sb):
 ∃h i w',(Builtin.append_ #[27,27] 27 #[d1.bv,lV (some ⟨W.heap.size+1,0,none⟩) 1 1]).run yP ((W.alloc (.cells #[pV (qA B.sb),pV (qA B.tb),B.mv,B.bv,pV (qA B.hb)] 47)).alloc (.cells #[pV (qA W.heap.size)] 41))=.ok (lV h (d1.ao.length+1) i) w'/\(∀x,x<W.heap.size->l x≠pr c 0->w'.heap[x]? =W.heap[x]?)/\w'.heap[c]? =W.heap[c]?/\∃l',Mv (dT [c]) l l' W (w'.setCell ⟨c,0,none⟩ (lV h (d1.ao.length+1) i))/\Inv c l' (w'.setCell ⟨c,0,none⟩ (lV h (d1.ao.length+1) i)) (d1.book B (lV h (d1.ao.length+1) i) y t w v):=by
 obtain⟨o1,K⟩:∃o1:Obj,o1=.cells #[pV (qA B.sb),pV (qA B.tb),B.mv,B.bv,pV (qA B.hb)] 47 (0,0):=⟨_,rfl⟩
 obtain⟨o2,L⟩:∃o2:Obj,o2=.cells #[pV (qA W.heap.size)] 41 (0,0):=⟨_,rfl⟩
 obtain⟨g,z⟩:∃g,g=W.alloc o1:=⟨_,rfl⟩
 obtain⟨d,q⟩:∃d,d=g.alloc o2:=⟨_,rfl⟩
 have z1:g.heap.size=W.heap.size+1:=by rw[z];exact mM W o1
 have z2:d.heap.size=W.heap.size+2:=by rw[q,mM,z1]
 have m1:Mv (fun _=>False) l (eN l W.heap.size (pr W.heap.size 0)) W g:=by rw[z];exact Mv.pH l W o1 _
 have m2:Mv (fun _=>False) (eN l W.heap.size (pr W.heap.size 0)) (eN (eN l W.heap.size (pr W.heap.size 0)) g.heap.size 0) g d:=by rw[q];exact Mv.pH _ g o2 _
 obtain⟨l2,I⟩:∃l2,l2=eN (eN l W.heap.size (pr W.heap.size 0)) g.heap.size 0:=⟨_,rfl⟩
 rw[<-I] at m2;have m12:=m1.trans m2;have A0:l2 W.heap.size=pr W.heap.size 0:=by rw[I,mN (by omega),nM (QU _)]
 have U:d.heap[W.heap.size]? =some o1:=by
  rw[q,RL g o2 _ (by omega),z];exact py W o1
 have V:d.heap[W.heap.size+1]? =some o2:=by
  have:=py g o2;rw[<-q,z1] at this;exact this
 have N:Wo c l2 d d1.bv d1.rv (d1.ao.map ny) (d1.aB.map lr):=h1.wo.move m12 id;obtain⟨h,i,w',l',M,mw,Y,P,O⟩:=N.Ky (qA W.heap.size) (W.heap.size+1) (by rw[V,L]) (by rw[Rr];exact Z) (by have:=h1.bt.size;omega);rw[Rr] at M P O;refine⟨h,i,w',?_,fun x f E=>?_,?_,?_⟩
 ·rw[<-K,<-z,<-L,<-q];exact M
 ·rw[mw.ah x (by omega) (by show l2 x≠_;rw[m12.aM x f];exact E)];exact m12.ah x f id
 ·rw[Y];exact m12.ah c (Q0.1 h1.wo.ah).1 id
 ·have kW:=iO N.ah;have G:Bk l2 (eP B) d B S:=
   {bk:=by show d.heap[B.bb]? =_;rw[r,U,K]
    lb:=by rw[r];exact A0.trans (by show _=pr B.bb 0;rw[r])
    pm:=(b.pm.mv b.lm m12 id).1
    lm:=(b.pm.mv b.lm m12 id).2
    pb:=by rw[b.base.1,b.base.2];exact(b.pm.mv b.lm m12 id).1
    lv:=by rw[b.base.2];exact(b.pm.mv b.lm m12 id).2
    tr:=b.tr.same m12.size fun x _ E=>m12.ah x E id
    loose:=b.loose
    lS:=fun x f=>(m12.aM x (b.tr.own x f).2.2).trans (b.lS x f)
    lt:=(m12.aM _ b.tr.lt).trans b.lt
    om:=b.om
    ob:=by rw[b.base.1];exact b.om
    nm:=b.nm
    nb:=by rw[b.base.1];exact b.nm}
  have H:=X.move m12 id id;obtain⟨k1,k2⟩:=G.kd;obtain⟨k3,k4⟩:=H.kd;have F:Mv (dT [c]) l2 l' d (w'.setCell ⟨c,0,none⟩ (lV h (d1.ao.length+1) i)):=P.mono fun x f=>mL (QY ..) f
  have A:∀{x:Nat} {t:TypeId},kd d x=some t->t≠30->x∉[c]:=fun {x t} k n f=>by
   rw[Q2] at f;exact dA k kW n f
  have Q:=G.move F (kT _) (gg (A k1 (by decide))) (gg (A k2 (by decide)));have T:=H.move F (gg (A k3 (by decide))) (gg (A k4 (by decide)));have p:=(m12.jb _).trans F;refine⟨l',p,?_⟩;have j:∀{x:Nat} {t:TypeId},kd W x=some t->t≠30->x∉[c]:=fun {x t} k n f=>by
   rw[Q2] at f;exact dA k h1.kw n f
  have lt:∀{x:Nat} {t:TypeId},kd W x=some t->x<W.heap.size:=fun k=>kQ k
  refine⟨?_,fun C a=>?_,fun C a=>?_,fun R o=>?_,?_,?_,h1.jv,h1.nU,fun C a D m=>?_,fun C a R o=>?_,(h1.rest p).1,(h1.rest p).2⟩
  ·show Wo c l' _ _ d1.rv ((d1.ao++[B]).map ny) (d1.aB.map lr);rw[R9];have:[B].map ny=[pV (qA W.heap.size)]:=by simp[ny,r]
   rw[this];exact O
  ·rcases Re.1 a with a|a
   ·obtain⟨k1,k2,_,_⟩:=h1.gK a;exact h1.pE p a (j k1 (by decide)) (j k2 (by decide))
   ·rw[Q2.1 a];exact⟨S,Q⟩
  ·show cG l' (eP C) _ C.sb C.hb (bf d1.yes B.hb y C.hb) (bf d1.ag B.hb t C.hb) (bf d1.us B.sb w C.sb) (bf d1.ps B.sb v C.sb);rcases Re.1 a with a|a
   ·obtain⟨_,_,k3,k4⟩:=h1.gK a;have J:=h1.pA p a (j k3 (by decide)) (j k4 (by decide));obtain⟨u,A1⟩:=s.1 C a;by_cases e:C.hb=B.hb
    ·obtain⟨e1,e2,e3,e4⟩:=A1 e;have e5:=u.1 e;rw[<-e,<-e5,de,de,de,de,e1,e2,e3,e4];exact J
    ·have e5:C.sb≠B.sb:=fun k=>e (u.2 k)
     rw[cZ _ _ e,cZ _ _ e,cZ _ _ e5,cZ _ _ e5];exact J
   ·rw[Q2.1 a,de,de,de,de];exact T
  ·show bS l' _ R (bf d1.us B.sb w R.sb) (bf d1.ps B.sb v R.sb);obtain⟨k1,k2,k3,k4⟩:=h1.ky o;have e:R.sb≠B.sb:=fun k=>s.2 R o k.symm
   rw[cZ _ _ e,cZ _ _ e];exact(h1.rl R o).nY p (j k1 (by decide)) (j k2 (by decide)) (j k3 (by decide)) (j k4 (by decide))
  ·exact uV h1.nX fun C a e=>by have:=lt (h1.gK a).1;rw[r] at e;omega
  ·exact uV h1.nT fun C a e=>A2 C a e
  ·rcases Re.1 a with a|a<;>rcases Re.1 m with m|m
   ·exact h1.hs C a D m
   ·rw[Q2.1 m];exact(s.1 C a).1
   ·rw[Q2.1 a];obtain⟨u,_⟩:=s.1 D m;exact⟨fun e=>(u.1 e.symm).symm,fun e=>(u.2 e.symm).symm⟩
   ·rw[Q2.1 a,Q2.1 m];exact⟨fun _=>rfl,fun _=>rfl⟩
  ·rcases Re.1 a with a|a
   ·exact h1.br C a R o
   ·rw[Q2.1 a];exact s.2 R o
theorem jN{α:Type}(f:Nat->α)(a:Nat):bf f a (f a)=f:=by
 funext x
 unfold bf;split
 ·next e=>rw[e]
 ·rfl
theorem tX{α:Type}(f:Nat->α)(a:Nat)(v u:α):bf (bf f a v) a u=bf f a u:=by
 funext x
 unfold bf;split<;>rfl
theorem AM{b c a t0}:∀{n},iZ b c a t0 n=false->t0=false/\∀i,i<n->b i=c->a i=false
 | 0,h=>⟨h,fun i hi=>by omega⟩
 |n+1,h=>by
  have d:(iZ b c a t0 n || (decide (b n=c) && a n))=false:=h
  rw[Bool.or_eq_false_iff] at d
  obtain⟨i1,i2⟩:=AM d.1
  refine⟨i1,fun i hi e=>?_⟩
  by_cases k:i=n
  ·subst k
   have:=d.2
   rw[Ra e,Bool.true_and] at this;exact this
  ·exact i2 i (by omega) e
theorem Inv.zN{b l w d}(h:Inv b l w d):∃ar cr,d.bv=lV ar d.ao.length cr:=by
 obtain⟨a,c,e,_⟩:=dr h.wo.rb;rw[Rr] at e;exact⟨a,c,e⟩
theorem Inv.rf{m l w d}(h:Inv m l w d){a n c}(e:d.bv=lV a n c){i B}(j:d.ao[i]? =some B):∃g,a=some ⟨g,0,none⟩/\g<w.heap.size/\w.cell? ⟨g,i,none⟩=some (pV (qA B.bb)):=by
 have b:=h.wo.rb;rw[e] at b;obtain⟨o,p,k,_,_,f⟩:=dr b;cases k
 have hi:=(Rb.1 j).1;rcases f with⟨_,h0,_⟩|⟨g,rfl⟩
 ·rw[Rr] at h0;omega
 ·exact⟨g,rfl,(b.lt g rfl).2,dK b rfl i _ (by rw[Rp,j];rfl)⟩
theorem Inv.rI{a l w d}(h:Inv a l w d):w.cell? ⟨a,0,none⟩=some d.bv/\a<w.heap.size/\w.frozen? ⟨a,0,none⟩=false:=
 ⟨by rw[Q5 w a 0 _ _ _ h.wo.ah];rfl,(Q0.1 h.wo.ah).1,Rx w a 0 _ _ h.wo.ah⟩
def ll:dI:=⟨0,0,0,0,lV none 0 0,lV none 0 0,.nil,[],[]⟩
def pW(d:Dt)(B:dI):Bool:=iZ (fun i=>(d.ao.getD i ll).hb) B.hb (fun i=>jA (ae (d.ps B.sb)) (d.ao.getD i ll).base) (d.ag B.hb) d.ao.length
theorem AE{d B}(h:pW d B=false):d.ag B.hb=false/\∀C∈d.ao,C.hb=B.hb->jA (ae (d.ps B.sb)) C.base=false:=by
 obtain⟨h1,h2⟩:=AM h;refine⟨h1,fun C b e=>?_⟩;obtain⟨i,hi⟩:=List.getElem?_of_mem b;have c:=(Rb.1 hi).1;have a:d.ao.getD i ll=C:=by rw[Q3,hi];rfl
 have:=h2 i c (by rw[a];exact e);rw[a] at this;exact this
theorem Ea{q l w d}(h:Inv q l w d){B}(o:B∈d.ao)(K:d.ao.length<4000000000):
 Calls yP 19 #[pV (qA q),pV (qA B.bb)] w fun e w'=>e=rV (tV #[])/\∃l',Inv q l' w' (d.cI B.sb B.hb (d.yes B.hb) (pW d B) (d.us B.sb) (d.ps B.sb)):=by
 obtain⟨A,C,y⟩:=h.zN;have M:∀t,d.cI B.sb B.hb (d.yes B.hb) t (d.us B.sb) (d.ps B.sb)= {d with ag:=bf d.ag B.hb t}:=fun t=>by
  unfold Dt.cI;rw[jN,jN,jN]
 have u:∀i,i<d.ao.length->d.ao[i]? =some (d.ao.getD i ll):=fun i hi=>by rw[Q3,QV hi];rfl
 have s:∀i,∃a c,i<d.ao.length->(d.ao.getD i ll).bv=lV a (d.ao.getD i ll).base.length c:=fun i=>by
  by_cases hi:i<d.ao.length
  ·obtain⟨S,f⟩:=h.bk _ (Rv (u i hi));obtain⟨a,c,e,_⟩:=dr f.pb;exact⟨a,c,fun _=>e⟩
  ·exact⟨none,0,fun k=>absurd k hi⟩
 refine(Ii w q B.bb B.sb B.hb d.ao.length C A K (fun i=>(d.ao.getD i ll).bb) (fun i=>(d.ao.getD i ll).hb) (fun i=>(d.ao.getD i ll).base.length) (fun i=>(s i).choose_spec.choose) (fun i=>(s i).choose) (fun i=>jA (ae (d.ps B.sb)) (d.ao.getD i ll).base) (d.ag B.hb)
  (fun t W=>∃l,Inv q l W (d.cI B.sb B.hb (d.yes B.hb) t (d.us B.sb) (d.ps B.sb))) ?_ ?_ ?_ ?_ ?_ ?_ ?_).mono ?_
 ·refine⟨l,?_⟩;rw[M,jN];exact h
 ·rintro t W ⟨l,b⟩;obtain⟨k0,kw,_⟩:=b.rI;have E:(d.cI B.sb B.hb (d.yes B.hb) t (d.us B.sb) (d.ps B.sb)).bv=d.bv:=rfl;rw[E,y] at k0;obtain⟨S,f⟩:=b.bk B o;have j:=b.cI B o;obtain⟨c0,_,_,_,c4⟩:=f.cells;have d1:=j.cells.2;have N:(d.cI B.sb B.hb (d.yes B.hb) t (d.us B.sb) (d.ps B.sb)).ag B.hb=t:=de _ _ _;rw[N] at d1;exact⟨⟨k0,kw⟩,⟨c0,c4,f.bk.lt⟩,d1,Rx W B.hb 1 _ _ j.hu,j.hu.lt⟩
 ·rintro t W i ⟨l,b⟩ hi;have r:=u i hi;have p:=Rv r;obtain⟨g,I,J,F⟩:=b.rf (show(d.cI B.sb B.hb (d.yes B.hb) t (d.us B.sb) (d.ps B.sb)).bv=_ from y) r;obtain⟨S,f⟩:=b.bk _ p;obtain⟨_,_,_,c3,c4⟩:=f.cells;rw[(s i).choose_spec.choose_spec hi] at c3;exact⟨g,I,J,F,f.bk.lt,c4,c3⟩
 ·rintro t W n ⟨l,b⟩;exact⟨l,b.idle (Mv.tg l W n _)⟩
 ·rintro t W i ⟨l,b⟩ hi e;have r:=u i hi;have p:=Rv r;obtain⟨S,f⟩:=b.bk _ p;have j:=b.cI B o;have e1:(d.cI B.sb B.hb (d.yes B.hb) t (d.us B.sb) (d.ps B.sb)).us B.sb=d.us B.sb:=de _ _ _;have e2:(d.cI B.sb B.hb (d.yes B.hb) t (d.us B.sb) (d.ps B.sb)).ps B.sb=d.ps B.sb:=de _ _ _;rw[e1,e2] at j;have z:=f.pb;rw[(s i).choose_spec.choose_spec hi] at z;refine(Ny j.st.oy (fun x O=>j.st.st.dQ x O) (fun k t e=>by have:=j.st.sm k t e;unfold maxLen;omega) _ (d.ao.getD i ll).base z (by have:=f.nb;omega) f.ob b.bt).mono ?_;rintro e w' ⟨G,D⟩;exact⟨G,_,b.idle (Mv.below (dT []) l D)⟩
 ·rintro t W i ⟨l,b⟩ hi L;have p:=Rv (u i hi);exact KC L (b.cI _ p).hu (b.cI B o).hu
 ·rintro t W ⟨l,b⟩;have j:=b.cI B o;obtain⟨H,m⟩:=j.JH (b.od o);have v:=b.family o m H;refine⟨l,?_⟩;have e:(d.cI B.sb B.hb (d.yes B.hb) t (d.us B.sb) (d.ps B.sb)).cI B.sb B.hb ((d.cI B.sb B.hb (d.yes B.hb) t (d.us B.sb) (d.ps B.sb)).yes B.hb) true ((d.cI B.sb B.hb (d.yes B.hb) t (d.us B.sb) (d.ps B.sb)).us B.sb) ((d.cI B.sb B.hb (d.yes B.hb) t (d.us B.sb) (d.ps B.sb)).ps B.sb)=d.cI B.sb B.hb (d.yes B.hb) true (d.us B.sb) (d.ps B.sb):=by
   unfold Dt.cI;simp only[jN,tX]
  rw[e] at v;exact v
 ·rintro e w' ⟨h1,h2⟩;exact⟨h1,h2.out⟩
theorem bS.Ch{l W R O N}(h:bS l W R O N)(x:yB)(D:x.size<=1073741824)(s:R.seen.length+1<1000000000):
 ∃d n' f w' l',(Builtin.append_ #[63,63] 63 #[R.sv,lV (qA W.heap.size) 1 1]).run yP (W.alloc (.cells #[sV x] 9))=.ok (lV d n' f) w'/\Mv (fun x=>x=pr R.rb 0) l l' W w'/\w'.heap[R.rb]? =W.heap[R.rb]?/\Mv (fun x=>x=pr R.rb 0) l l' W (w'.setCell ⟨R.rb,4,none⟩ (lV d n' f))/\bS l' (w'.setCell ⟨R.rb,4,none⟩ (lV d n' f)) {R with sv:=lV d n' f,seen:=R.seen++[x]} O N:=by
 have c:=h.y;obtain⟨n1,n2,n3,n4,n5⟩:=h.ne;have h3:=h.x.bt.size;obtain⟨j,z⟩:=yX (W.alloc (.cells #[sV x] 9))
 have z1:j.heap.size=W.heap.size+1:=by rw[z];exact mM W _
 have m1:Mv (fun _=>False) l (eN l W.heap.size 0) W j:=by rw[z];exact Mv.pH l W _ _
 have T:j.ownsRow 3 9 1 R.sv R.seen.length (R.seen.map Value.string):=cK c.sn fun g o=>m1.ah g (c.sn.lt g o).2 id
 obtain⟨V,w',K,B,o,A⟩:=tA j 3 R.sv R.seen T 0 (lV (qA W.heap.size) 1 1) [x] (by rw[z];exact du.one W x) (by simp;omega) (by omega);obtain⟨d,f,rfl,_⟩:=dr B;obtain⟨n,J⟩:=yX ((R.seen++[x]).length)
 rw[<-J] at K B A;have L:R.rb<W.heap.size:=c.ij;have I:R.sv.ownBlock≠some R.rb:=fun e=>dA (oU c.sn e) (iO c.ah) (by decide) rfl
 have S:w'.heap[R.rb]? =j.heap[R.rb]? :=o.block R.rb (by omega) fun e=>I e.symm
 have F:w'.heap[R.rb]? =W.heap[R.rb]? :=S.trans (m1.ah R.rb L id);obtain⟨l',G⟩:∃l':Nat->Nat,l'=eN (eN l W.heap.size 0) j.heap.size (pr R.rb 0):=⟨_,rfl⟩
 have M:∀k,k<j.heap.size->l' k=eN l W.heap.size 0 k:=fun k q=>by rw[G];exact mN q
 have lo:∀k,k<W.heap.size->l' k=l k:=fun k q=>(M k (by omega)).trans (mN q)
 have U:∀k,j.heap.size<=k->l' k=pr R.rb 0:=fun k q=>by rw[G];exact nM q
 have m2:Mv (fun x=>x=pr R.rb 0) (eN l W.heap.size 0) l' j w':=⟨o.os,o.tape,o.output,o.size,M,fun k q s=>o.block k q fun e=>s (by
  have Q:=(c.sn.lt k e.symm).2;rw[mN Q];exact c.ls k e.symm)⟩
 have m:Mv (fun x=>x=pr R.rb 0) l l' W w':=(m1.mono fun _ D=>D.elim).trans m2;have H:l' R.rb=pr R.rb 0:=(lo R.rb L).trans c.lb;have m3:Mv (fun x=>x=pr R.rb 0) l' l' w' (w'.setCell ⟨R.rb,4,none⟩ (lV d n f)):=by
  have:=qg (l:=l') (w:=w') (b:=R.rb) (i:=4) (v:=lV d n f);rw[H] at this;exact this
 have p:=m.trans m3;have C:∀{a b:Nat},a≠R.rb->¬(pr a b=pr R.rb 0):=fun s e=>s (gz e).1
 have h0:¬((0:Nat)=pr R.rb 0):=fun e=>by have:=ie R.rb 0;omega
 refine⟨d,n,f,w',l',by rw[<-z];exact K,m,F,p,⟨?_,h.x.move p h0 (C fun e=>n4 e.symm) fun b=>C n1⟩⟩;have P:∀g,(Value.slice d n f).ownBlock=some g->g≠R.rb:=fun g r e=>by
  rcases A g r with k|k
  ·exact I (by rw[<-e];exact k)
  ·omega
 exact
  {ah:=by
    have E:w'.heap[R.rb]? =_:=F.trans c.ah;show(w'.setCell ⟨R.rb,4,none⟩ (lV d n f)).heap[R.rb]? =_;rw[RM w' R.rb 4 _ _ (0,0) _ E,R7 w' R.rb _ _ _ _ E];rfl
   lb:=H
   pm:=(c.pm.mv c.lm p h0).1
   lm:=(c.pm.mv c.lm p h0).2
   pb:=(c.pb.mv c.lv p h0).1
   lv:=(c.pb.mv c.lv p h0).2
   sn:=by
    show(w'.setCell ⟨R.rb,4,none⟩ (lV d n f)).ownsRow 3 9 1 (lV d n f) (R.seen++[x]).length _;rw[<-J];exact cK B fun g r=>Rc _ _ _ _ fun e=>P g r e
   ls:=fun g r=>by
    rcases A g r with k|k
    ·exact(lo g (c.sn.lt g k).2).trans (c.ls g k)
    ·exact U g k
   sm:=fun t u=>by
    rcases Re.1 u with u|u
    ·exact c.sm t u
    ·rw[Q2.1 u];exact D
   tn:=(p.ah R.tt c.pf (by rw[c.lt];exact C fun e=>n3 e.symm)).trans c.tn
   lt:=(p.aM _ c.pf).trans c.lt
   nm:=c.nm
   nb:=c.nb
   ns:=by show(R.seen++[x]).length<_;rw[Q4,Sa];exact s}
def dm(sb:Nat):List bN->Nat
 | []=>0
 |R::rs=>(if R.sb=sb then R.N else 0)+dm sb rs
theorem xj{sb}:∀{rs R},R∈rs->R.sb=sb->R.N<=dm sb rs
 |Q::rs,R,h,e=>by
  rcases Rh.1 h with rfl|h
  ·show R.N<=(if R.sb=sb then R.N else 0)+_
   rw[QX e];omega
  ·have:=xj h e
   show R.N<=(if Q.sb=sb then Q.N else 0)+dm sb rs
   omega
theorem xk{sb f}:∀{rs},(∀Q∈rs,(f Q).sb=Q.sb/\(f Q).N=Q.N)->dm sb (rs.map f)=dm sb rs
 | [],_=>rfl
 |Q::rs,h=>by
  have h1:=h Q (QY ..)
  have b:=xk (sb:=sb) (rs:=rs) fun P a=>h P (QZ _ a)
  show(if(f Q).sb=sb then(f Q).N else 0)+dm sb (rs.map f)=(if Q.sb=sb then Q.N else 0)+dm sb rs
  rw[h1.1,h1.2,b]
theorem Bg{sb rb f K}:∀{rs:List bN},(rs.map bN.rb).Nodup->(∀Q∈rs,(f Q).sb=Q.sb/\(Q.rb≠rb->(f Q).N=Q.N)/\(Q.rb=rb->(f Q).N<=Q.N+K))->dm sb (rs.map f)<=dm sb rs+K
 | [],_,_=>Ri _
 |Q::rs,hn,h=>by
  obtain⟨h1,h2,h3⟩:=h Q (QY ..)
  rw[List.map_cons,List.nodup_cons] at hn
  show(if(f Q).sb=sb then(f Q).N else 0)+dm sb (rs.map f)<=(if Q.sb=sb then Q.N else 0)+dm sb rs+K
  rw[h1]
  by_cases e:Q.rb=rb
  ·have c:dm sb (rs.map f)=dm sb rs:=xk fun P a=>by
    obtain⟨k1,k2,_⟩:=h P (QZ _ a)
    exact⟨k1,k2 fun b=>hn.1 (Rt.2 ⟨P,a,b.trans e.symm⟩)⟩
   have:=h3 e
   rw[c]
   split<;>omega
  ·have d:=Bg (sb:=sb) (rb:=rb) (K:=K) hn.2 fun P a=>h P (QZ _ a)
   rw[h2 e]
   omega
theorem xm{sb}:∀{a b},dm sb (a++b)=dm sb a+dm sb b
 | [],b=>by show dm sb b=0+_;omega
 |R::a,b=>by
  have:=xm (sb:=sb) (a:=a) (b:=b)
  show(if R.sb=sb then R.N else 0)+dm sb (a++b)=(if R.sb=sb then R.N else 0)+dm sb a+dm sb b
  omega
structure fG(L a b s:Nat)(d:Dt):Prop where
 len:d.aB.length<=L
 fN:∀R∈d.aB,(d.ps R.sb).length+dm R.sb d.aB<=a
 hw:∀R∈d.aB,aR R.m<=b/\aR R.base<=b
 sn:∀R∈d.aB,R.seen.length<=s
theorem fG.N{L a b s d}(h:fG L a b s d){R}(c:R∈d.aB):R.N<=a/\(d.ps R.sb).length<=a:=by
 have h1:=h.fN R c;have h2:=xj c (rfl:R.sb=R.sb);omega
theorem fG.mono{L a b s e f g i d}(h:fG L a b s d)(h1:L<=e)(h2:a<=f)(h3:b<=g)(h4:s<=i):fG e f g i d:=
 ⟨Q7 h.len h1,fun R c=>Q7 (h.fN R c) h2,fun R c=>⟨Q7 (h.hw R c).1 h3,Q7 (h.hw R c).2 h3⟩,fun R c=>Q7 (h.sn R c) h4⟩
theorem fG.put{x l w L a b s K j i d}(h:fG L a b s d)(q:Inv x l w d){R c}(v:R∈d.aB)(n:kg R c)(t:c.N<=R.N+K)(z:aR c.m<=aR R.m+j)(y:aR c.base<=b)(A:c.seen.length<=R.seen.length+i):fG L (a+K) (b+j) (s+i) {d with aB:=nQ d.aB c}:=by
 have o:∀Q∈d.aB,Q.rb=c.rb->Q=R:=fun Q f e=>mQ q.jv f v (e.trans n.rb)
 have r:∀Q∈d.aB,kg Q (fc c Q):=fun Q f=>xS fun e=>by rw[o Q f e];exact n
 have u:∀Q∈d.aB,(fc c Q).sb=Q.sb/\(Q.rb≠R.rb->(fc c Q).N=Q.N)/\(Q.rb=R.rb->(fc c Q).N<=Q.N+K):=fun Q f=>by
  refine⟨(r Q f).sb,fun e=>?_,fun e=>?_⟩
  ·unfold fc;rw[QW (fun k=>e (k.trans n.rb))];split<;>rfl
  ·have k:Q.rb=c.rb:=e.trans n.rb.symm;unfold fc;rw[QX k,o Q f k];exact t
 have p:∀Q∈d.aB,aR (fc c Q).m<=b+j/\aR (fc c Q).base<=b+j/\(fc c Q).seen.length<=s+i:=fun Q f=>by
  have k1:=h.hw Q f;have k2:=h.sn Q f;unfold fc;split
  ·next e=>
   rw[o Q f e] at k1 k2;exact⟨by omega,by omega,by omega⟩
  ·split
   ·show aR Q.m<=_/\aR Q.base<=_/\Q.seen.length<=_;exact⟨by omega,by omega,by omega⟩
   ·exact⟨by omega,by omega,by omega⟩
 refine⟨?_,fun P g=>?_,fun P g=>?_,fun P g=>?_⟩
 ·show(nQ d.aB c).length<=L;unfold nQ;rw[Rr];exact h.len
 ·obtain⟨Q,f,rfl⟩:=Rt.1 g;show(d.ps (fc c Q).sb).length+dm (fc c Q).sb (d.aB.map (fc c))<=a+K;rw[(r Q f).sb];have k1:=h.fN Q f;have k2:=Bg (sb:=Q.sb) (rb:=R.rb) (K:=K) q.jv u;omega
 ·obtain⟨Q,f,rfl⟩:=Rt.1 g;exact⟨(p Q f).1,(p Q f).2.1⟩
 ·obtain⟨Q,f,rfl⟩:=Rt.1 g;exact(p Q f).2.2
structure gL(d d':Dt):Prop where
 w0:d'.w0=d.w0
 ao:d'.ao=d.ao
 yes:d'.yes=d.yes
 ag:d'.ag=d.ag
 ps:∀B∈d.ao,d'.ps B.sb=d.ps B.sb
theorem gL.refl(d:Dt):gL d d:=⟨rfl,rfl,rfl,rfl,fun _ _=>rfl⟩
theorem gL.trans{d d1 d2}(h:gL d d1)(k:gL d1 d2):gL d d2:=⟨k.w0.trans h.w0,k.ao.trans h.ao,k.yes.trans h.yes,k.ag.trans h.ag,fun B a=>(k.ps B (by rw[h.ao];exact a)).trans (h.ps B a)⟩
def iT:yL->Bool:=fun _=>true
theorem Mm(t):cO iT t=(bY t true).length:=by unfold cO iT;simp
theorem Kv{G t key value}(a:aw t 0):aw (bC G t key value) 0:=by
 unfold bC;split
 ·next h=>exact qq a h
 ·unfold fb;split
  ·exact a
  ·split
   ·exact a
   ·exact jf G t key a
theorem OS{G t key}(a:aw t 0)(d:bD t):aw (aW G t key).1 0:=by
 unfold aW;split
 ·exact a
 ·next h40=>
  have b:=jf G t key a;split
  ·exact b
  ·next h0=>
   have c:(aE G t key).2=0:=RQ h0;split
   ·exact b
   ·next hf=>
    cases hl:aV G (aE G t key).1 (aC key) 0 with
    |error e=>exact b
    |ok t'=>exact(kD G _ (aC key) 0 t' b (nS G t key a d) (kA G t key a (by omega) c) (ov _ _ hf) (ch key) (by rw[gA];omega) hl).1.ok
structure fS(n c:Nat)(d:Dt):Prop where
 len:d.ao.length<=n
 mm:∀B∈d.ao,B.m.length<=n/\B.base.length<=n
 nm:∀B∈d.ao,cO iT B.t<=12*c
 ps:∀B∈d.ao,(d.ps B.sb).length<=12582913*n
theorem fS.mono{n c e b d}(h:fS n c d)(h1:n<=e)(h2:c<=b):fS e b d:=
 ⟨Q7 h.len h1,fun B a=>⟨Q7 (h.mm B a).1 h1,Q7 (h.mm B a).2 h1⟩,fun B a=>Q7 (h.nm B a) (Nat.mul_le_mul_left _ h2),fun B a=>Q7 (h.ps B a) (Nat.mul_le_mul_left _ h1)⟩
def Sem(d:Dt):Prop:=∀B∈d.ao,d.ag B.hb=true\/jE (ae (d.ps B.sb)) (d.yes B.hb=true) B.t B.m B.base
structure RS(d d':Dt):Prop where
 w0:d'.w0=d.w0
 aB:d'.aB=d.aB
 ps:∀R∈d.aB,d'.ps R.sb=d.ps R.sb
theorem RS.refl(d:Dt):RS d d:=⟨rfl,rfl,fun _ _=>rfl⟩
theorem RS.trans{d d1 d2}(h:RS d d1)(k:RS d1 d2):RS d d2:=⟨k.w0.trans h.w0,k.aB.trans h.aB,fun R a=>(k.ps R (by rw[h.aB];exact a)).trans (h.ps R a)⟩
theorem fG.rs{L a b s d e}(h:fG L a b s d)(k:RS d e):fG L a b s e:=
 ⟨by rw[k.aB];exact h.len,fun R c=>by rw[k.aB] at c⊢;rw[k.ps R c];exact h.fN R c,fun R c=>by rw[k.aB] at c;exact h.hw R c,fun R c=>by rw[k.aB] at c;exact h.sn R c⟩
theorem fS.ds{n c d b}(h:fS n c d)(k:gL d b):fS n c b:=
 ⟨by rw[k.ao];exact h.len,fun B a=>by rw[k.ao] at a;exact h.mm B a,fun B a=>by rw[k.ao] at a;exact h.nm B a,fun B a=>by rw[k.ao] at a;rw[k.ps B a];exact h.ps B a⟩
theorem Sem.ds{d b}(h:Sem d)(k:gL d b):Sem b:=fun B a=>by
 rw[k.ao] at a
 rw[k.yes,k.ag,k.ps B a];exact h B a
theorem fS.put{n c g f d}(h:fS n c d)(h1:n<=g)(h2:c<=f){B b}(i:B∈d.ao)(o:rF B b)(k:b.m.length<=g)(j:b.base=B.base)(l:cO iT b.t<=12*f):fS g f {d with ao:=kV d.ao b}:=by
 have e:=h.mono h1 h2;refine⟨?_,fun C a=>?_,fun C a=>?_,fun C a=>?_⟩
 ·show(kV d.ao b).length<=_;unfold kV;rw[Rr];exact e.len
 ·rcases nZ a with rfl|⟨a,_⟩
  ·exact⟨k,by rw[j];exact(e.mm B i).2⟩
  ·exact e.mm C a
 ·rcases nZ a with rfl|⟨a,_⟩
  ·exact l
  ·exact e.nm C a
 ·rcases nZ a with rfl|⟨a,_⟩
  ·rw[o.sb];exact e.ps B i
  ·exact e.ps C a
theorem Sem.put{d}(h:Sem d){B a}(c:rF B a)(e:d.ag B.hb=true\/jE (ae (d.ps B.sb)) (d.yes B.hb=true) a.t a.m a.base):Sem {d with ao:=kV d.ao a}:=fun C b=>by
 rcases nZ b with rfl|⟨b,_⟩
 ·show d.ag _=true\/jE (ae (d.ps _)) (d.yes _=true) _ _ _
  rw[c.hb,c.sb];exact e
 ·exact h C b
theorem Inv.Pc{k l w d}(h:Inv k l w d){B}(c:B∈d.ao)(s:(d.ps B.sb).length+cO iT B.t<4000000000000):
 Calls yP 39 #[pV (qA B.tb)] w fun e w'=>e=rV (sV (str (bM B.t)))/\∃l' j,Inv k l' w' (d.cI B.sb B.hb (d.yes B.hb) (d.ag B.hb) j (dt (d.ps B.sb) (bY B.t true))):=by
 obtain⟨S,f⟩:=h.bk B c;have a:=h.cI B c;have g:=h.od c;have o:Fits (d.ps B.sb) (bY B.t true):=fun l' p=>by
  have key:=(uL (fun _=>B.t) [0] 0 (Q2.2 rfl) l' (d.ps B.sb) p).1;have h1:fN (d.ps B.sb) (fun _=>B.t) [0]<=(d.ps B.sb).length+cO iT B.t+1:=by
   unfold fN;show _+(cO (e9 (d.ps B.sb)) B.t+1+0)<=_;have:cO (e9 (d.ps B.sb)) B.t<=cO iT B.t:=tk (fun _ _=>rfl) _;omega
  have h2:(dt (d.ps B.sb) l').length+1<=fN (dt (d.ps B.sb) l') (fun _=>B.t) [0]:=by
   unfold fN;show _<=_+(cO _ B.t+1+0);omega
  omega
 refine(Ga f.tr f.loose (fun x i e=>g.b.2.1 (by rw[<-e,f.lS x i])) (fun e=>g.b.2.1 (by rw[<-e,f.lt])) a.st a.ls h.bt o).mono ?_;rintro e w' ⟨n,l',j,m,q,r⟩;refine⟨n,l',j,h.family c (m.mono fun x i=>.inl i) ⟨?_,?_,q,r⟩⟩
 ·exact(m.kept a.hu.lt a.lh fun e=>g.b.1 e.symm).trans a.hu
 ·exact(m.aM _ a.hu.lt).trans a.lh
theorem Kd{r:yL}(h:r.length=32):bM (cl r)=r:=by
 unfold cl;split
 ·next e=>rw[e];rfl
 ·show(if r=[] then _ else r)=r;rw[QW];intro e;rw[e] at h;cases h
def nW(B:dI)(n a:Nat):dI:=⟨a,B.sb,n,B.hb,B.mv,B.mv,cl (bM B.t),B.m,B.m⟩
def oH(d:Dt)(B:dI)(a:Nat->Value):Dt:=d.cI B.sb B.hb (d.yes B.hb) (d.ag B.hb) a (dt (d.ps B.sb) (bY B.t true))
def gJ(d:Dt)(B:dI)(a:Nat->Value)(n b:Nat)(c:Value):Dt:=(oH d B a).book (nW B n b) c (d.yes B.hb) (d.ag B.hb) a (dt (d.ps B.sb) (bY B.t true))
def pD(d:Dt)(B:dI)(c:Nat->Value)(n a:Nat)(b:Value):Dt:=(gJ d B c n a b).cI B.sb B.hb ((gJ d B c n a b).yes B.hb) (pW (gJ d B c n a b) B) ((gJ d B c n a b).us B.sb) ((gJ d B c n a b).ps B.sb)
theorem zI(d:Dt)(B:dI)(c)(n a:Nat)(b):(gJ d B c n a b).ao=d.ao++[nW B n a]/\(gJ d B c n a b).aB=d.aB/\(gJ d B c n a b).yes=d.yes/\(gJ d B c n a b).ag=d.ag/\(∀x,x≠B.sb->(gJ d B c n a b).ps x=d.ps x)/\(gJ d B c n a b).ps B.sb=dt (d.ps B.sb) (bY B.t true):=by
 refine⟨rfl,rfl,?_,?_,fun x e=>?_,?_⟩
 ·show bf (bf d.yes B.hb (d.yes B.hb)) B.hb (d.yes B.hb)=_;rw[tX,jN]
 ·show bf (bf d.ag B.hb (d.ag B.hb)) B.hb (d.ag B.hb)=_;rw[tX,jN]
 ·show bf (bf d.ps B.sb _) B.sb _ x=_;rw[tX,cZ _ _ e]
 ·show bf (bf d.ps B.sb _) B.sb _ B.sb=_;rw[de]
theorem Pn{x l w d}(h:Inv x l w d){B}(f:B∈d.ao)(j:Sem d)(c)(n a:Nat)(b):Sem (pD d B c n a b):=by
 obtain⟨p1,p2,p3,p4,p5,p6⟩:=zI d B c n a b;intro C s;have g:C∈d.ao++[nW B n a]:=s;show bf (gJ d B c n a b).ag B.hb _ C.hb=true\/jE (ae (bf (gJ d B c n a b).ps B.sb _ C.sb)) (bf (gJ d B c n a b).yes B.hb _ C.hb=true) C.t C.m C.base;rw[jN,jN,p3,p4];cases hw:pW (gJ d B c n a b) B with
 |true=>
  by_cases e:C.hb=B.hb
  ·rw[e,de];exact .inl rfl
  ·rw[cZ _ _ e];rcases Re.1 g with h1|h1
   ·have e2:C.sb≠B.sb:=fun k=>e ((h.hs C h1 B f).2 k)
    rw[p5 _ e2];exact j C h1
   ·exact absurd (by rw[Q2.1 h1];rfl) e
 |false=>
  obtain⟨f1,f2⟩:=AE hw;rw[p4] at f1;rw[p1,p6] at f2;by_cases e:C.hb=B.hb
  ·right;have r:=f2 C g e;rw[e];have q:∀D∈d.ao,D.hb=B.hb->jE (ae (d.ps D.sb)) (d.yes B.hb=true) D.t D.m D.base:=fun D v p=>by
    rcases j D v with k|k
    ·rw[p,f1] at k;cases k
    ·rw[p] at k;exact k
   rcases Re.1 g with h1|h1
   ·have e2:=(h.hs C h1 B f).1 e;obtain⟨Q,F,i⟩:=q C h1 e;rw[e2] at i;rw[e2,p6];exact⟨Q,F,i.laid r⟩
   ·have u:=Q2.1 h1;subst u;obtain⟨Q,F,i⟩:=q B f rfl;obtain⟨S,o⟩:=h.bk B f;show jE (ae ((gJ d B c n a b).ps B.sb)) _ (cl (bM B.t)) B.m B.m;rw[p6];exact i.again o.tr.ok o.loose o.om r
  ·rw[cZ _ _ e];rcases Re.1 g with h1|h1
   ·have e2:C.sb≠B.sb:=fun k=>e ((h.hs C h1 B f).2 k)
    rw[p5 _ e2];exact j C h1
   ·exact absurd (by rw[Q2.1 h1];rfl) e
theorem Po{d:Dt}{B}(j:B∈d.ao){n c}(g:fS n c d)(q:c<=1048576)(i)(b a:Nat)(h):fS (n+1) c (pD d B i b a h):=by
 obtain⟨p1,p2,p3,p4,p5,p6⟩:=zI d B i b a h;have k:∀C∈(pD d B i b a h).ao,C∈d.ao\/C=nW B b a:=fun C f=>by
  have l:C∈d.ao++[nW B b a]:=f;rcases Re.1 l with h1|h1
  ·exact .inl h1
  ·exact .inr (Q2.1 h1)
 have p:∀x,(pD d B i b a h).ps x=(gJ d B i b a h).ps x:=fun x=>by
  show bf (gJ d B i b a h).ps B.sb _ x=_;rw[jN]
 have o:(dt (d.ps B.sb) (bY B.t true)).length<=12582913*(n+1):=by
  have h1:=DZ (bY B.t true) (d.ps B.sb);have h2:=g.ps B j;have h3:=g.nm B j;rw[Mm] at h3;omega
 refine⟨?_,fun C f=>?_,fun C f=>?_,fun C f=>?_⟩
 ·show(d.ao++[nW B b a]).length<=_;rw[Q4,Sa];have:=g.len;omega
 ·rcases k C f with h1|rfl
  ·have:=g.mm C h1;exact⟨by omega,by omega⟩
  ·have:=g.mm B j;show B.m.length<=_/\B.m.length<=_;exact⟨by omega,by omega⟩
 ·rcases k C f with h1|rfl
  ·exact g.nm C h1
  ·show cO iT (cl (bM B.t))<=_;rw[yg];exact Ri _
 ·rw[p];by_cases e:C.sb=B.sb
  ·rw[e,p6];exact o
  ·rw[p5 _ e];rcases k C f with h1|rfl
   ·have:=g.ps C h1;omega
   ·exact absurd rfl e
theorem NG{k l w d}(h:Inv k l w d){B}(g:B∈d.ao){n c}(H:fS n c d)(A8:c<=1048576)(B7:n+1<200000)(hS:Sem d):
 Calls yP 17 #[pV (qA k),pV (qA B.bb)] w fun e w'=>e=rV (bV true)/\∃l' d',Inv k l' w' d'/\fS (n+1) c d'/\Sem d'/\RS d d':=by
 obtain⟨E,F,A1⟩:=h.zN;obtain⟨S0,A0⟩:=h.bk B g;obtain⟨T,V,A2,_⟩:=dr A0.pm;have hK:=A0.tr.ok;have N:(bM B.t).length=32:=oV hK.aJ;have B6:=H.len;have I:∀{W:World} {l:Nat->Nat} {d1:Dt},Inv k l W d1->B∈d1.ao->(W.cell? ⟨B.bb,1,none⟩=some (pV (qA B.tb))/\W.cell? ⟨B.bb,0,none⟩=some (pV (qA B.sb))/\W.cell? ⟨B.bb,2,none⟩=some (lV T B.m.length V)/\W.cell? ⟨B.bb,4,none⟩=some (pV (qA B.hb)))/\B.bb<W.heap.size:=fun b D=>by
  obtain⟨S,z⟩:=b.bk B D;obtain⟨c0,c1,c2,_,c4⟩:=z.cells;rw[A2] at c2;exact⟨⟨c1,c0,c2,c4⟩,z.bk.lt⟩
 have O:∀{W:World} {l:Nat->Nat} {d1:Dt} {C:dI},Inv k l W d1->C∈d1.ao->Calls yP 38 #[pV (qA C.tb)] W fun e w'=>e=rV (sV (str (bM C.t)))/\yW W w':=fun b D=>by
  obtain⟨S,z⟩:=b.bk _ D;obtain⟨u,t1,t2⟩:=z.tr.at_;exact pM _ _ _ u _ S t1 t2 z.tr.ok.aJ b.bt
 refine(Pa w k B.bb B.sb B.tb B.hb d.ao.length F E T B.m.length V (str (bM B.t))
  (fun W=>∃l,Inv k l W d) (fun W=>∃l a,Inv k l W (oH d B a)) (fun W=>∃l a f i j,Inv k l W (pD d B a f i j))
  (fun f W=>∃l a S,Inv k l W (oH d B a)/\dH W f (qA B.sb) S (cl (bM B.t))/\(∀x,S x->l x=pr f 0)/\l f=pr f 0/\∀C∈d.ao,C.tb≠f)
  (fun f W=>∃l a i j,Inv k l W (gJ d B a f i j)) (fun f W=>∃l a i j,Inv k l W (pD d B a f i j))
  ⟨l,h⟩ ?_ ?_ ?_ ?_ ?_ ?_ ?_ ?_ ?_ ?_).mono ?_
 ·rintro W ⟨l,b⟩;obtain⟨⟨c1,_⟩,r⟩:=I b g;exact⟨c1,r⟩
 ·rintro W ⟨l,a,b⟩;obtain⟨⟨c1,c0,_⟩,r⟩:=I b g;exact⟨c1,c0,r⟩
 ·rintro f W ⟨l,a,S,b,_⟩;obtain⟨⟨_,c0,c2,c4⟩,r⟩:=I b g;obtain⟨k0,kw,_⟩:=b.rI;have:(oH d B a).bv=lV E d.ao.length F:=A1;rw[this] at k0;exact⟨⟨k0,kw⟩,c0,c2,c4,r⟩
 ·rintro W ⟨l,b⟩;exact(O b g).mono fun e w' ⟨h1,h2⟩=>⟨h1,_,b.idle (Mv.below (dT []) l h2)⟩
 ·rintro W ⟨l,b⟩;refine(b.Pc g (by
   have h1:=H.ps B g;have h2:=H.nm B g;omega)).mono ?_
  rintro e w' ⟨q,l',B5,s⟩;exact⟨q,l',B5,s⟩
 ·rintro W ⟨l,a,b⟩;exact(O b g).mono fun e w' ⟨h1,h2⟩=>⟨h1,_,a,b.idle (Mv.below (dT []) l h2)⟩
 ·rintro W ⟨l,a,b⟩;refine(rn W (qA B.sb) (bM B.t) N b.bt).mono ?_;rintro e w' ⟨P,u,q,B3,A6,hA,A7⟩;have m:Mv (fun _=>False) l (eN l W.heap.size (pr P 0)) W w':=Mv.mR A7 _;have h3:=b.bt.size;refine⟨P,q,_,a,fun x=>(W.heap.size<=x/\x≠P)/\x<w'.heap.size,b.idle (m.jb _),⟨⟨u,A6,hA.cut⟩,rO N,fun x J=>⟨by omega,J.1.2,J.2⟩⟩,fun x J=>nM J.1.1,nM B3,fun C G e=>?_⟩;have:=kQ (b.gK (B:=C) G).2.1;omega
 ·rintro f W ⟨l,a,S,b,hT,lS,ln,B2⟩;have mD:Mv (fun _=>False) l l W W.drew:=Mv.tg l W 1 _;have y:=b.idle (mD.jb _);obtain⟨S1,p⟩:=y.bk B g;have A:=y.cI B g;have hN:Ag l W.drew (nW B f W.heap.size) S:=⟨hT.same (QU _) fun x _ _=>rfl,(by show bD (cl _);unfold cl;split<;>trivial),lS,ln,p.pm,p.lm,p.om,p.nm,⟨rfl,rfl⟩⟩
  have ey:(oH d B a).yes B.hb=d.yes B.hb:=de _ _ _;have Z:(oH d B a).ag B.hb=d.ag B.hb:=de _ _ _;have eu:(oH d B a).us B.sb=a:=de _ _ _;have Y:(oH d B a).ps B.sb=dt (d.ps B.sb) (bY B.t true):=de _ _ _;rw[ey,Z,eu,Y] at A;have A5:cG l (eP (nW B f W.heap.size)) W.drew B.sb B.hb (d.yes B.hb) (d.ag B.hb) a (dt (d.ps B.sb) (bY B.t true)):=⟨A.hu,A.lh,A.st,A.ls⟩
  obtain⟨Q,U,w',hr,A9,B0,l',mA,s⟩:=Dl y hN A5 rfl (by show d.ao.length<_;omega) B2 ⟨fun C G=>⟨b.hs C G B g,fun e=>by
   have e2:=(b.hs C G B g).1 e;have e':C.hb=B.hb:=e;rw[e',e2];exact⟨ey.symm,Z.symm,eu.symm,Y.symm⟩⟩,fun R K=>b.br B g R K⟩
  have X:(oH d B a).bv=lV E d.ao.length F:=A1;rw[X] at hr;have A3:(Builtin.append_ #[27,27] 27 #[lV E d.ao.length F,lV (some ⟨W.heap.size+1,0,none⟩) 1 1]).run yP ((W.drew.alloc (.cells #[pV (qA B.sb),pV (qA f),B.mv,B.mv,pV (qA B.hb)] 47)).alloc (.cells #[pV (qA W.heap.size)] 41))=.ok (lV Q (d.ao.length+1) U) w':=hr;rw[A2] at A3;have B1:=p.lb;have B4:pr B.bb 0≠pr k 0:=fun e=>dA p.kd.1 y.kw (by decide) (gz e).1
  have M:∀(o:Nat) (v:Value),W.cell? ⟨B.bb,o,none⟩=some v->w'.cell? ⟨B.bb,o,none⟩=some v:=fun o v hv=>(Rd (w:=W) (A9 B.bb p.bk.lt (by rw[B1];exact B4))).trans hv
  obtain⟨⟨_,c0,c2,c4⟩,r⟩:=I b g;have L:w'.heap[k]? =some (.cells #[(oH d B a).bv,(oH d B a).rv] 30 (0,0)):=B0.trans y.wo.ah;refine⟨Q,_,U,w',A3,⟨⟨?_,M _ _ c0,M _ _ c2,M _ _ c4⟩,Rx w' k 0 _ _ L,(Q0.1 L).1⟩,l',a,W.heap.size,_,s⟩;rw[Q5 w' k 0 _ _ _ L,X];rfl
 ·rintro f W ⟨l,a,i,j,b⟩;have A4:B∈(gJ d B a f i j).ao:=Rw _ g;refine(Ea b A4 (by show(d.ao++[_]).length<_;rw[Q4,Sa];omega)).mono ?_;rintro e w' ⟨q,l',s⟩;exact⟨q,l',a,i,j,s⟩
 ·rintro f W ⟨l,a,i,j,b⟩;have D:nW B f i∈(pD d B a f i j).ao:=Ru _ (Q2.2 rfl);refine(O b D).mono ?_;rintro e w' ⟨h1,h2⟩;have:bM (nW B f i).t=bM B.t:=Kd N;rw[this] at h1;exact⟨h1,_,a,f,i,j,b.idle (Mv.below (dT []) l h2)⟩
 ·rintro e w' ⟨q,hP⟩;obtain⟨l',a,f,i,j,b⟩:=hP.out;refine⟨q,l',_,b,Po g H A8 a f i j,Pn h g hS a f i j,⟨rfl,rfl,fun R K=>?_⟩⟩;obtain⟨_,_,_,_,p5,_⟩:=zI d B a f i j;show bf (gJ d B a f i j).ps B.sb _ R.sb=_;rw[jN];exact p5 _ fun e=>h.br B g R K e.symm
theorem Pp(w:World)(s rb z x l N O M:Nat)(L B B5:Option Addr)(E C ns cs:Nat)(hM:M<4000000000)
 (I A Z:World->Prop) (J:Nat->World->Prop) (P3:Nat->Value->World->Prop) (F:Nat->Option Addr->Nat->(Nat->Nat)->(Nat->Nat)->World->Prop)
 (B2:Hid (I w))
 (Q:Hid (∀W,I W->W.cell? ⟨rb,1,none⟩=some (pV (qA x))/\rb<W.heap.size))
 (R:Hid (∀W,A W->W.cell? ⟨rb,1,none⟩=some (pV (qA x))/\W.cell? ⟨rb,0,none⟩=some (pV (qA z))/\rb<W.heap.size))
 (A4:Hid (∀n W,J n W->W.cell? ⟨rb,4,none⟩=some (lV B5 ns cs)/\rb<W.heap.size))
 (A5:Hid (∀n v W,P3 n v W->(W.cell? ⟨s,1,none⟩=some (lV L N O)/\s<W.heap.size)/\W.cell? ⟨rb,0,none⟩=some (pV (qA z))/\W.cell? ⟨rb,2,none⟩=some (lV B E C)/\W.cell? ⟨rb,5,none⟩=some (pV (qA l))/\rb<W.heap.size))
 (X:Hid (∀W,I W->Calls yP 56 #[pV (qA x)] W fun e w'=>lO e/\I w'))
 (A1:Hid (∀W,I W->Calls yP 57 #[pV (qA x)] W fun e w'=>lO e/\A w'))
 (Y:Hid (∀W,A W->Calls yP 56 #[pV (qA x)] W fun e w'=>lO e/\A w'))
 (A3:Hid (∀W r,A W->r.size=32->Calls yP 23 #[pV (qA z),sV r] W fun e w'=>∃n,e=rV (tV #[pV (qA n),iV .i64 0])/\J n w'))
 (A8:Hid (∀n W,J n W->Z W))
 (C8:Hid (∀n W,J n W->∃q n' j w',(Builtin.append_ #[63,63] 63 #[lV none 0 0,lV B5 ns cs]).run yP W=.ok (lV q n' j) w'/\P3 n (lV q n' j) w'))
 (C4:Hid (∀n v W,P3 n v W->∃q j w' d f,(Builtin.append_ #[28,28] 28 #[lV L N O,lV (some ⟨W.heap.size+1,0,none⟩) 1 1]).run yP ((W.drew.alloc (.cells #[pV (qA z),pV (qA n),lV B E C,lV B E C,v,pV (qA l)] 65)).alloc (.cells #[pV (qA W.heap.size)] 58))=.ok (lV q M j) w'/\((w'.cell? ⟨s,1,none⟩=some (lV L N O)/\w'.cell? ⟨rb,0,none⟩=some (pV (qA z))/\w'.cell? ⟨rb,2,none⟩=some (lV B E C)/\w'.cell? ⟨rb,5,none⟩=some (pV (qA l)))/\w'.frozen? ⟨s,1,none⟩=false/\s<w'.heap.size)/\F n q j d f (w'.setCell ⟨s,1,none⟩ (lV q M j))))
 (G:Hid (∀n a c d f W,F n a c d f W->(W.cell? ⟨s,1,none⟩=some (lV a M c)/\s<W.heap.size)/\(W.cell? ⟨rb,5,none⟩=some (pV (qA l))/\rb<W.heap.size)/\(∃y:Bool,W.cell? ⟨l,0,none⟩=some (bV y))/\W.frozen? ⟨l,0,none⟩=false/\l<W.heap.size))
 (T:Hid (∀n a c d f W i,F n a c d f W->i<M->∃g,a=some ⟨g,0,none⟩/\g<W.heap.size/\W.cell? ⟨g,i,none⟩=some (pV (some ⟨d i,0,none⟩))/\d i<W.heap.size/\W.cell? ⟨d i,5,none⟩=some (pV (some ⟨f i,0,none⟩))))
 (H:Hid (∀n a c d f W k,F n a c d f W->F n a c d f (W.drewN k)))
 (A6:Hid (∀n a c d f W i,F n a c d f W->i<M->f i≠l->(binOp BinOp.eql 59 (pV (some ⟨f i,0,none⟩)) (pV (qA l))).run yP W=.ok (bV false) W))
 (A2:Hid (∀n a c d f W i,F n a c d f W->i<M->Calls yP 58 #[pV (some ⟨d i,0,none⟩)] W fun e w'=>bE e/\F n a c d f w'))
 (A7:Hid (∀n a c d f W,F n a c d f W->F n a c d f (W.setCell ⟨l,0,none⟩ (bV true))))
 (A0:Hid (∀n a c d f W,F n a c d f W->Calls yP 56 #[pV (qA n)] W fun e w'=>lO e/\Z w')):
 Calls yP 26 #[pV (qA s),pV (qA rb)] w fun e w'=>bE e/\Hid (Z w'):=by
 obtain⟨c1,o⟩:=Q.out _ B2.out;have t:=aa (X.out _ B2.out);go_enter func26,ntmps26
 go_wp2_with fail
 refine t.out.mono ?_;rintro e w1 ⟨⟨r1,rfl,_⟩,B6⟩;have C1:=aa (A1.out _ B6);clear t c1 o B2;obtain⟨c1,o⟩:=Q.out _ B6;clear B6;go_wp2_with fail
 refine C1.out.mono ?_;rintro e w2 ⟨⟨r2,rfl,h32⟩,B7⟩;have D5:=aa h32;have t:=aa (Y.out _ B7);clear C1 c1 o h32;obtain⟨c1,_,o⟩:=R.out _ B7;clear B7;go_wp2_with fail
 refine t.out.mono ?_;rintro e w3 ⟨⟨r3,rfl,_⟩,B8⟩;have C3:=aa (A3.out _ _ B8 D5.out);clear t c1 o;obtain⟨_,c0,o⟩:=R.out _ B8;clear B8;go_wp2_with fail
 refine C3.out.mono ?_;rintro e w4 ⟨n,rfl,B9⟩;have B4:=aa (A8.out _ _ B9);have B3:=aa B9;clear C3 c0 o B9;have E0:(r1.toList == r2.toList)=false\/((r1.toList == r2.toList)=true/\(r3.toList == r2.toList)=false)\/((r1.toList == r2.toList)=true/\(r3.toList == r2.toList)=true):=by
  cases (r1.toList == r2.toList)<;>cases (r3.toList == r2.toList)<;>simp
 rcases E0 with h1|⟨h1,h2⟩|⟨h1,h2⟩
 ·have C9:(r1.toList != r2.toList)=true:=by rw[bne,h1];rfl
  go_wp2_with fail
  go_ret
  exact⟨⟨false,rfl⟩,B4⟩
 ·have C9:(r1.toList != r2.toList)=false:=by rw[bne,h1];rfl
  have D7:(r3.toList != r2.toList)=true:=by rw[bne,h2];rfl
  go_wp2_with fail
  go_ret
  exact⟨⟨false,rfl⟩,B4⟩
 ·have C9:(r1.toList != r2.toList)=false:=by rw[bne,h1];rfl
  have D7:(r3.toList != r2.toList)=false:=by rw[bne,h2];rfl
  obtain⟨c4,o⟩:=A4.out _ _ B3.out;obtain⟨a5,n5,c5,w5,D4,C0⟩:=C8.out _ _ B3.out;have C7:=aa D4;obtain⟨⟨k1,u⟩,b0,b2,b5,E4⟩:=A5.out _ _ _ C0;obtain⟨q,j,w',d,f,hr,⟨⟨kv,E5,E6,E7⟩,kf,kw⟩,D1⟩:=C4.out _ _ _ C0;have HR:=aa hr;have p:=aa D1;clear hr D4 C0 D1 C4 C8 B3 B4;go_upto_region 9 with(at_builtin;refine jq rfl (.tmp 50) (.tmp 54) 63 rfl _ _ (lV a5 n5 c5) w5 rfl rfl C7.out ?_)
  clear C7 c4 o;go_cut [8] (fun r V=>r=pV (qA n)/\Hid (F n q j d f V))
  case first=>
   clear Q R A4 A5 X A1 Y A3 A8 G T H A6 A2 A7 A0;refine wG 29 (fun w'=>w'.cell? ⟨s,1,none⟩=some (lV L N O)/\w'.cell? ⟨rb,0,none⟩=some (pV (qA z))/\w'.cell? ⟨rb,2,none⟩=some (lV B E C)/\w'.cell? ⟨rb,5,none⟩=some (pV (qA l))) (by kernel_rfl) (by go_keep) (fun D8=>?_);iterate 24 (refine wH (v:=?_) rfl (by kernel_rfl) (fun _ _ _ h=>h) D8 (Or.inl ⟨by rfl,?_⟩) ?_;rotate_left;(intro w D9;(try dsimp only at D9);go_simp;try with_reducible rfl);(try simp only[Act.put,List.setIfInBounds_toArray,List.set_cons_zero,List.set_cons_succ]))
   refine iK rfl (by kernel_rfl) (fun K m=>?_);go_simp
   refine m.out _ _ (fun _=>?s24) ?r24;case s24=>((try dsimp only);go_keep)
   clear m K;refine iK rfl (by kernel_rfl) (fun K m=>?_);go_simp
   refine m.out _ _ (fun _=>?s25) ?r25;case s25=>((try dsimp only);go_keep)
   clear m K;refine iK rfl (by kernel_rfl) (fun K m=>?_);refine xt rfl (.tmp 60) (.tmp 81) 28 rfl (lV L N O) (lV (some ⟨w5.heap.size+1,0,none⟩) 1 1) (lV q M j) w' (by simp[Act.eval]) (by simp[Act.eval]) HR.out ?_;refine m.out _ _ (fun _=>?s26) ?r26;case s26=>((try dsimp only);go_keep)
   clear m K;refine iK rfl (by kernel_rfl) (fun K m=>?_);go_simp
   refine m.out _ _ (fun _=>?s27) ?r27;case s27=>((try dsimp only);go_keep)
   clear m K;refine iK rfl (by kernel_rfl) (fun K m=>?_);go_simp
   refine m.out _ _ (fun _=>?s28) ?r28;case s28=>((try dsimp only);go_keep)
   clear m K;refine iK rfl (by kernel_rfl) (fun K m=>?_);go_simp
   refine m.out _ _ (fun h=>absurd rfl h) ?r29;clear m K;refine wI (by kernel_rfl) ?_ _;go_wp2_with fail
   go_meet
   exact⟨rfl,p⟩
  case rest=>
   obtain⟨rfl,C5⟩:=hcut;clear HR p k1 u b0 b2 b5 E4 kv E5 E6 E7 kf kw;generalize wc=w6 at*;go_wp2_with fail
   go_loopg [11] M (fun g r wr=>∃i:Nat,g=M - i/\i<=M/\r=iV .i64 i/\Hid (F n q j d f wr))
   case atStart=>exact⟨0,rfl,by omega,rfl,C5⟩
   case round=>
    obtain⟨i,hg,hi,rfl,p⟩:=hrel;have HG:=aa hg;clear hg C5;generalize gk=GK at*;obtain⟨⟨c0,u⟩,⟨b5,o⟩,⟨y,d0⟩,f0,P⟩:=G.out _ _ _ _ _ _ p.out;by_cases B1:i<M
    ·have E1:(i:Int)<(M:Int):=by omega
     obtain⟨g,rfl,B0,e0,A9,e5⟩:=T.out _ _ _ _ _ _ i p.out B1;by_cases D3:f i=l
     ·have E3:(binOp BinOp.eql 59 (pV (qA l)) (pV (qA l))).run yP wr.drew=.ok (bV true) wr.drew:=Kz l _;rw[D3] at e5;go_upto_region 13 with fail
      go_cut [108] from 85 to 123 (fun v V=>v=bV true/\∃k,V=wr.drewN k)
      case first=>
       clear Q R A4 A5 X A1 Y A3 A8 G T H A6 A2 A7 A0 p;go_region
       all_goals
        go_wp2_with fail
        go_meet
        exact⟨by first|rfl|simp,_,rfl⟩
      case rest=>
       obtain⟨rfl,D,rfl⟩:=hcut;have S:=aa (H.out _ _ _ _ _ _ D p.out);clear p E3 c0 u b5 o d0 f0 P e0 A9 e5 B0;generalize wr.drewN D=W2 at*;obtain⟨⟨c0,u⟩,⟨b5,o⟩,⟨y,d0⟩,f0,P⟩:=G.out _ _ _ _ _ _ S.out;obtain⟨g',U,B0,e0,A9,e5⟩:=T.out _ _ _ _ _ _ i S.out B1;injection U with U;injection U with U _;subst U;have C2:=aa (A2.out _ _ _ _ _ _ i S.out B1);clear S;go_wp2_with fail
       refine C2.out.mono ?_;rintro e w8 ⟨⟨b,rfl⟩,D0⟩;have C6:=aa D0;clear D0 C2 c0 u b5 o d0 f0 P e0 A9 e5 B0;obtain⟨⟨c0,u⟩,⟨b5,o⟩,⟨y,d0⟩,f0,P⟩:=G.out _ _ _ _ _ _ C6.out;cases b with
       |true=>
        have E8:=aa (A7.out _ _ _ _ _ _ C6.out);go_wp2_with fail
        go_roundg (M - (i+1))
        case measure=>have:=HG.out;omega
        case rel=>exact⟨i+1,rfl,by omega,by go_num,by assumption⟩
       |false=>
        go_wp2_with fail
        go_roundg (M - (i+1))
        case measure=>have:=HG.out;omega
        case rel=>exact⟨i+1,rfl,by omega,by go_num,by assumption⟩
     ·have E2:(binOp BinOp.eql 59 (pV (some ⟨f i,0,none⟩)) (pV (qA l))).run yP wr.drew=.ok (bV false) wr.drew:=A6.out _ _ _ _ _ _ i (H.out _ _ _ _ _ _ 1 p.out) B1 D3;go_upto_region 13 with fail
      go_cut [108] from 85 to 123 (fun v V=>v=bV false/\∃k,V=wr.drewN k)
      case first=>
       clear Q R A4 A5 X A1 Y A3 A8 G T H A6 A2 A7 A0 p;go_region
       all_goals
        go_wp2_with fail
        go_meet
        exact⟨by first|rfl|simp,_,rfl⟩
      case rest=>
       obtain⟨rfl,D,rfl⟩:=hcut;have S:=aa (H.out _ _ _ _ _ _ D p.out);clear p E2 c0 u b5 o d0 f0 P e0 A9 e5 B0;generalize wr.drewN D=W2 at*;go_wp2_with fail
       go_roundg (M - (i+1))
       case measure=>have:=HG.out;omega
       case rel=>exact⟨i+1,rfl,by omega,by go_num,by assumption⟩
    ·obtain rfl:i=M:=by omega
     have E1:¬(i:Int)<(i:Int):=by omega
     have t:=aa (A0.out _ _ _ _ _ _ p.out);go_wp2_with fail
     refine t.out.mono ?_;rintro e w9 ⟨⟨r9,rfl,_⟩,D2⟩;have D6:=aa D2;clear D2 t c0 u b5 o d0 f0 P;go_wp2_with fail
     go_ret
     exact⟨⟨_,rfl⟩,D6⟩
theorem sd{l w c sb d D N k j}(h:SX l w c sb d D N k j):
 Calls yP 56 #[pV (qA c)] w fun e w'=>lO e/\yW w w':=by
 obtain⟨q,o,p,m,a,_⟩:=h.st;have g:=aa (h.root a.g7);have c1:=(SC.start h).cells.2;have n:=(SC.start h).cells.1;clear h a;go_enter func56,ntmps56
 go_wp2_with fail
 refine g.out.mono ?_;rintro e w1 ⟨r,rfl,h32,b⟩;have i:=aa b;have f:=aa h32;clear b h32;go_wp2_with fail
 go_ret
 exact⟨⟨r,rfl,f.out⟩,i.out⟩
theorem QA{l w R I H}(h:bS l w R I H)(K:aR R.m<=500000)(p:Int)(F:Rg p):
 Calls yP 27 #[pV (qA R.rb),iV .i64 p] w fun e w'=>bE e/\yW w w':=by
 have T:=h.x.bt;have j:=h.y.pm;obtain⟨a,cap,A⟩:=j.form;have i:∀W,yW w W->W.cell? ⟨R.rb,1,none⟩=some (pV (qA R.sp))/\W.cell? ⟨R.rb,2,none⟩=some (lV a R.m.length cap)/\R.rb<W.heap.size:=fun W z=>by
  obtain⟨_,c1,c2,_⟩:=(h.below z).y.cells;rw[A] at c2;exact⟨c1,c2,Q6 (Q0.1 h.y.ah).1 z.size⟩
 have J:=sO R.m;rw[A] at j;refine(Qz w R.rb R.sp a cap R.m.length p (str cw) (R.m.getD 0 iS).addr (by omega) (fun f u W=>∃k,dx w f k u [] W)
  ⟨(i w (Q1 _ _)).2.1,(i w (Q1 _ _)).2.2⟩ ?_ ?_ ?_ ?_ ?_ ?_ ?_ ?_ ?_ ?_).mono ?_
 ·refine(CM T j (by omega) p F).mono ?_;rintro e w1 ⟨G,C,o,B⟩;refine⟨G,C,⟨(i w1 o).2.1,(i w1 o).2.2⟩,B.mono ?_⟩;rintro e w2 ⟨f,h1,h2⟩;exact⟨f,h1,_,h2⟩
 ·rintro f u W ⟨k,h⟩;exact i W h.dh
 ·rintro f W ⟨k,h⟩;exact h.root.mono fun e w' ⟨h1,h2⟩=>⟨h1,k,h2⟩
 ·rintro f W ⟨k,d⟩;exact(sd (h.x.below d.dh)).mono fun e w' ⟨h1,h2⟩=>⟨h1,k,d.below h2⟩
 ·rintro f W ⟨k,d⟩;exact(og W (T.below d.dh)).mono fun e w' ⟨h1,h2⟩=>⟨h1,k,d.below h2⟩
 ·rintro f W ⟨k,d⟩ h0;obtain⟨g,e,E,c0,_⟩:=(j.below d.dh).at_ 0 (R.m.getD 0 iS) (by rw[Q3,QV h0];rfl);exact⟨g,e,E,by rw[Nat.zero_mul] at c0;exact c0⟩
 ·rintro f W ⟨k,d⟩ h0;have D:=j.2 (R.m.getD 0 iS) (by rw[Q3,QV h0];exact RV h0);refine(d.ly _ (by have:=D.addr;unfold maxLen;omega)).mono ?_;rintro e w' ⟨q,s,c,cs,h1,h2,h3⟩;exact⟨q,s,c,cs,h1,h2,_,h3⟩
 ·rintro f v cs W ⟨k,d⟩ t;obtain⟨q,s,w',h1,h2⟩:=((d.box #[sV aX] 9).less (QU _) (List.Sublist.refl _) (bs':=[]) (fun b o=>by cases o)).append 0 (lV (qA W.heap.size) 1 1) [aX] (du.one W aX) (by have:=t.1;simp;omega);exact⟨q,s,w',h1,k,h2⟩
 ·rintro f v cs W ⟨k,d⟩ t;exact(d.Gj T ((t.append (dO.one (x:=aX) (by decide))).mono (by omega))).mono fun e w' ⟨h1,h2⟩=>⟨h1,k,h2⟩
 ·rintro f u W ⟨k,d⟩;have n:=h.below d.dh;obtain⟨_,_,_,_,c4,c5,d0⟩:=n.y.cells;exact(xK c5 c4 d0 (oZ n.y.sn) n.y.ns n.y.sm n.x.bt).mono fun e w' ⟨h1,h2⟩=>⟨h1,k,d.below h2⟩
 ·rintro e w' ⟨h1,f,r,h2⟩;obtain⟨k,h3⟩:=h2.out;exact⟨h1,h3.dh⟩
def fp(rb N:Nat)(Q:bN):bN:=if Q.rb=rb then {Q with N:=N} else Q
theorem rY(rb N:Nat)(Q:bN):kg Q (fp rb N Q):=by unfold fp;split<;>exact⟨rfl,rfl,rfl,rfl⟩
theorem Bf{sb rb N}:∀{rs:List bN} {R},(rs.map bN.rb).Nodup->R∈rs->R.rb=rb->(R.sb=sb->dm sb (rs.map (fp rb N))+R.N=dm sb rs+N)/\(R.sb≠sb->dm sb (rs.map (fp rb N))=dm sb rs)
 |Q::rs,R,hn,hR,e=>by
  rw[List.map_cons,List.nodup_cons] at hn
  have f:dm sb ((Q::rs).map (fp rb N))=(if(fp rb N Q).sb=sb then(fp rb N Q).N else 0)+dm sb (rs.map (fp rb N)):=rfl
  have d:dm sb (Q::rs)=(if Q.sb=sb then Q.N else 0)+dm sb rs:=rfl
  rw[f,d,(rY rb N Q).sb]
  rcases Rh.1 hR with h1|h1
  ·subst h1
   have i:dm sb (rs.map (fp rb N))=dm sb rs:=xk fun P c=>⟨(rY rb N P).sb,by
    unfold fp
    rw[QW fun a=>hn.1 (Rt.2 ⟨P,c,a.trans e.symm⟩)]⟩
   have b:(fp rb N R).N=N:=by unfold fp;rw[QX e]
   rw[i,b]
   refine⟨fun h=>?_,fun h=>?_⟩
   ·rw[QX h,QX h];omega
   ·rw[QW h,QW h]
  ·have g:Q.rb≠rb:=fun a=>hn.1 (Rt.2 ⟨R,h1,e.trans a.symm⟩)
   have b:(fp rb N Q).N=Q.N:=by unfold fp;rw[QW g]
   obtain⟨i1,i2⟩:=Bf (sb:=sb) (N:=N) hn.2 h1 e
   rw[b]
   exact⟨fun h=>by have:=i1 h;omega,fun h=>by rw[i2 h]⟩
theorem Inv.Pb{v l w d}(h:Inv v l w d){R}(j:R∈d.aB){L a b s}(o:fG L a b s d)(G:a<4000000000):
 Calls yP 57 #[pV (qA R.sp)] w fun e w'=>lO e/\∃l' d' n,Inv v l' w' d'/\fG L a b s d'/\gL d d'/\d'.aB=d.aB.map (fp R.rb n)/\d'.rv=d.rv/\d'.bv=d.bv:=by
 have A:=h.rl R j;obtain⟨c1,c2⟩:=o.N j;have I:=o.fN R j;have J:=xj j (rfl:R.sb=R.sb);refine(A.x.Pd (by omega) (by omega)).mono ?_;rintro e w' ⟨C,l',O,F,n,m,r,H,E⟩;refine⟨C,l',_,n,h.Jm j m r.ko r.ls E (f:=fp R.rb n) (fun Q i=>⟨rY _ _ Q,fun D=>?_,fun l w M K u q=>?_⟩) (fun Q i e q=>?_),?_,?_,rfl,rfl,rfl⟩
 ·unfold fp;rw[QW fun g=>D (by rw[mQ h.jv i j g])]
 ·have c:=u.y;unfold fp at q⊢;split
  ·next g=>
   rw[QX g] at q;exact⟨⟨c.ah,c.lb,c.pm,c.lm,c.pb,c.lv,c.sn,c.ls,c.sm,c.tn,c.lt,c.nm,c.nb,c.ns⟩,q⟩
  ·exact u
 ·unfold fp;by_cases g:Q.rb=R.rb
  ·rw[QX g];have:Q=R:=mQ h.jv i j g;subst this;exact r
  ·rw[QW g];exact q
 ·refine⟨by show(d.aB.map _).length<=L;rw[Rr];exact o.len,fun P p=>?_,fun P p=>?_,fun P p=>?_⟩
  ·obtain⟨Q,i,rfl⟩:=Rt.1 p;show(bf d.ps R.sb F (fp R.rb n Q).sb).length+dm (fp R.rb n Q).sb (d.aB.map (fp R.rb n))<=a;rw[(rY _ _ Q).sb];obtain⟨i1,i2⟩:=Bf (sb:=Q.sb) (N:=n) h.jv j rfl;have t:=o.fN Q i;by_cases g:Q.sb=R.sb
   ·rw[g,de];rw[g] at i1 t;have:=i1 rfl;omega
   ·rw[cZ _ _ g,i2 fun k=>g k.symm];exact t
  ·obtain⟨Q,i,rfl⟩:=Rt.1 p;have:=o.hw Q i;unfold fp;split<;>exact this
  ·obtain⟨Q,i,rfl⟩:=Rt.1 p;have:=o.sn Q i;unfold fp;split<;>exact this
 ·exact⟨rfl,rfl,rfl,rfl,fun B z=>cZ _ _ (h.br B z R j)⟩
structure QS(wb:Nat)(d:Dt)(L a b s:Nat)(R:bN)(n M:Nat)(a':Option Addr)(c':Nat)(RB TT:Nat->Nat)(W:World)(l:Nat->Nat)(d2:Dt):Prop where
 inv:Inv wb l W d2
 cn:fG L a b s d2
 same:gL d d2
 rv:d2.rv=lV a' M c'
 len:d2.aB.length=M
 me:∃Q∈d2.aB,Q.rb=R.rb/\Q.tt=R.tt
 new:∃Q∈d2.aB,Q.sp=n
 row:∀i,i<M->∃Q,d2.aB[i]? =some Q/\Q.rb=RB i/\Q.tt=TT i
theorem Inv.BR{b l w d}(h:Inv b l w d):∃ar cr,d.rv=lV ar d.aB.length cr:=by
 obtain⟨a,c,e,_⟩:=dr h.wo.rr;rw[Rr] at e;exact⟨a,c,e⟩
theorem Inv.Cd{m l w d}(h:Inv m l w d){a n c}(e:d.rv=lV a n c){i R}(j:d.aB[i]? =some R):∃g,a=some ⟨g,0,none⟩/\g<w.heap.size/\w.cell? ⟨g,i,none⟩=some (pV (qA R.rb)):=by
 have b:=h.wo.rr;rw[e] at b;obtain⟨o,p,k,_,_,f⟩:=dr b;cases k
 have hi:=(Rb.1 j).1;rcases f with⟨_,h0,_⟩|⟨g,rfl⟩
 ·rw[Rr] at h0;omega
 ·exact⟨g,rfl,(b.lt g rfl).2,dK b rfl i _ (by rw[Rp,j];rfl)⟩
theorem Inv.pU{a l w d}(h:Inv a l w d):w.cell? ⟨a,0,none⟩=some d.bv/\w.cell? ⟨a,1,none⟩=some d.rv/\a<w.heap.size/\w.frozen? ⟨a,0,none⟩=false/\w.frozen? ⟨a,1,none⟩=false:=
 ⟨by rw[Q5 w a 0 _ _ _ h.wo.ah];rfl,by rw[Q5 w a 1 _ _ _ h.wo.ah];rfl,(Q0.1 h.wo.ah).1,Rx w a 0 _ _ h.wo.ah,Rx w a 1 _ _ h.wo.ah⟩
structure oP(wb:Nat)(d:Dt)(L a b s:Nat)(R:bN)(W:World)(l:Nat->Nat)(d1:Dt)(R1:bN):Prop where
 inv:Inv wb l W d1
 cn:fG L a b s d1
 same:gL d d1
 mem:R1∈d1.aB
 iI:kg R R1
 rv:d1.rv=d.rv
 len:d1.aB.length=d.aB.length
 sv:R1.sv=R.sv/\R1.seen=R.seen
 mv:R1.mv=R.mv/\R1.m=R.m
theorem oP.idle{f d L a b s R W e l l' d1 c}(h:oP f d L a b s R W l d1 c)(m:Mv (dT []) l l' W e):oP f d L a b s R e l' d1 c:=⟨h.inv.idle m,h.cn,h.same,h.mem,h.iI,h.rv,h.len,h.sv,h.mv⟩
theorem oP.cells{f d L a b s R W l d1 c}(h:oP f d L a b s R W l d1 c):(W.cell? ⟨R.rb,0,none⟩=some (pV (qA R.sb))/\W.cell? ⟨R.rb,1,none⟩=some (pV (qA R.sp))/\W.cell? ⟨R.rb,2,none⟩=some R.mv/\W.cell? ⟨R.rb,4,none⟩=some R.sv/\W.cell? ⟨R.rb,5,none⟩=some (pV (qA R.tt)))/\R.rb<W.heap.size:=by
 have e:=h.inv.rl c h.mem;obtain⟨c0,c1,c2,c3,c4,c5,_⟩:=e.y.cells;rw[h.iI.rb] at c0 c1 c2 c4 c5;rw[h.iI.sb] at c0;rw[h.iI.sp] at c1;rw[h.iI.tt] at c5;rw[h.mv.1] at c2;rw[h.sv.1] at c4;have:=e.y.ij;rw[h.iI.rb] at this;exact⟨⟨c0,c1,c2,c4,c5⟩,this⟩
structure tO(wb:Nat)(d:Dt)(L a b s:Nat)(R:bN)(n:Nat)(W:World)(l:Nat->Nat)(d1:Dt)(R1:bN)(tw:Nat):Prop where
 p:oP wb d L a b s R W l d1 R1
 x:SX l W n R.sb tw [tw] 1 (d1.us R.sb) (d1.ps R.sb)
 new:∀Q∈d1.aB,Q.sp≠n
theorem tO.idle{g d L a b s R n W e l l' d1 c f}(h:tO g d L a b s R n W l d1 c f)(m:Mv (fun _=>False) l l' W e):tO g d L a b s R n e l' d1 c f:=⟨h.p.idle (m.jb _),h.x.move m id id fun _=>id,h.new⟩
structure QR(wb:Nat)(d:Dt)(L a b s:Nat)(R:bN)(n:Nat)(v:Value)(W:World)(l:Nat->Nat)(d1:Dt)(R1:bN)(tw:Nat):Prop where
 q:tO wb d L a b s R n W l d1 R1 tw
 own:W.ownsRow 3 9 1 v R.seen.length (R.seen.map Value.string)
 aM:∀g,v.ownBlock=some g->l g=pr W.heap.size 0
theorem Pq{A l w d}(h:Inv A l w d){R}(hR:R∈d.aB){L a b s}(hc:fG L a b s d)(ha:a+1<4000000000)(hb:b<=500000)(hL:L<1000000):
 Calls yP 26 #[pV (qA A),pV (qA R.rb)] w fun e w'=>bE e/\∃l' S,Inv A l' w' S/\fG (L+1) (a+1) b s S/\gL d S:=by
 obtain⟨ar,cr,A7⟩:=h.BR;have E5:=hc.len;have hX:=h.rl R hR;obtain⟨am,cm,B4⟩:=hX.y.pm.form;obtain⟨D0,cs,C8,_⟩:=dr hX.y.sn;have D1:∀W l,Inv A l W d->oP A d L a b s R W l d R:=fun W l Y=>⟨Y,hc,gL.refl d,hR,⟨rfl,rfl,rfl,rfl⟩,rfl,rfl,⟨rfl,rfl⟩,⟨rfl,rfl⟩⟩
 have hcut:∀{l:Nat->Nat} {W W':World},yW W W'->Mv (fun _=>False) l (fA l W.heap.size) W W':=fun hb=>Mv.below _ _ hb
 refine(Pp w A R.rb R.sb R.sp R.tt d.aB.length cr (d.aB.length+1) ar am D0 R.m.length cm R.seen.length cs (by omega)
  (fun W=>∃l,Inv A l W d) (fun W=>∃l d1 z,oP A d L a b s R W l d1 z) (fun W=>∃l' S,Inv A l' W S/\fG (L+1) (a+1) b s S/\gL d S)
  (fun n W=>∃l d1 z H,tO A d L a b s R n W l d1 z H) (fun n v W=>∃l d1 z H,QR A d L a b s R n v W l d1 z H)
  (fun n F G V X W=>∃l d2,QS A d (L+1) (a+1) b s R n (d.aB.length+1) F G V X W l d2)
  ⟨l,h⟩ ?_ ?_ ?_ ?_ ?_ ?_ ?_ ?_ ?_ ?_ ?_ ?_ ?_ ?_ ?_ ?_ ?_ ?_).mono ?_
 ·rintro W ⟨l,Y⟩;obtain⟨⟨_,c1,_⟩,hl⟩:=(D1 W l Y).cells;exact⟨c1,hl⟩
 ·rintro W ⟨l,d1,z,I⟩;obtain⟨⟨c0,c1,_⟩,hl⟩:=I.cells;exact⟨c1,c0,hl⟩
 ·rintro n W ⟨l,d1,z,H,f⟩;obtain⟨⟨_,_,_,c4,_⟩,hl⟩:=f.p.cells;rw[C8] at c4;exact⟨c4,hl⟩
 ·rintro n v W ⟨l,d1,z,H,M⟩;obtain⟨⟨c0,_,c2,_,c5⟩,hl⟩:=M.q.p.cells;obtain⟨_,k1,kw,_⟩:=M.q.p.inv.pU;rw[M.q.p.rv,A7] at k1;rw[B4] at c2;exact⟨⟨k1,kw⟩,c0,c2,c5,hl⟩
 ·rintro W ⟨l,Y⟩;exact(sd (Y.rl R hR).x).mono fun e w' ⟨h1,h2⟩=>⟨h1,_,Y.idle ((hcut h2).jb _)⟩
 ·rintro W ⟨l,Y⟩;refine(Y.Pb hR hc (by omega)).mono ?_;rintro e w' ⟨he,l',S,N',A2,D4,E2,C5,E1,_⟩;refine⟨he,l',S,fp R.rb N' R,⟨A2,D4,E2,by rw[C5];exact Rt.2 ⟨R,hR,rfl⟩,rY _ _ R,E1,by rw[C5,Rr],?_,?_⟩⟩
  ·unfold fp;rw[QX rfl];exact⟨rfl,rfl⟩
  ·unfold fp;rw[QX rfl];exact⟨rfl,rfl⟩
 ·rintro W ⟨l,d1,z,I⟩;have u:=(I.inv.rl z I.mem).x;rw[I.iI.sp] at u;exact(sd u).mono fun e w' ⟨h1,h2⟩=>⟨h1,_,d1,z,I.idle ((hcut h2).jb _)⟩
 ·rintro W r ⟨l,d1,z,I⟩ J;have u:=(I.inv.rl z I.mem).x;rw[I.iI.sb] at u;refine(xH u.ko u.ls u.bt u.l3 r J).mono ?_;rintro e w' ⟨n,H,l',he,hn,m,E4⟩;refine⟨n,he,l',d1,z,H,⟨I.idle (m.jb _),E4,fun Q t e'=>?_⟩⟩;have:=kQ (I.inv.ky t).2.2.1;omega
 ·rintro n W ⟨l,d1,z,H,f⟩;exact⟨l,d1,f.p.inv,f.p.cn.mono (by omega) (by omega) (QU _) (QU _),f.p.same⟩
 ·rintro n W ⟨l,d1,z,H,f⟩;have hy:=(f.p.inv.rl z f.p.mem).y;have C7:=hy.sn;rw[f.p.sv.1,f.p.sv.2] at C7;have A6:=hy.ns;rw[f.p.sv.2] at A6;obtain⟨v',w',J,ho,U,D2⟩:=tA W W.heap.size (lV none 0 0) [] (RO _ _ _ _) 3 R.sv R.seen (mP C7) (by simp;omega) (QU _);obtain⟨F,G,rfl,_⟩:=dr ho;have A9:yW W w':=⟨U.os,U.tape,U.output,U.size,fun k hk=>U.block k hk fun e=>by cases e⟩
  rw[C8] at J;have m:Mv (fun _=>False) l (eN l W.heap.size (pr w'.heap.size 0)) W w':=Mv.mR A9 _;refine⟨F,_,G,w',J,_,d1,z,H,f.idle m,?_,fun g D5=>?_⟩
  ·have:=l9 ho (by have:=f.p.inv.bt.size;omega:3<=W.heap.size);rw[SF] at this;exact this
  ·rcases D2 g D5 with k|k
   ·cases k
   ·exact nM k
 ·rintro n v W ⟨l,d1,z,H,M⟩;have mD:Mv (fun _=>False) l l W W.drew:=Mv.tg l W 1 _;have f:=M.q.idle mD;have O:=f.p.inv.rl z f.p.mem;obtain⟨E,D⟩:∃E:bN,E=⟨W.heap.size,R.sb,n,H,R.tt,[H],1,R.mv,R.m,R.mv,R.m,v,R.seen,z.yes⟩:=⟨_,rfl⟩
  have C3:fE W.drew R.mv R.m/\mE l R.mv R.m:=by have h1:=O.y.pm;have h2:=O.y.lm;rw[f.p.mv.1,f.p.mv.2] at h1 h2;exact⟨h1,h2⟩
  have E0:Af l W.drew E (d1.us R.sb) (d1.ps R.sb):=by
   rw[D];have C2:=O.y.nm;have A6:=O.y.ns;have C6:=O.y.sm;rw[f.p.mv.2] at C2;rw[f.p.sv.2] at A6 C6;exact⟨f.x,C3.1,C3.2,cK M.own fun g U=>mD.ah g (M.own.lt g U).2 id,C6,C2,A6,⟨rfl,rfl⟩⟩
  have C9:=O.y.tn;have C1:=O.y.lt;rw[f.p.iI.tt] at C9 C1;have D3:∀C∈d1.ao,C.sb≠R.sb:=fun C hC=>by rw[<-f.p.iI.sb];exact f.p.inv.br C hC z f.p.mem
  obtain⟨F,G,w',J,D7,D8,l',mA,A2⟩:=Dj f.p.inv E0 (by rw[D];rfl) (by rw[D];exact M.aM) (by rw[D];exact C9) (by rw[D];exact C1) (by have:=f.p.len;omega) (by rw[D];exact f.new) ⟨by rw[D];exact D3,by rw[D];exact fun Q t e=>by rw[e];exact⟨rfl,rfl⟩⟩;rw[f.p.len] at J mA A2;rw[f.p.rv,A7] at J;rw[D] at J;simp only at J;rw[B4] at J;have B1:∀(o:Nat) (v:Value),W.cell? ⟨R.rb,o,none⟩=some v->w'.cell? ⟨R.rb,o,none⟩=some v:=fun o v hv=>by
   have C0:=O.y.lb;have A1:=O.y.ij;rw[f.p.iI.rb] at C0 A1;have E3:pr R.rb 0≠pr A 0:=fun e=>dA (by have:=O.kd.1;rw[f.p.iI.rb] at this;exact this) f.p.inv.kw (by decide) (gz e).1
   exact(Rd (w:=W) (D7 R.rb A1 (by rw[C0];exact E3))).trans hv
  obtain⟨⟨c0,_,c2,_,c5⟩,hl⟩:=M.q.p.cells;obtain⟨_,k1,kw,_,kf⟩:=M.q.p.inv.pU;rw[M.q.p.rv,A7] at k1;rw[B4] at c2;have B0:=D8.trans f.p.inv.wo.ah;obtain⟨d2,A0⟩:∃d2,d2=d1.oX E (lV F (d.aB.length+1) G) (d1.us R.sb) (d1.ps R.sb):=⟨_,rfl⟩
  rw[<-A0] at A2;have A4:d2.aB=d1.aB++[E]:=by rw[A0];rfl
  have B7:E.sb=R.sb:=by rw[D]
  have C4:∀x,d2.ps x=d1.ps x:=fun x=>by
   rw[A0];show bf d1.ps E.sb (d1.ps R.sb) x=_;rw[B7];by_cases e:x=R.sb
   ·rw[e,de]
   ·rw[cZ _ _ e]
  have A3:d2.aB.length=d.aB.length+1:=by rw[A4,Q4,Sa,f.p.len]
  refine⟨F,G,w',(fun i=>(d2.aB.map bN.rb).getD i 0),(fun i=>(d2.aB.map bN.tt).getD i 0),J,⟨⟨?_,B1 _ _ c0,B1 _ _ c2,B1 _ _ c5⟩,Rx w' A 1 _ _ B0,(Q0.1 B0).1⟩,l',d2,⟨A2,?_,?_,by rw[A0];rfl,A3,⟨z,by rw[A4];exact Rw _ f.p.mem,f.p.iI.rb,f.p.iI.tt⟩,⟨E,by rw[A4];exact Ru _ (Q2.2 rfl),by rw[D]⟩,fun i hi=>?_⟩⟩
  ·rw[Q5 w' A 1 _ _ _ B0,f.p.rv,A7];rfl
  ·have Z:=f.p.cn;have B3:∀Q∈d2.aB,Q∈d1.aB\/Q=E:=fun Q t=>by
    rw[A4] at t;rcases Re.1 t with h1|h1
    ·exact .inl h1
    ·exact .inr (Q2.1 h1)
   refine⟨by rw[A3];omega,fun Q t=>?_,fun Q t=>?_,fun Q t=>?_⟩
   ·rw[C4,A4,xm];have h1:dm Q.sb [E]<=1:=by
     show(if E.sb=Q.sb then E.N else 0)+0<=1;have:E.N=1:=by rw[D]
     rw[this];split<;>omega
    rcases B3 Q t with t|rfl
    ·have:=Z.fN Q t;omega
    ·have:=Z.fN z f.p.mem;rw[f.p.iI.sb] at this;rw[B7] at h1⊢;omega
   ·rcases B3 Q t with t|rfl
    ·exact Z.hw Q t
    ·have:=(Z.hw z f.p.mem).1;rw[f.p.mv.2] at this;rw[D];exact⟨this,this⟩
   ·rcases B3 Q t with t|rfl
    ·exact Z.sn Q t
    ·have:=Z.sn z f.p.mem;rw[f.p.sv.2] at this;rw[D];exact this
  ·exact f.p.same.trans ⟨by rw[A0];rfl,by rw[A0];rfl,by rw[A0];rfl,by rw[A0];rfl,fun B _=>C4 _⟩
  ·have B2:i<d2.aB.length:=by rw[A3];exact hi
   refine⟨d2.aB[i],QV B2,?_,?_⟩
   ·rw[Q3,Rp,QV B2];rfl
   ·rw[Q3,Rp,QV B2];rfl
 ·rintro n F G V X W ⟨l,d2,c⟩;obtain⟨Q,t,e1,e2⟩:=c.me;have u:=c.inv.rl Q t;obtain⟨_,_,_,_,_,c5,d0⟩:=u.y.cells;obtain⟨_,k1,kw,_⟩:=c.inv.pU;rw[c.rv] at k1;have A1:=u.y.ij;have A3:=u.y.pf;have B9:=Rx W Q.tt 0 _ _ u.y.tn;rw[e1,e2] at c5;rw[e2] at d0 A3 B9;rw[e1] at A1;exact⟨⟨k1,kw⟩,⟨c5,A1⟩,⟨_,d0⟩,B9,A3⟩
 ·rintro n F G V X W i ⟨l,d2,c⟩ hi;obtain⟨Q,t,e1,e2⟩:=c.row i hi;obtain⟨g,U,D6,B8⟩:=c.inv.Cd c.rv t;have u:=c.inv.rl Q (Rv t);obtain⟨_,_,_,_,_,c5,_⟩:=u.y.cells;have A1:=u.y.ij;rw[e1] at B8 c5 A1;rw[e2] at c5;exact⟨g,U,D6,B8,A1,c5⟩
 ·rintro n F G V X W k ⟨l,d2,c⟩;exact⟨l,d2,c.inv.idle (Mv.tg l W k _),c.cn,c.same,c.rv,c.len,c.me,c.new,c.row⟩
 ·rintro n F G V X W i ⟨l,d2,c⟩ hi D9;obtain⟨Q,t,e1,e2⟩:=c.row i hi;obtain⟨P,T,e3,e4⟩:=c.me;have h1:=(c.inv.rl Q (Rv t)).y.tn;have h2:=(c.inv.rl P T).y.tn;rw[e2] at h1;rw[e4] at h2;exact KB D9 h1 h2
 ·rintro n F G V X W i ⟨l,d2,c⟩ hi;obtain⟨Q,t,e1,e2⟩:=c.row i hi;have B6:=Rv t;have u:=c.inv.rl Q B6;rw[<-e1];refine(OU u.y.ah u.y.pb (by have:=(c.cn.hw Q B6).2;omega) u.x.ko u.x.bt).mono ?_;rintro e w' ⟨he,A9⟩;exact⟨he,_,d2,c.inv.idle ((hcut A9).jb _),c.cn,c.same,c.rv,c.len,c.me,c.new,c.row⟩
 ·rintro n F G V X W ⟨l,d2,c⟩;obtain⟨Q,t,e1,e2⟩:=c.me;obtain⟨m,u⟩:=(c.inv.rl Q t).uD true;rw[<-e2];have A8:kg Q {Q with yes:=true}:=⟨rfl,rfl,rfl,rfl⟩
  have A2:=c.inv.oX t A8 (m.mono fun x u=>.inr (.inr u)) u;have Z:=c.cn.put c.inv t A8 (K:=0) (j:=0) (i:=0) (QU _) (QU _) (c.cn.hw Q t).2 (QU _);have A5:∀P∈d2.aB,kg P (fc {Q with yes:=true} P):=fun P T=>xS fun e=>by
   have:P=Q:=mQ c.inv.jv T t e;rw[this];exact A8
  refine⟨l,_,A2,Z,c.same.trans ⟨rfl,rfl,rfl,rfl,fun _ _=>rfl⟩,c.rv,by show(d2.aB.map _).length=_;rw[Rr];exact c.len,?_,?_,fun i hi=>?_⟩
  ·exact⟨_,Rt.2 ⟨Q,t,rfl⟩,by rw[(A5 Q t).rb];exact e1,by rw[(A5 Q t).tt];exact e2⟩
  ·obtain⟨P,T,e⟩:=c.new;exact⟨_,Rt.2 ⟨P,T,rfl⟩,by rw[(A5 P T).sp];exact e⟩
  ·obtain⟨P,T,e3,e4⟩:=c.row i hi;have B5:=Rv T;exact⟨_,by show(d2.aB.map _)[i]? =_;rw[Rp,T];rfl,by rw[(A5 P B5).rb];exact e3,by rw[(A5 P B5).tt];exact e4⟩
 ·rintro n F G V X W ⟨l,d2,c⟩;obtain⟨Q,t,e1⟩:=c.new;have u:=(c.inv.rl Q t).x;rw[e1] at u;exact(sd u).mono fun e w' ⟨h1,h2⟩=>⟨h1,_,d2,c.inv.idle ((hcut h2).jb _),c.cn,c.same⟩
 ·rintro e w' ⟨h1,h2⟩;exact⟨h1,h2.out⟩
theorem Oa{m key}(h:∀p∈m,p.1.size<=1073741824/\p.2.size<=1073741824):(dj m key).size<=1073741824:=by
 induction m with
 |nil=>show(⟨#[]⟩:yB).size<=_;decide
 |cons p m ih=>
  have b:((ae m key).getD ⟨#[]⟩).size<=1073741824:=ih fun q a=>h q (QZ _ a)
  show((ae (p::m) key).getD ⟨#[]⟩).size<=_;unfold ae;split
  ·exact(h p (QY ..)).2
  ·exact b
theorem IP{w}(T:az w){h}(b:iA w h){g f o j m i z A}(y:my w (lV g o j) z)(v:my w (lV f m i) A)(t d:yB)(u:d.size<=1073741824)(s:Bool):
 Calls yP 64 #[sV t,gV #[sV h.addr,iV .i64 h.n,sV h.aj,sV h.code,lV h.sa h.aS.length h.sc],bV s,sV d,lV g o j,lV f m i] w fun e w'=>bE e/\yW w w':=by
 refine(IN w t d h s g f j o i m (fun W=>yW w W/\oN W w.heap.size h) u b.addr b.len
  ⟨(Q1 _ _).alloc (QU _) _,Rl w _⟩
  (fun W B a p=>⟨a.1.trans (p.mono a.1.size),a.2.below p⟩)
  (fun W a=>a.2)
  (fun W x a q=>(iE x (by unfold maxLen;omega) W (T.below a.1)).mono fun e w' ⟨h1,h2⟩=>⟨⟨_,h1,eL _⟩,h2⟩)
  (fun W r k a l=>(tT (y.below a.1) r k (by rw[l];decide) (T.below a.1)).mono fun e w' ⟨⟨c,h1⟩,h2⟩=>⟨⟨_,c,h1,tU _ _ _⟩,h2⟩)
  (fun W r k a l=>(tT (v.below a.1) r k (by rw[l];decide) (T.below a.1)).mono fun e w' ⟨⟨c,h1⟩,h2⟩=>⟨⟨_,c,h1,tU _ _ _⟩,h2⟩)
  (fun W x a q=>O0 W x (by unfold maxLen;omega))
  (fun W a=>(Nm W h.n b.n).mono fun e w' ⟨⟨x,h1,_⟩,h2⟩=>⟨⟨x,h1⟩,h2⟩)
  (fun W a=>(og W (T.below a.1)).mono fun e w' ⟨h1,h2⟩=>⟨⟨_,h1⟩,h2⟩)
  (fun W a=>(mY W h.sv h.aS d (b.at_.below a.1) (by have:=b.len;omega)).mono fun e w' ⟨h1,h2⟩=>⟨⟨_,h1,Oa b.small⟩,h2⟩)
  (fun W x a q=>(Gb W x (by omega)).mono fun e w' ⟨h1,h2⟩=>⟨⟨_,h1⟩,h2⟩)).mono ?_
 rintro e w' ⟨h1,h2⟩;exact⟨h1,h2.out.1⟩
theorem gX.yx{base j v cs}(h:gX base j v cs){W:World}(m:∀b∈j,W.heap[b.1]? =some b.2):du base W v cs/\∀a n c,v=lV a n c->mG W a cs:=by
 have d:=h.own W m;refine⟨mP d,fun a n c e=>?_⟩;intro i p l;obtain⟨o,q,k,_,_,f⟩:=dr d;rw[e] at k;cases k
 have hi:=(Rb.1 l).1;rcases f with⟨_,h0,_⟩|⟨g,rfl⟩
 ·have:cs.length=0:=h0;omega
 ·rw[e] at d;exact⟨g,rfl,(d.lt g rfl).2,dK d rfl i _ (by rw[Rp,l];rfl)⟩
theorem gX.slice{base d v cs}(h:gX base d v cs){W:World}(i:∀b∈d,W.heap[b.1]? =some b.2):∃a c,v=lV a cs.length c:=by
 obtain⟨e,f,g,_⟩:=dr (h.own W i);exact⟨e,f,g⟩
theorem SC.ah{A K e a w}(h:SC A K e a w):∀b∈a,w.heap[b.1]? =some b.2:=by
 obtain⟨l',f,_,_,_,_,c⟩:=h;exact fun b d=>(c b d).1
def QF(A:jF)(s:wu)(W:World):Prop:=∃b1 b2,gX A.w.heap.size b1 (lV s.a1 s.ps.length s.c1) s.ps/\gX A.w.heap.size b2 (lV s.a2 s.qs.length s.c2) s.qs/\SC A 800 [] (b1++b2) W
def rj(A:jF)(s:wu)(W:World):Prop:=∃b1 b2 b3,gX A.w.heap.size b1 (lV s.a1 s.ps.length s.c1) s.ps/\gX A.w.heap.size b2 (lV s.a2 s.qs.length s.c2) s.qs/\gX A.w.heap.size b3 (lV s.a3 s.os.length s.c3) s.os/\SC A 1050 [] (b3++(b1++b2)) W
theorem rj.tx{A s W}(h:rj A s W):mG W s.a1 s.ps/\mG W s.a3 s.os/\(∃b,du b W (lV s.a1 s.ps.length s.c1) s.ps)/\(∃b,du b W (lV s.a2 s.qs.length s.c2) s.qs)/\dO 81 s.ps/\dO 81 s.qs:=by
 obtain⟨b1,b2,b3,h1,h2,h3,d⟩:=h;have c:=d.ah;obtain⟨t1,k1⟩:=h1.yx fun b a=>c b (Ru _ (Rw _ a))
 obtain⟨t2,_⟩:=h2.yx fun b a=>c b (Ru _ (Ru _ a))
 obtain⟨_,k3⟩:=h3.yx fun b a=>c b (Rw _ a)
 exact⟨k1 _ _ _ rfl,k3 _ _ _ rfl,⟨_,t1⟩,⟨_,t2⟩,⟨h1.len,h1.small⟩,⟨h2.len,h2.small⟩⟩
theorem rM{b W v cs n}(h:du b W v cs)(a:dO n cs)(d:n<=4000000000):my W v cs:=⟨h.texts,by have:=a.1;unfold maxLen;omega,fun p c=>by have:=a.2 p c;unfold maxLen;omega⟩
theorem Jy{l w R B z}(h:bS l w R B z)(addr n:yB)(J:addr.size<=1073741824)(Y:n.size<=1073741824)(hN:R.N+2000<4000000000)(hw:aR R.m<=500000):
 Calls yP 28 #[pV (qA R.rb),sV addr,sV n] w fun e w'=>bE e/\dE l w R B z 1050 w':=by
 obtain⟨G,H,M⟩:=h.y.pm.form;obtain⟨A,o⟩:=yX (R.arg l w B z)
 have E:A.sp=R.sp:=by rw[o];rfl
 have A0:A.N=R.N:=by rw[o];rfl
 have F:SC A 0 [] [] w:=by rw[o];exact h.start
 have A1:=sO R.m;have t:∀K W,SC A K [] [] W->(W.cell? ⟨R.rb,1,none⟩=some (pV (qA R.sp))/\W.cell? ⟨R.rb,2,none⟩=some (lV G R.m.length H)/\R.rb<W.heap.size)/\fE W R.mv R.m:=fun K W g=>by
  rw[o] at g;obtain⟨⟨_,c1,c2,_⟩,h2,_⟩:=h.cells g;rw[M] at c2;exact⟨⟨c1,c2,Rj _ _ c1⟩,h2⟩
 have j:∀s W,rj A s W->SC A 1050 [] [] W:=fun s W d=>by
  obtain⟨b1,b2,b3,_,_,_,g⟩:=d;exact g.drop (fun _ h=>h) fun b f=>by cases f
 have X:∀s W C,rj A s W->yW W C->rj A s C:=fun s W C d f=>by
  obtain⟨b1,b2,b3,h1,h2,h3,g⟩:=d;exact⟨b1,b2,b3,h1,h2,h3,g.below f⟩
 refine(Jx w R.rb R.sp G R.m.length H addr n (fun W=>SC A 1050 [] [] W) (QF A) (rj A) (fun x=>x=(bz R.m addr).1)
  ⟨(t 0 w F).1.1,(t 0 w F).1.2.2⟩ (fun W i=>(t _ W i).1) (fun W C i f=>i.below f) X
  (fun s W V=>by obtain⟨b1,b2,_,_,g⟩:=V;exact(g.mono (by omega)).drop (fun _ h=>h) fun b f=>by cases f)
  j (fun s W d=>d.tx) ?_ ?_ ?_ ?_ ?_ ?_ ?_ ?_ ?_ ?_).mono ?_
 ·rw[<-E];refine(Ci F addr n (by unfold maxLen;omega) (by unfold maxLen;omega) (by omega)).mono ?_;rintro e w' ⟨⟨u,v,c,cs,T,b1,b2,k,P,Q,g⟩,_⟩;rw[Rz] at g;obtain⟨a1,c1,rfl⟩:=P.slice fun b f=>g.ah b (Rw _ f)
  obtain⟨a2,c2,rfl⟩:=Q.slice fun b f=>g.ah b (Ru _ f)
  exact⟨⟨a1,c1,cs,a2,c2,T,none,0,[]⟩,c,k,b1,b2,P,Q,g⟩
 ·rintro s W ⟨b1,b2,h1,h2,g⟩;rw[<-E];refine(BN g addr (by unfold maxLen;omega)).mono ?_;rintro e w' ⟨⟨v,c,cs,S,k,O,I⟩,_⟩;obtain⟨a3,c3,rfl⟩:=O.slice fun b f=>I.ah b (Rw _ f)
  exact⟨a3,c3,cs,c,k,b1,b2,S,h1,h2,O,I⟩
 ·intro s W d;have i:=j s W d;obtain⟨l',D',_,_,_,hx,_⟩:=i;rw[<-E];exact sd hx
 ·intro s W d;have i:=j s W d;have q:=(t _ W i).2;rw[<-M];refine(Ej W R.mv R.m addr q (by omega) i.bt).mono ?_;rintro e w' ⟨k,f⟩;exact⟨⟨_,_,k,rfl⟩,f⟩
 ·intro s W r d;obtain⟨_,_,⟨b,t1⟩,_,s1,_⟩:=d.tx;refine(AF (rM t1 s1 (by decide)) r addr (by unfold maxLen;omega) (j s W d).bt).mono ?_;rintro e w' ⟨⟨a,th,c,k,_,_⟩,f⟩;exact⟨⟨_,_,_,_,th,c,k⟩,f⟩
 ·intro s W r d;obtain⟨_,_,⟨b,t1⟩,⟨b2,t2⟩,s1,s2⟩:=d.tx;refine(Ik (rM t1 s1 (by decide)) (rM t2 s2 (by decide)) r addr n (by unfold maxLen;omega) (by unfold maxLen;omega) (j s W d).bt).mono ?_;rintro e w' ⟨⟨x,c,k,_⟩,f⟩;exact⟨⟨x,c,k⟩,f⟩
 ·rintro s W x d rfl;have q:=kI (addr:=addr) (t _ W (j s W d)).2 J;exact(mY W (bz R.m addr).1.sv (bz R.m addr).1.aS n q.at_ (by have:=q.len;omega)).mono fun e w' ⟨h1,h2⟩=>⟨⟨_,h1⟩,h2⟩
 ·rintro s W r x ok d rfl;have q:=kI (addr:=addr) (t _ W (j s W d)).2 J;obtain⟨_,_,⟨b,t1⟩,⟨b2,t2⟩,s1,s2⟩:=d.tx;exact IP (j s W d).bt q (rM t1 s1 (by decide)) (rM t2 s2 (by decide)) r n Y ok
 ·intro s W v cs b d Z L;exact(oh W v cs Z.texts (by have:=L.1;omega) (fun p D=>by have:=L.2 p D;unfold maxLen;omega) (j s W d).bt).mono fun e w' ⟨h1,h2⟩=>⟨⟨_,h1⟩,h2⟩
 ·intro W i;have U:SC (R.arg l w B z) 1050 [] [] W:=by rw[<-o];exact i
  obtain⟨⟨_,_,_,_,c4,c5,d0⟩,_,_,D⟩:=h.cells U;exact xK c5 c4 d0 D h.y.ns h.y.sm i.bt
 ·rintro e w' ⟨h1,h2⟩;have h3:SC (R.arg l w B z) 1050 [] [] w':=by rw[<-o];exact h2.out
  exact⟨h1,h.done h3 (QU _)⟩
end Go.Proofs.YtiimkkahmpmhdaaGreatDoor
