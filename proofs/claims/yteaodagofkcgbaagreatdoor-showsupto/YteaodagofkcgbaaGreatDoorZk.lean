import Derived.Test.YteaodagofkcgbaaGreatDoorZg
import Derived.Test.YteaodagofkcgbaaGreatDoorZh
import Derived.Test.YteaodagofkcgbaaGreatDoorZj
open Go.Proofs.Tryz
open Go.Proofs.Tryz renaming prog→yP
open Go.Value renaming string→sV,pointer→pV,int→iV,slice→lV,bool→bV,tuple→tV,agg→gV
open Go.Ending renaming returned→rV
namespace Go.Proofs.YteaodagofkcgbaaGreatDoor
open Go.RowKit
set_option maxRecDepth 100000
set_option maxHeartbeats 0
set_option linter.all false
def iK(W:World)(n:Nat)(k x y z:Int)(s t:yB):Prop:=W.heap[n]? =some (.cells #[iV .i64 k,iV .i64 x,iV .i64 y,iV .i64 z,sV s,sV t] 33 (0,0))
def iK.new(w:World)(k x y z:Int)(s t):iK (w.alloc (.cells #[i6 k,i6 x,i6 y,i6 z,sV s,sV t] 33)) w.heap.size k x y z s t:=UG w _
def iK.lt{W n}{k x y z:Int}{s t}(h:iK W n k x y z s t):n<W.heap.size:=(Um.1 h).1
def iK.cells{W n}{k x y z:Int}{s t}(h:iK W n k x y z s t):W.cell? ⟨n,0,none⟩=some (i6 k)/\W.cell? ⟨n,1,none⟩=some (i6 x)/\W.cell? ⟨n,2,none⟩=some (i6 y)/\W.cell? ⟨n,3,none⟩=some (i6 z)/\W.cell? ⟨n,4,none⟩=some (sV s)/\W.cell? ⟨n,5,none⟩=some (sV t):=
 ⟨by rw[Ur W _ 0 _ _ _ h];rfl,by rw[Ur W _ 1 _ _ _ h];rfl,by rw[Ur W _ 2 _ _ _ h];rfl,by rw[Ur W _ 3 _ _ _ h];rfl,by rw[Ur W _ 4 _ _ _ h];rfl,by rw[Ur W _ 5 _ _ _ h];rfl⟩
def iK.mv{T l l' W a n}{k x y z:Int}{s t}(h:iK W n k x y z s t)(b:l n=0)(m:Mv T l l' W a)(h0:¬T 0):iK a n k x y z s t:=(m.kept h.lt b h0).trans h
def iK.below{W a n}{k x y z:Int}{s t}(h:iK W n k x y z s t)(b:yW W a):iK a n k x y z s t:=(b.block _ h.lt).trans h
def Ib(G:yB->Option yB){t}(a:aA t 0)(key):aA (bE G t key) 0:=by
 unfold bE;split
 .exact a
 exact(wG G _ t (aD key) 0 false a (b8 key)).1
def QM{l L w B S U R vs j}(h:Bk l L w B S)(f:cI l L w B.sb B.hb U R vs j)(D:L.ok)(T:aB w)(A7:∀k,k<3->l k=0)(k x y z:Int)(key t:yB)(s:key.size<=maxLen)(ht:t.size<=1073741824)(hy:Rg y)(hz:Rg z):yC 21 #[pV (qA B.bb),jb k x y z key t] w λe w'=>∃b,e=rV (bV b)/\(fJ l L w {B with t:=bE (ah j) B.t key} w'\/fJ l L w {B with t:=bE (ah j) (bE (ah j) B.t key) key} w'):=by
 let⟨n,K⟩:=yX (w.alloc (.cells #[i6 k,i6 x,i6 y,i6 z,sV key,sV t] 33));have A4:yW w n:=by rw[K];exact(Un _ _).alloc (Ug _) _
 have A0:iK n w.heap.size k x y z key t:=by rw[K];exact iK.new w k x y z key t
 have m0:=Mv.below (λ_=>False) l A4;have h0:=h.move m0 id id id;have f0:=f.move m0 id id;have V:aB n:=T.mv m0 λ_ _ h=>h
 have A2:gv l w.heap.size w.heap.size=0:=ou (Ug _);have Z:∀k,k<3->gv l w.heap.size k=0:=λk s=>by have:=T.size;rw[kH (by omega)];exact A7 k s
 have B0:∀g,B.mv.ownBlock=some g->g<n.heap.size:=λg N=>(h0.pm.lt g N).2
 have A9:∀g,B.bv.ownBlock=some g->g<n.heap.size:=λg N=>(h0.pb.lt g N).2
 generalize hl:gv l w.heap.size=l0 at*;have H:=D.apart.2.2;have F:∀{l1:Nat->Nat} {W:World},Mv (λx=>x=L.tr\/x=L.bk) l0 l1 n W->aB W:=λm=>V.mv m λk s Y=>by rw[Z k s] at Y;exact H Y
 let⟨A5,A6⟩:=wj (G:=ah j) (Ib (ah j) h.tr.ok key) key;have A1:∀c∈(aQ (ah j) (bE (ah j) B.t key) key).map ae,c.size<=4096:=λc M=>by
  obtain⟨d,hd,rfl⟩:=UO.1 M;rw[aN];exact A6 d hd
 have A8:((aQ (ah j) (bE (ah j) B.t key) key).map ae).length<=81:=by rwa[UM]
 have B2:=Ru w n B.bb B.tb B.hb B.mv U R k x y z key t K h.bk.lt
  (λW=>fJ l0 L n {B with t:=bE (ah j) B.t key} W)
  (λv c W=>gP l0 L n {B with t:=bE (ah j) (bE (ah j) B.t key) key} U R j v c W)
  (cK (ah j) (bE (ah j) B.t key) key:Int) ((aQ (ah j) (bE (ah j) B.t key) key).map ae)
  (ae (bQ (bE (ah j) (bE (ah j) B.t key) key))) (bD B.m key)
  (Gw h0 f0 D V Z key s)
  (λW⟨l1,A,m,C⟩=>by
   let⟨_,c1,_⟩:=C.cells;have r:=A0.mv A2 m H;have md:=Mv.below (λ_=>False) l1 ((Un W.heap.size W).drew);exact⟨c1,r.cells.2.2.2.2.1,⟨_,A,m.trans (md.mono λ_ hx=>hx.elim),C.move md id id id⟩,C.bk.lt,r.lt⟩)
  (λW⟨l1,A,m,C⟩=>by
   refine(C.mq (f0.to D m) D (F m) key s).mono ?_;rintro e w'⟨v,E,i⟩;obtain⟨a,cap,Q,_⟩:∃a cap,v=lV a ((aQ (ah j) (bE (ah j) B.t key) key).map ae).length cap/\True:=by
    let⟨_,_,_,_,o⟩:=id i;let⟨a,cap,e,_⟩:=dM o.row;exact⟨a,cap,e,trivial⟩
   exact⟨v,a,cap,Q,E,i.after m B0 A9⟩)
  (λv c W i=>by
   let⟨c1,c2,c4,d0,d1,_⟩:=i.cells;let⟨l1,A,_,_,o⟩:=i;have r:=A0.mv A2 o.mv H;exact⟨⟨c1,c2,c4,d0,d1⟩,⟨r.cells.2.2.1,r.cells.2.2.2.1,r.cells.2.2.2.2.1,r.cells.2.2.2.2.2⟩,o.bk.bk.lt,r.lt⟩)
  (λv c W X i C=>i.below C)
  (λW=>Gz key s W)
  (λW c h1 h2 h3=>rS h1 h2 h3 c)
  (λv W i=>by
   let⟨l1,A,_,_,o⟩:=i;let⟨⟨u,h1,h2⟩,h3,_⟩:=o.bk.tr;exact qQ W B.tb _ u _ A h1 h2 h3.aK (F o.mv))
  (λW=>qq z 6 hz (by decide) (by decide) W)
  (λa cap W i=>by
   let⟨_,_,_,_,_,_,O⟩:=i.cells;have B3:bW z 6<6:=ky z 6 (by decide);refine(QL W a cap _ O (bW z 6:Nat) y ⟨by omega,by omega⟩ hy t ht (by omega) A1).mono ?_;rintro e w'⟨v,q,E,hf,h1,h2,h3⟩;let⟨I,J,Q,_⟩:=id hf;subst Q;exact⟨I,J,q,E,hf,h1,h2,h3⟩)
  (λv W I J b q i o h1 h2=>by
   let⟨l1,A,_,_,P⟩:=i;rw[<-yp];exact BK W _ key I J q o.texts (by unfold maxLen;omega) (λp i=>by have:=h2 p i;unfold maxLen;omega) s (F P.mv))
  (λv W X i hW=>by
   let⟨_,_,_,_,_,B1,_⟩:=i.cells;exact og X B.mv B.m key (cM B1 λg _=>by rw[hW]) (by have:=h.nm;omega))
  (λv c W b vq q i o hn=>i.append D b vq q o (by omega))
  (λv q W i h1 h2=>by
   let⟨_,_,_,_,_,_,O⟩:=i.cells;let⟨l1,A,_,_,P⟩:=i;refine pk W v _ O ?_ ?_ (F P.mv)
   .rw[Uq,Uq,Vm];omega
   intro p i;rcases UA.1 i with i|i
   .rcases UA.1 i with i|i
    .have:=A1 p i;unfold maxLen;omega
    have:=h1 p i;unfold maxLen;omega
   rw[Uo.1 i];decide)
  A8
 apply B2.mono;rintro e w'⟨b,E,M⟩;have A3:Mv (λx=>x=L.tr\/x=L.bk) l l0 w n:=m0.mono λ_ hx=>hx.elim
 exact⟨b,E,M.imp (fJ.trans A3) λ⟨_,_,h⟩=>fJ.trans A3 h.to⟩
def fO(b:List Nat)(x:Nat):Prop:=∃a∈b,Of a x
def kV(a:List Nat):¬fO a 0:=λ⟨_,_,h⟩=>mr _ h
def gz{f a b}(h:a∉f):¬fO f (pr a b):=λ⟨c,hc,k⟩=>h (by let⟨d,e⟩:=k;rwa[(fS e).1])
def LF{b a x}(h:a∈b)(k:Of a x):fO b x:=⟨a,h,k⟩
def nM{c a b x}(h:a∈c)(k:x=pr a b):fO c x:=⟨a,h,b,k⟩
def kd(w:World)(a:Nat):Option TypeId:=match w.heap[a]? with
 |some (.cells _ t _)=>some t
 | _=>none
def iQ{w:World}{a cs t z}(h:w.heap[a]? =some (.cells cs t z)):kd w a=some t:=by unfold kd;rw[h]
def df{w a b s t}(h:kd w a=some s)(k:kd w b=some t)(c:s≠t):a≠b:=λe=>by
 rw[e,k] at h
 injection h with h
 exact c h.symm
def fD(B:eO):jG:=⟨pr B.sb 0,pr B.hb 0,pr B.tb 0,pr B.bb 0⟩
def fv.kd{w sb c b}(h:fv w sb c b):kd w sb=some 71:=by
 let⟨d,a,_⟩:=h.st;exact iQ a.ai
def Bk.kd{l L w B S}(h:Bk l L w B S):kd w B.bb=some 47/\kd w B.tb=some 75:=by
 let⟨u,h1,_⟩:=h.tr.at_;exact⟨iQ h.bk,iQ h1⟩
def cI.kd{l L w sb a e c d b}(h:cI l L w sb a e c d b):kd w sb=some 71/\kd w a=some 44:=⟨h.st.kd,iQ h.hu⟩
structure fI(q:Prop)(l:Nat->Nat)(w:World)(R:aV)(us:Nat->Value)(ps:List (yB×yB)):Prop where
 y:iy l w R
 x:SX l w R.sp R.sb R.tw R.D R.N us ps ⟨R.de/\q,gN R.base⟩ (fun X _=>R.de/\q->Wd ⟨R.de/\q,gN R.base⟩ ps R.tw X (bG R.m) gK)
 k:R.de->iM R.seen R.m/\iM R.seen R.base
def fI.eq{q:Prop}{l w R b a}(c:q):fI q l w R b a↔dh l w R b a:=by
 have e:(R.de/\q)=R.de:=propext (and_iff_left c);constructor
 .rintro ⟨y,x,k⟩;rw[e] at x;exact⟨⟨y,x⟩,k⟩
 rintro ⟨⟨y,x⟩,k⟩;refine⟨y,?_,k⟩;rwa[e]
def fI.kY{q:Prop}{l w R b a}(h:fI q l w R b a)(c:q):dh l w R b a:=(fI.eq c).1 h
def dh.vU{l w R b a}(h:dh l w R b a):fI True l w R b a:=(fI.eq trivial).2 h
def fI.not{q:Prop}{l w}{R a:aV}{d c k P}(x:SX l w R.sp R.sb R.tw R.D R.N d c k P)(f:gN a.base=k.B)(y:iy l w a)(e:a.sp=R.sp/\a.sb=R.sb/\a.tw=R.tw/\a.D=R.D/\a.N=R.N)(b:¬a.de):fI q l w a d c:=by
 let⟨e1,e2,e3,e4,e5⟩:=e;refine⟨y,?_,λh=>absurd h b⟩;rw[e1,e2,e3,e4,e5];exact(x.kn (k':=⟨a.de/\q,gN a.base⟩) f λh=>absurd h.1 b).ev λ_ _ _ h=>absurd h.1 b
def fI.kd{q:Prop}{l w R c b}(h:fI q l w R c b):kd w R.rb=some 65/\kd w R.tt=some 61/\kd w R.sp=some 98/\kd w R.sb=some 71:=by
 let⟨g,e,f,d,X,a,_⟩:=h.x.st;exact⟨iQ h.y.ai,iQ h.y.tn,iQ a.ai.ai,h.x.jw.kd⟩
structure Dt where
 aC:List eO
 ao:List aV
 bv:Value
 rv:Value
 yes:Nat->Bool
 dW:Nat->Bool
 us:Nat->Nat->Value
 ps:Nat->List (yB×yB)
 w0:World
structure JU(w0:World)(l:Nat->Nat)(w:World):Prop where
 l3:∀k,k<3->l k=0
 lo:∀k,k<w0.heap.size->l k=0
 eG:yW w0 w
def oA(B:eO):Value:=pV (qA B.bb)
def mi(R:aV):Value:=pV (qA R.rb)
structure Wo(wb:Nat)(l:Nat->Nat)(w:World)(bv rv:Value)(bs rs:List Value):Prop where
 ai:w.heap[wb]? =some (.cells #[bv,rv] 30 (0,0))
 lw:l wb=pr wb 0
 rb:w.ownsRow 3 41 1 bv bs.length bs
 rP:∀g,bv.ownBlock=some g->l g=pr wb 0
 rr:w.ownsRow 3 58 1 rv rs.length rs
 rO:∀g,rv.ownBlock=some g->l g=pr wb 0
def Wo.move{c l l' w w' e f d rs T}(h:Wo c l w e f d rs)(m:Mv T l l' w w')(b:¬T (pr c 0)):Wo c l' w' e f d rs:=
 {ai:=(m.kept (Um.1 h.ai).1 h.lw b).trans h.ai
  lw:=(m.bt _ (Um.1 h.ai).1).trans h.lw
  rb:=cM h.rb λg a=>m.kept (h.rb.lt g a).2 (h.rP g a) b
  rP:=λg a=>(m.bt g (h.rb.lt g a).2).trans (h.rP g a)
  rr:=cM h.rr λg a=>m.kept (h.rr.lt g a).2 (h.rO g a) b
  rO:=λg a=>(m.bt g (h.rr.lt g a).2).trans (h.rO g a)}
structure dq(q:Nat->Prop)(wb:Nat)(l:Nat->Nat)(w:World)(d:Dt):Prop where
 wo:Wo wb l w d.bv d.rv (d.aC.map oA) (d.ao.map mi)
 bk:∀B∈d.aC,∃S,Bk l (fD B) w B S
 cP:∀B∈d.aC,cI l (fD B) w B.sb B.hb (d.yes B.hb) (d.dW B.hb) (d.us B.sb) (d.ps B.sb)
 rl:∀R∈d.ao,fI (q R.rb) l w R (d.us R.sb) (d.ps R.sb)
 nY:(d.aC.map eO.bb).Nodup
 nV:(d.aC.map eO.tb).Nodup
 jc:(d.ao.map aV.rb).Nodup
 nW:(d.ao.map aV.sp).Nodup
 hs:∀B∈d.aC,∀C∈d.aC,B.hb=C.hb↔B.sb=C.sb
 br:∀B∈d.aC,∀R∈d.ao,B.sb≠R.sb
 rt:∀P∈d.ao,∀R∈d.ao,P.sb=R.sb->P.tt=R.tt
 bz:aB w
 pins:JU d.w0 l w
abbrev Inv(a:Nat)(l:Nat->Nat)(w:World)(d:Dt):Prop:=dq (λ_=>True) a l w d
def dq.l3{q a l w d}(h:dq q a l w d):∀k,k<3->l k=0:=h.pins.l3
def mu{α:Type}{f:α->Nat}:∀{c:List α},(c.map f).Nodup->∀{a b:α},a∈c->b∈c->f a=f b->a=b:=by
 intro c;induction c with
 |nil=>intro _ a b d;cases d
 |cons x c ih=>
  intro h a b d g e;rw[List.map_cons,List.nodup_cons] at h;rcases UC.1 d with e1|h1
  .rcases UC.1 g with e2|h2
   .rw[e1,e2]
   exact absurd (show f x∈c.map f from UO.2 ⟨b,h2,by rw[<-e,e1]⟩) h.1
  rcases UC.1 g with e2|h2
  .exact absurd (show f x∈c.map f from UO.2 ⟨a,h1,by rw[e,e2]⟩) h.1
  exact ih h.2 h1 h2 e
section
variable {q : Nat → Prop} {wb : Nat} {l l' : Nat → Nat} {w w' : World} {d : Dt} {As : List Nat}
def dq.pf(h:dq q wb l w d){B}(b:B∈d.aC):(fD B).ok:=by
 let⟨S,c⟩:=h.bk B b;have f:=h.cP B b;let⟨k1,k2⟩:=c.kd;let⟨k3,k4⟩:=f.kd;have a:∀{x y:Nat},x≠y->pr x 0≠pr y 0:=λh e=>h (fS e).1
 exact⟨⟨iu _ _,iu _ _,iu _ _,iu _ _⟩,⟨a (df k3 k4 (by decide)),a (df k3 k2 (by decide)),a (df k3 k1 (by decide)),a (df k4 k2 (by decide)),a (df k4 k1 (by decide)),a (df k2 k1 (by decide))⟩⟩
def dq.kw(h:dq q wb l w d):kd w wb=some 30:=iQ h.wo.ai
def dq.qH(h:dq q wb l w d)(m:Mv (fO As) l l' w w'){B}(a:B∈d.aC)(h1:B.bb∉As)(h2:B.tb∉As):∃S,Bk l' (fD B) w' B S:=by
 let⟨S,b⟩:=h.bk B a;exact⟨S,b.move m (kV _) (gz h1) (gz h2)⟩
def dq.qB(h:dq q wb l w d)(m:Mv (fO As) l l' w w'){B}(a:B∈d.aC)(h1:B.sb∉As)(h2:B.hb∉As):cI l' (fD B) w' B.sb B.hb (d.yes B.hb) (d.dW B.hb) (d.us B.sb) (d.ps B.sb):=(h.cP B a).move m (gz h1) (gz h2)
def fI.o8{q:Prop}{R b a}(h:fI q l w R b a)(m:Mv (fO As) l l' w w')(h1:R.rb∉As)(h2:R.tt∉As)(h3:R.sp∉As)(h4:R.sb∉As):fI q l' w' R b a:=
 ⟨h.y.move m (kV _) (gz h1) (gz h2),h.x.move m (kV _) (gz h4) λ_=>gz h3,h.k⟩
def dq.rest(h:dq q wb l w d)(m:Mv (fO As) l l' w w'):aB w'/\JU d.w0 l' w':=
 ⟨h.bz.mv m λk a b=>by rw[h.l3 k a] at b;exact kV _ b,λk a=>(m.bt k (by have:=h.bz.size;omega)).trans (h.l3 k a),λk a=>(m.bt k (Us a h.pins.eG.size)).trans (h.pins.lo k a),h.pins.eG.trans (m.low h.pins.eG.size λk a b=>by rw[h.pins.lo k a] at b;exact kV _ b)⟩
def dq.iJ(h:dq q wb l w d){B}(a:B∈d.aC):kd w B.bb=some 47/\kd w B.tb=some 75/\kd w B.sb=some 71/\kd w B.hb=some 44:=by
 let⟨S,b⟩:=h.bk B a;exact⟨b.kd.1,b.kd.2,(h.cP B a).kd⟩
def dq.kx(h:dq q wb l w d){R}(a:R∈d.ao):kd w R.rb=some 65/\kd w R.tt=some 61/\kd w R.sp=some 98/\kd w R.sb=some 71:=(h.rl R a).kd
def dq.idle(h:dq q wb l w d)(m:Mv (fO []) l l' w w'):dq q wb l' w' d:=by
 have b:∀a:Nat,a∉([]:List Nat):=λa h=>by cases h
 exact⟨h.wo.move m (gz (b _)),λB c=>h.qH m c (b _) (b _),λB c=>h.qB m c (b _) (b _),λR e=>(h.rl R e).o8 m (b _) (b _) (b _) (b _),h.nY,h.nV,h.jc,h.nW,h.hs,h.br,h.rt,(h.rest m).1,(h.rest m).2⟩
end
def mn(a:List eO)(B:eO):List eO:=a.map λC=>if C.bb=B.bb then B else C
def qi{a B C}(h:C∈mn a B):C=B\/(C∈a/\C.bb≠B.bb):=by
 let⟨D,b,e⟩:=UO.1 h;by_cases k:D.bb=B.bb
 .rw[Uj k] at e;exact .inl e.symm
 rw[Ui k] at e;subst e;exact .inr ⟨b,k⟩
def NB{β:Type}(f:eO->β){a}{B:eO}(h:∀C∈a,C.bb=B.bb->f C=f B):(mn a B).map f=a.map f:=by
 unfold mn;rw[List.map_map];refine Vz λC b=>?_
 show f (if C.bb=B.bb then B else C)=f C;split
 .next k=>exact(h C b k).symm
 rfl
structure vk(B B':eO):Prop where
 bb:B'.bb=B.bb
 sb:B'.sb=B.sb
 tb:B'.tb=B.tb
 hb:B'.hb=B.hb
def vk.bt{B a}(h:vk B a):fD a=fD B:=by unfold fD;rw[h.bb,h.sb,h.tb,h.hb]
def dq.book{q u l l' w w' d}(h:dq q u l w d){B c}(i:B∈d.aC)(hs:vk B c)(m:Mv (λx=>x=(fD B).tr\/x=(fD B).bk) l l' w w'){S'}(A:Bk l' (fD B) w' c S'):dq q u l' w' {d with aC:=mn d.aC c}:=by
 have j:Mv (fO [B.tb,B.bb]) l l' w w':=m.mono λx b=>by
  rcases b with e|e
  .exact nM (Uk ..) e
  exact nM (Ul _ (Uk ..)) e
 let⟨q1,q2,q3,q4⟩:=h.iJ i;have g:∀{x:Nat} {t:TypeId},kd w x=some t->t≠75->t≠47->x∉[B.tb,B.bb]:=λ{x t} k n1 n2 b=>by
  rcases UC.1 b with e|b
  .exact df k q2 n1 e
  rw[Uo] at b;exact df k q1 n2 b
 have F:∀C∈d.aC,C.bb=c.bb->C=B:=λC a e=>mu h.nY a i (e.trans hs.bb)
 have s:∀C∈d.aC,cI l' (fD C) w' C.sb C.hb (d.yes C.hb) (d.dW C.hb) (d.us C.sb) (d.ps C.sb):=λC a=>by
  let⟨_,_,k3,k4⟩:=h.iJ a;exact h.qB j a (g k3 (by decide) (by decide)) (g k4 (by decide) (by decide))
 have p:∀{β:Type} (f:eO->β),f c=f B->(mn d.aC c).map f=d.aC.map f:=λf e=>NB f λC a E=>by rw[F C a E,e]
 refine⟨?_,λC a=>?_,λC a=>?_,λR n=>?_,?_,?_,h.jc,h.nW,λC a D v=>?_,λC a R n=>?_,h.rt,(h.rest j).1,(h.rest j).2⟩
 .have:=h.wo.move j (gz (g h.kw (by decide) (by decide)));rw[<-p oA (by unfold oA;rw[hs.bb])] at this;exact this
 .rcases qi a with rfl|⟨a,r⟩
  .rw[hs.bt];exact⟨S',A⟩
  let⟨k1,k2,_,_⟩:=h.iJ a;refine h.qH j a (λb=>?_) λb=>?_
  .rcases UC.1 b with e|b
   .exact df k1 q2 (by decide) e
   rw[Uo] at b;exact r (by rw[b,hs.bb])
  rcases UC.1 b with e|b
  .exact r (by rw[mu h.nV a i e,hs.bb])
  rw[Uo] at b;exact df k2 q1 (by decide) b
 .rcases qi a with rfl|⟨a,r⟩
  .rw[hs.bt,hs.sb,hs.hb];exact s B i
  exact s C a
 .let⟨k1,k2,k3,k4⟩:=h.kx n;exact(h.rl R n).o8 j (g k1 (by decide) (by decide)) (g k2 (by decide) (by decide)) (g k3 (by decide) (by decide)) (g k4 (by decide) (by decide))
 .show((mn d.aC c).map eO.bb).Nodup;rw[p eO.bb hs.bb];exact h.nY
 .show((mn d.aC c).map eO.tb).Nodup;rw[p eO.tb hs.tb];exact h.nV
 .have e:∀X,X∈mn d.aC c->∃Y∈d.aC,X.hb=Y.hb/\X.sb=Y.sb:=λX o=>by
   rcases qi o with rfl|⟨o,_⟩
   .exact⟨B,i,hs.hb,hs.sb⟩
   exact⟨X,o,rfl,rfl⟩
  let⟨Y,y,y1,y2⟩:=e C a;let⟨Z,z,z1,z2⟩:=e D v;rw[y1,y2,z1,z2];exact h.hs Y y Z z
 rcases qi a with rfl|⟨a,_⟩
 .rw[hs.sb];exact h.br B i R n
 exact h.br C a R n
section
variable {q : Nat → Prop} {wb : Nat} {l l' : Nat → Nat} {w w' : World} {d : Dt}
def Dt.cP(d:Dt)(sb a:Nat)(y t:Bool)(b:Nat->Value)(ps:List (yB×yB)):Dt:={d with yes:=aE d.yes a y,dW:=aE d.dW a t,us:=aE d.us sb b,ps:=aE d.ps sb ps}
def dq.family(h:dq q wb l w d){B}(n:B∈d.aC){y t j i}(m:Mv (λx=>x=(fD B).st\/x=(fD B).hu) l l' w w')(o:cI l' (fD B) w' B.sb B.hb y t j i):dq q wb l' w' (d.cP B.sb B.hb y t j i):=by
 have f:Mv (fO [B.sb,B.hb]) l l' w w':=m.mono λx a=>by
  rcases a with e|e
  .exact nM (Uk ..) e
  exact nM (Ul _ (Uk ..)) e
 let⟨q1,q2,q3,q4⟩:=h.iJ n;have c:∀{x:Nat} {t:TypeId},kd w x=some t->t≠71->t≠44->x∉[B.sb,B.hb]:=λ{x t} k n1 n2 a=>by
  rcases UC.1 a with e|a
  .exact df k q3 n1 e
  rw[Uo] at a;exact df k q4 n2 a
 refine⟨h.wo.move f (gz (c h.kw (by decide) (by decide))),λC b=>?_,λC b=>?_,λR p=>?_,h.nY,h.nV,h.jc,h.nW,h.hs,h.br,h.rt,(h.rest f).1,(h.rest f).2⟩
 .let⟨k1,k2,_,_⟩:=h.iJ b;exact h.qH f b (c k1 (by decide) (by decide)) (c k2 (by decide) (by decide))
 .let⟨_,_,k3,k4⟩:=h.iJ b;by_cases e:C.hb=B.hb
  .have e2:=(h.hs C b B n).1 e;show cI l' (fD C) w' C.sb C.hb (aE d.yes B.hb y C.hb) (aE d.dW B.hb t C.hb) (aE d.us B.sb j C.sb) (aE d.ps B.sb i C.sb);rw[e,e2,cF,cF,cF,cF];have r:(fD C).st=(fD B).st/\(fD C).hu=(fD B).hu:=by unfold fD;rw[e,e2];exact⟨rfl,rfl⟩
   exact⟨o.hu,by rw[r.2];exact o.lh,o.st,by rw[r.1];exact o.ls⟩
  have e2:C.sb≠B.sb:=λk=>e ((h.hs C b B n).2 k)
  show cI l' (fD C) w' C.sb C.hb (aE d.yes B.hb y C.hb) (aE d.dW B.hb t C.hb) (aE d.us B.sb j C.sb) (aE d.ps B.sb i C.sb);rw[cl _ _ e,cl _ _ e,cl _ _ e2,cl _ _ e2];refine h.qB f b (λa=>?_) λa=>?_
  .rcases UC.1 a with g|a
   .exact e2 g
   rw[Uo] at a;exact df k3 q4 (by decide) a
  rcases UC.1 a with g|a
  .exact df k4 q3 (by decide) g
  rw[Uo] at a;exact e a
 let⟨k1,k2,k3,k4⟩:=h.kx p;have e2:R.sb≠B.sb:=λk=>h.br B n R p k.symm
 show fI (q R.rb) l' w' R (aE d.us B.sb j R.sb) (aE d.ps B.sb i R.sb);rw[cl _ _ e2,cl _ _ e2];refine(h.rl R p).o8 f (c k1 (by decide) (by decide)) (c k2 (by decide) (by decide)) (c k3 (by decide) (by decide)) λa=>?_
 rcases UC.1 a with g|a
 .exact e2 g
 rw[Uo] at a;exact df k4 q4 (by decide) a
def lF{w a t}(h:kd w a=some t):a<w.heap.size:=by
 unfold kd at h;by_cases k:a<w.heap.size
 .exact k
 rw[UF (by omega)] at h;cases h
def Dt.book(d:Dt)(B:eO)(bv:Value)(y t:Bool)(b:Nat->Value)(a:List (yB×yB)):Dt:={d.cP B.sb B.hb y t b a with aC:=d.aC++[B],bv:=bv}
def wJ{α:Type}{f:α->Nat}{c:List α}{x:α}(h:(c.map f).Nodup)(k:∀y∈c,f y≠f x):((c++[x]).map f).Nodup:=by
 rw[Vl];refine List.nodup_append.2 ⟨h,by simp,λa d b g e=>?_⟩;obtain⟨y,j,rfl⟩:=UO.1 d;have i:b=f x:=by simpa using g
 exact k y j (e.trans i)
structure lA(R R':aV):Prop where
 rb:R'.rb=R.rb
 sb:R'.sb=R.sb
 sp:R'.sp=R.sp
 tt:R'.tt=R.tt
def kM.JH{R a}(h:kM R a):lA R a:=⟨h.rb,h.sb,h.sp,h.tt⟩
def eL(a Q:aV):aV:=if Q.rb=a.rb then a else if Q.tt=a.tt then {Q with yes:=a.yes} else Q
def oU(rs:List aV)(a:aV):List aV:=rs.map (eL a)
def zo{a Q:aV}(h:Q.rb=a.rb->lA Q a):lA Q (eL a Q):=by
 unfold eL;split
 .next k=>exact h k
 split
 .exact⟨rfl,rfl,rfl,rfl⟩
 exact⟨rfl,rfl,rfl,rfl⟩
def dq.p7(h:dq q wb l w d){R c}(z:R∈d.ao)(hs:lA R c)(L:c.yes=false->R.yes=false)(m:Mv (RT R) l l' w w')(a:fI (q R.rb) l' w' c (d.us R.sb) (d.ps R.sb)):dq q wb l' w' {d with ao:=oU d.ao c}:=by
 have i:Mv (fO [R.sp,R.rb,R.tt]) l l' w w':=m.mono λx a=>by
  rcases a with e|e|e
  .exact LF (Uk ..) e
  .exact nM (by simp) e
  exact nM (by simp) e
 let⟨q1,q2,q3,q4⟩:=h.kx z;have s:∀{x:Nat} {t:TypeId},kd w x=some t->t≠98->t≠65->t≠61->x∉[R.sp,R.rb,R.tt]:=λ{x t} k n1 n2 n3 a=>by
  rcases UC.1 a with e|a
  .exact df k q3 n1 e
  rcases UC.1 a with e|a
  .exact df k q1 n2 e
  rw[Uo] at a;exact df k q2 n3 a
 have p:∀Q∈d.ao,lA Q (eL c Q):=λQ j=>zo λe=>by
  rwa[mu h.jc j z (e.trans hs.rb)]
 have F:∀{β:Type} (f:aV->β),(∀Q∈d.ao,f (eL c Q)=f Q)->(oU d.ao c).map f=d.ao.map f:=λf e=>by
  unfold oU;rw[List.map_map];exact Vz λQ j=>e Q j
 refine⟨?_,λC r=>?_,λC r=>?_,λQ j=>?_,h.nY,h.nV,?_,?_,h.hs,λC r Q j=>?_,λQ j C r=>?_,(h.rest i).1,(h.rest i).2⟩
 .have:=h.wo.move i (gz (s h.kw (by decide) (by decide) (by decide)));rw[<-F mi λQ j=>by unfold mi;rw[(p Q j).rb]] at this;exact this
 .let⟨k1,k2,_,_⟩:=h.iJ r;exact h.qH i r (s k1 (by decide) (by decide) (by decide)) (s k2 (by decide) (by decide) (by decide))
 .let⟨_,_,k3,k4⟩:=h.iJ r;exact h.qB i r (s k3 (by decide) (by decide) (by decide)) (s k4 (by decide) (by decide) (by decide))
 .obtain⟨P,n,rfl⟩:=UO.1 j;show fI (q (eL c P).rb) l' w' (eL c P) (d.us (eL c P).sb) (d.ps (eL c P).sb);rw[(p P n).sb,(p P n).rb];have v:=h.rl P n;let⟨k1,k2,k3,k4⟩:=h.kx n;by_cases e:P.rb=c.rb
  .have:P=R:=mu h.jc n z (e.trans hs.rb);subst this;unfold eL;rwa[Uj e]
  have K:P≠R:=λk=>e (by rw[k,hs.rb])
  have G:P.rb∉[R.sp,R.rb,R.tt]:=λa=>by
   rcases UC.1 a with o|a
   .exact df k1 q3 (by decide) o
   rcases UC.1 a with o|a
   .exact e (by rw[o,hs.rb])
   rw[Uo] at a;exact df k1 q2 (by decide) a
  have I:P.sp∉[R.sp,R.rb,R.tt]:=λa=>by
   rcases UC.1 a with o|a
   .exact K (mu h.nW n z o)
   rcases UC.1 a with o|a
   .exact df k3 q1 (by decide) o
   rw[Uo] at a;exact df k3 q2 (by decide) a
  have J:=s k4 (by decide) (by decide) (by decide);by_cases u:P.tt=c.tt
  .unfold eL;rw[Ui e,Uj u];have H:=v.x.move i (kV _) (gz J) (λ_=>gz I);have b:=v.y;have M:P.yes=R.yes:=by
    have h1:=v.y.tn;have h2:=(h.rl R z).y.tn;rw[u,hs.tt,h2] at h1;injection h1 with h1;injection h1 with h1;injection h1 with h1;injection h1 with h1;injection h1 with h1;exact h1.symm
   have B:iy l' w' {P with yes:=c.yes}:=by
    refine⟨(i.kept b.jm b.lb (gz G)).trans b.ai,(i.bt _ b.jm).trans b.lb,(b.pm.mv b.lm i (kV _)).1,(b.pm.mv b.lm i (kV _)).2,(b.pb.mv b.lv i (kV _)).1,(b.pb.mv b.lv i (kV _)).2,cM b.sn λg A=>i.kept (b.sn.lt g A).2 (b.ls g A) (gz G),?_,b.sm,?_,(i.bt _ b.qj).trans b.lt,b.nm,b.nb,b.ns⟩
    .exact λg A=>(i.bt g (b.sn.lt g A).2).trans (b.ls g A)
    show w'.heap[P.tt]? =_;rw[u];exact a.y.tn
   cases hv:c.yes with
   |true=>rw[hv] at B;exact fI.not H rfl B ⟨rfl,rfl,rfl,rfl,rfl⟩ λh=>by cases h.1
   |false=>
    have:{P with yes:=false}=P:=by rw[show false=P.yes by rw[M,L hv]]
    rw[this];rw[hv,this] at B;exact⟨B,H,v.k⟩
  unfold eL;rw[Ui e,Ui u];refine v.o8 i G (λa=>?_) I J;rcases UC.1 a with o|a
  .exact df k2 q3 (by decide) o
  rcases UC.1 a with o|a
  .exact df k2 q1 (by decide) o
  rw[Uo] at a;exact u (by rw[a,hs.tt])
 .show((oU d.ao c).map aV.rb).Nodup;rw[F aV.rb λQ j=>(p Q j).rb];exact h.jc
 .show((oU d.ao c).map aV.sp).Nodup;rw[F aV.sp λQ j=>(p Q j).sp];exact h.nW
 .obtain⟨P,n,rfl⟩:=UO.1 j;rw[(p P n).sb];exact h.br C r P n
 obtain⟨P,n,rfl⟩:=UO.1 j;obtain⟨D,E,rfl⟩:=UO.1 r;rw[(p P n).sb,(p D E).sb,(p P n).tt,(p D E).tt];exact h.rt P n D E
def Wd.store{k k':Kn}{b L g X m d}(h:Wd k b g X m d)(i:k'.B=k.B)(l:∀c,k.B c->eI (ah (aT b L)) (ae c)=false):Wd k' (aT b L) g X m d:=
 ⟨h.dJ,h.fit,λx a e f=>⟨(h.ld x a e f).1,λj=>by rw[i];exact((h.ld x a e f).2 j).laid l⟩,h.oZ,h.inj,h.tw⟩
def dL(rb N:Nat)(Q:aV):aV:=if Q.rb=rb then {Q with N:=N} else Q
def oQ(rb N:Nat)(Q:aV):lA Q (dL rb N Q):=by unfold dL;split<;>exact⟨rfl,rfl,rfl,rfl⟩
def iy.MJ{l w Q}(a:iy l w Q)(N:Nat):iy l w {Q with N:=N}:=⟨a.ai,a.lb,a.pm,a.lm,a.pb,a.lv,a.sn,a.ls,a.sm,a.tn,a.lt,a.nm,a.nb,a.ns⟩
def lW(d:Dt)(sb:Nat)(q:Prop)(x:Nat):Prop:=(¬∃Q∈d.ao,Q.rb=x/\Q.sb≠sb)->q
def Inv.Ma(h:Inv wb l w d){R}(v:R∈d.ao){z L}(m:Mv (λx=>x=pr R.sb 0) l l' w w')(hs:fv w' R.sb z (aT (d.ps R.sb) L))(W:∀x,cy R.sb z x->l' x=pr R.sb 0)(V:∀c,gh (aT (d.ps R.sb) L) c=true->gh (d.ps R.sb) c=true){f:Nat}{X}{r:yB}(T:R.de->Wd R.kn (d.ps R.sb) R.tw X (bG R.m) gK){p:Prop}(E:∀Q∈d.ao,Q.sb=R.sb->p->Q.de->∀c,gN Q.base c->eI (ah (aT (d.ps R.sb) L)) (ae c)=false)(U:∀k':Kn,k'.B=R.kn.B->(k'.ok->R.kn.ok/\∀c,R.kn.B c->eI (ah (aT (d.ps R.sb) L)) (ae c)=false)->SX l' w' R.sp R.sb R.tw R.D f z (aT (d.ps R.sb) L) k' (λY s=>Y=X/\ae (bQ s)=r)):dq (lW d R.sb p) wb l' w' {d with ao:=d.ao.map (dL R.rb f),us:=aE d.us R.sb z,ps:=aE d.ps R.sb (aT (d.ps R.sb) L)}:=by
 have q:Mv (fO [R.sb]) l l' w w':=m.mono λx G=>nM (Uk ..) G
 let⟨q1,q2,q3,q4⟩:=h.kx v;have o:∀{x:Nat} {t:TypeId},kd w x=some t->t≠71->x∉[R.sb]:=λ{x t} k n1 G=>by
  rw[Uo] at G;exact df k q4 n1 G
 have K:∀{β:Type} (g:aV->β),(∀Q∈d.ao,g (dL R.rb f Q)=g Q)->(d.ao.map (dL R.rb f)).map g=d.ao.map g:=λg e=>by
  rw[List.map_map];exact Vz λQ i=>e Q i
 have n:∀Q,lA Q (dL R.rb f Q):=λQ=>oQ _ _ Q
 refine⟨?_,λC j=>?_,λC j=>?_,λQ i=>?_,h.nY,h.nV,?_,?_,h.hs,λC j Q i=>?_,λQ i C j=>?_,(h.rest q).1,(h.rest q).2⟩
 .have:=h.wo.move q (gz (o h.kw (by decide)));rw[<-K mi λQ i=>by unfold mi;rw[(n Q).rb]] at this;exact this
 .let⟨k1,k2,_,_⟩:=h.iJ j;exact h.qH q j (o k1 (by decide)) (o k2 (by decide))
 .let⟨_,_,k3,k4⟩:=h.iJ j;have M:=h.br C j R v;show cI l' (fD C) w' C.sb C.hb (d.yes C.hb) (d.dW C.hb) (aE d.us R.sb z C.sb) (aE d.ps R.sb _ C.sb);rw[cl _ _ M,cl _ _ M];exact h.qB q j (by simpa using M) (o k4 (by decide))
 .obtain⟨P,b,rfl⟩:=UO.1 i;show fI (lW d R.sb p (dL R.rb f P).rb) l' w' (dL R.rb f P) (aE d.us R.sb z (dL R.rb f P).sb) (aE d.ps R.sb _ (dL R.rb f P).sb);rw[(n P).sb,(n P).rb];let⟨k1,k2,k3,k4⟩:=h.kx b;have A:=(h.rl P b).kY trivial;have N:=A.y.move q (kV _) (gz (o k1 (by decide))) (gz (o k2 (by decide)));by_cases e:P.sb=R.sb
  .rw[e,cF,cF];have F:lW d R.sb p P.rb->p:=λJ=>J λ⟨Q,i,e1,e2⟩=>e2 (by rwa[mu h.jc i b e1])
   by_cases u:P.rb=R.rb
   .have:P=R:=mu h.jc b v u;subst this;unfold dL;rw[Uj rfl];refine⟨N.MJ f,(U ⟨P.de/\lW d P.sb p P.rb,gN P.base⟩ rfl λa=>⟨a.1,E P v rfl (F a.2) a.1⟩).ev λY s I a=>?_,A.k⟩;rw[I.1];exact(T a.1).store rfl (E P v rfl (F a.2) a.1)
   unfold dL;rw[Ui u];have O:=A.x;rw[e] at O;refine⟨N,?_,A.k⟩;rw[e];exact(O.store m hs W V (k':=⟨P.de/\lW d R.sb p P.rb,gN P.base⟩) rfl λa=>⟨a.1,E P b e (F a.2) a.1⟩).ev λY s I a=>(I a.1).store rfl (E P b e (F a.2) a.1)
  rw[cl _ _ e,cl _ _ e];have u:P.rb≠R.rb:=λu=>e (by rw[mu h.jc b v u])
  unfold dL;rw[Ui u];refine(fI.eq ?_).2 ((h.rl P b).o8 q (o k1 (by decide)) (o k2 (by decide)) (o k3 (by decide)) (by simpa using e) |>.kY trivial);exact λJ=>absurd ⟨P,b,rfl,e⟩ J
 .show((d.ao.map (dL R.rb f)).map aV.rb).Nodup;rw[K aV.rb λQ i=>(n Q).rb];exact h.jc
 .show((d.ao.map (dL R.rb f)).map aV.sp).Nodup;rw[K aV.sp λQ i=>(n Q).sp];exact h.nW
 .obtain⟨P,b,rfl⟩:=UO.1 i;rw[(n P).sb];exact h.br C j P b
 obtain⟨P,b,rfl⟩:=UO.1 i;obtain⟨H,S,rfl⟩:=UO.1 j;rw[(n P).sb,(n H).sb,(n P).tt,(n H).tt];exact h.rt P b H S
def Dt.p7(d:Dt)(R:aV)(rv:Value)(us:Nat->Value)(ps:List (yB×yB)):Dt:={d with ao:=d.ao++[R],rv:=rv,us:=aE d.us R.sb us,ps:=aE d.ps R.sb ps}
end
def Q5:(yP.info? 41).map (λi=>(i.zero,i.size,i.bytes))=some (some (Value.pointer none),1,8):=by kernel_rfl
def Q4:(yP.info? 58).map (λi=>(i.zero,i.size,i.bytes))=some (some (Value.pointer none),1,8):=by kernel_rfl
def EE{t e}(c:yP.underlying t=some (.slice e))(hi:(yP.info? e).map (λi=>(i.zero,i.size,i.bytes))=some (some (Value.pointer none),1,8)){W:World}{v}{a:List Value}(o:W.ownsRow 3 e 1 v a.length a)(p)(b:Nat)(l:W.heap[b]? =some (.cells #[.pointer p] e (0,0)))(z:a.length<4000000000)(h3:3<=W.heap.size):∃a' c' w',(Builtin.append_ #[t,t] t #[v,.slice (qA b) 1 1]).run yP W=.ok (.slice a' (a.length+1) c') w'/\w'.ownsRow 3 e 1 (.slice a' (a.length+1) c') (a++[Value.pointer p]).length (a++[Value.pointer p])/\W.grownBy w' v.ownBlock/\∀g,(Value.slice a' (a.length+1) c').ownBlock=some g->v.ownBlock=some g\/g=W.heap.size:=by
 let⟨i0,n,s,w,y⟩:=Vp hi;let⟨g,cap,w',r,q,m,k,_⟩:=run_append_lies (P:=yP) W t t 3 e i0 (Value.pointer none) 1 8 c n s w y rfl (by decide) v a.length a o ⟨b,0,none⟩ 1 1 [Value.pointer p] rfl (λj u c=>by
  have h:(⟨b,0,none⟩:Addr).add j=⟨b,0+j,none⟩:=by unfold Addr.add;split<;>simp_all
  have f:=(Ux.1 c).1;simp at f;subst f;simp at c;subst c;rw[h,Vj,Ur W b 0 _ _ _ l];rfl) (λu c=>by rw[Uo.1 c];rfl) (by decide) (by unfold maxLen;omega) (by omega) h3 W.heap.size rfl
 refine⟨_,cap,w',r,by rwa[Uq],m,λx d=>?_⟩;injection d with d;subst d;exact k
def pZ{w:World}{base e c v n d}(h:w.ownsRow base e c v n d){g}(a:v.ownBlock=some g):kd w g=some e:=by
 rcases h.2 with⟨rfl,_⟩|⟨i,cap,f,rfl,_,b,_⟩
 .cases a
 injection a with a;subst a;exact iQ b
def Wo.NG{a l W o q c rs}(h:Wo a l W o q c rs)(p)(b:Nat)(C:W.heap[b]? =some (.cells #[pV p] 41 (0,0)))(r:c.length<4000000000)(h3:3<=W.heap.size):∃a' f w' l',(Builtin.append_ #[27,27] 27 #[o,lV (qA b) 1 1]).run yP W=.ok (lV a' (c.length+1) f) w'/\Mv (λx=>x=pr a 0) l l' W w'/\w'.heap[a]? =W.heap[a]?/\Mv (λx=>x=pr a 0) l l' W (w'.setCell ⟨a,0,none⟩ (lV a' (c.length+1) f))/\Wo a l' (w'.setCell ⟨a,0,none⟩ (lV a' (c.length+1) f)) (lV a' (c.length+1) f) q (c++[pV p]) rs:=by
 let⟨a',f,w',G,F,j,s⟩:=EE underlying27 Q5 h.rb p b C r h3;have B:a<W.heap.size:=(Um.1 h.ai).1;have A:o.ownBlock≠some a:=λe=>df (pZ h.rb e) (iQ h.ai) (by decide) rfl
 have u:w'.heap[a]? =W.heap[a]? :=j.block a B λe=>A e.symm
 obtain⟨l',y⟩:∃l':Nat->Nat,l'=λk=>if k<W.heap.size then l k else pr a 0:=⟨_,rfl⟩
 have lo:∀k,k<W.heap.size->l' k=l k:=λk n=>by rw[y];simp[n]
 have I:∀k,W.heap.size<=k->l' k=pr a 0:=λk n=>by rw[y];simp[VK.2 n]
 have m:Mv (λx=>x=pr a 0) l l' W w':=⟨j.os,j.tape,j.output,j.size,lo,λk n r=>j.block k n λe=>r (h.rP k e.symm)⟩
 have z:=(lo a B).trans h.lw;have m2:Mv (λx=>x=pr a 0) l' l' w' (w'.setCell ⟨a,0,none⟩ (lV a' (c.length+1) f)):=by
  have:=rk (l:=l') (w:=w') (b:=a) (i:=0) (v:=lV a' (c.length+1) f);rwa[z] at this
 have H:∀g,q.ownBlock=some g->(w'.setCell ⟨a,0,none⟩ (lV a' (c.length+1) f)).heap[g]? =W.heap[g]? :=λg d=>by
  have k1:=pZ h.rr d;have D:=(h.rr.lt g d).2;rw[Uy _ _ _ _ λe=>df k1 (iQ h.ai) (by decide) e];exact j.block g D λe=>df k1 (pZ h.rb e.symm) (by decide) rfl
 have E:∀g,(Value.slice a' (c.length+1) f).ownBlock=some g->g≠a:=λg d e=>by
  rcases s g d with k|k
  .exact A (by rwa[<-e])
  omega
 refine⟨a',f,w',l',G,m,u,m.trans m2,⟨?_,z,cM F λg d=>Uy _ _ _ _ λe=>E g d e,λg d=>?_,cM h.rr H,λg d=>(lo g (h.rr.lt g d).2).trans (h.rO g d)⟩⟩
 .have t:=u.trans h.ai;rw[U7 w' a 0 _ _ (0,0) _ t,Vk w' a _ _ _ _ t];rfl
 rcases s g d with k|k
 .rw[lo g (h.rb.lt g k).2];exact h.rP g k
 exact I g (Nat.le_of_eq k.symm)
def Wo.NF{a l W n o r rs}(h:Wo a l W n o r rs)(p)(b:Nat)(C:W.heap[b]? =some (.cells #[pV p] 58 (0,0)))(q:rs.length<4000000000)(h3:3<=W.heap.size):∃a' d w' l',(Builtin.append_ #[28,28] 28 #[o,lV (qA b) 1 1]).run yP W=.ok (lV a' (rs.length+1) d) w'/\Mv (λx=>x=pr a 0) l l' W w'/\w'.heap[a]? =W.heap[a]?/\Mv (λx=>x=pr a 0) l l' W (w'.setCell ⟨a,1,none⟩ (lV a' (rs.length+1) d))/\Wo a l' (w'.setCell ⟨a,1,none⟩ (lV a' (rs.length+1) d)) n (lV a' (rs.length+1) d) r (rs++[pV p]):=by
 let⟨a',d,w',G,F,f,s⟩:=EE underlying28 Q4 h.rr p b C q h3;have B:a<W.heap.size:=(Um.1 h.ai).1;have A:o.ownBlock≠some a:=λe=>df (pZ h.rr e) (iQ h.ai) (by decide) rfl
 have u:w'.heap[a]? =W.heap[a]? :=f.block a B λe=>A e.symm
 obtain⟨l',y⟩:∃l':Nat->Nat,l'=λk=>if k<W.heap.size then l k else pr a 0:=⟨_,rfl⟩
 have lo:∀k,k<W.heap.size->l' k=l k:=λk j=>by rw[y];simp[j]
 have I:∀k,W.heap.size<=k->l' k=pr a 0:=λk j=>by rw[y];simp[VK.2 j]
 have m:Mv (λx=>x=pr a 0) l l' W w':=⟨f.os,f.tape,f.output,f.size,lo,λk j q=>f.block k j λe=>q (h.rO k e.symm)⟩
 have z:=(lo a B).trans h.lw;have m2:Mv (λx=>x=pr a 0) l' l' w' (w'.setCell ⟨a,1,none⟩ (lV a' (rs.length+1) d)):=by
  have:=rk (l:=l') (w:=w') (b:=a) (i:=1) (v:=lV a' (rs.length+1) d);rwa[z] at this
 have H:∀g,n.ownBlock=some g->(w'.setCell ⟨a,1,none⟩ (lV a' (rs.length+1) d)).heap[g]? =W.heap[g]? :=λg c=>by
  have k1:=pZ h.rb c;have D:=(h.rb.lt g c).2;rw[Uy _ _ _ _ λe=>df k1 (iQ h.ai) (by decide) e];exact f.block g D λe=>df k1 (pZ h.rr e.symm) (by decide) rfl
 have E:∀g,(Value.slice a' (rs.length+1) d).ownBlock=some g->g≠a:=λg c e=>by
  rcases s g c with k|k
  .exact A (by rwa[<-e])
  omega
 refine⟨a',d,w',l',G,m,u,m.trans m2,⟨?_,z,cM h.rb H,λg c=>(lo g (h.rb.lt g c).2).trans (h.rP g c),cM F λg c=>Uy _ _ _ _ λe=>E g c e,λg c=>?_⟩⟩
 .have t:=u.trans h.ai;rw[U7 w' a 1 _ _ (0,0) _ t,Vk w' a _ _ _ _ t];rfl
 rcases s g c with k|k
 .rw[lo g (h.rr.lt g k).2];exact h.rO g k
 exact I g (Nat.le_of_eq k.symm)
def Fp(n:Nat)(a:Int){i j}(hi:i<n)(b:j<n)(h:dY n a i=dY n a j):i=j:=by
 unfold dY at h;split at h
 .omega
 have c:=ky a n (by omega);generalize bW a n=p at*;have e:∀x,x<n->(x+p) % n=if x+p<n then x+p else x+p - n:=λx d=>by
  split
  .exact VH (by omega)
  rw[Nat.mod_eq_sub_mod (by omega)];exact VH (by omega)
 rw[e i hi,e j b] at h;split at h<;>split at h<;>omega
def Fo(n:Nat)(c:Int):∀i,i<=n->((List.range i).map (dY n c)).Nodup
 | 0,_=>by simp
 |i+1,h=>by
  rw[List.range_succ,Vl]
  refine List.nodup_append.2 ⟨Fo n c i (by omega),by simp,λa d b f e=>?_⟩
  obtain⟨x,k,rfl⟩:=UO.1 d
  have g:b=dY n c i:=by simpa using f
  have l:=Vq.1 k
  have:=Fp n c (i:=x) (j:=i) (by omega) (by omega) (e.trans g)
  omega
def LW(f)(a b:List Nat):dy f (a++b)=dy f a+dy f b:=by
 induction a with
 |nil=>show dy f b=0+_;omega
 |cons x r ih=>show f x+dy f (r++b)=f x+dy f r+_;rw[ih];omega
def LV(f g)(a:List Nat):dy f (a.map g)=dy (λx=>f (g x)) a:=by
 induction a with
 |nil=>rfl
 |cons x r ih=>show f (g x)+dy f (r.map g)=_;rw[ih];rfl
def cG:aH:=⟨⟨#[]⟩,0,⟨#[]⟩,⟨#[]⟩,none,0,[]⟩
def mJ(hs:List aH)(j:Nat):Nat:=6000*(1+(hs.getD j cG).az.length)
def Hs:∀(hs:List aH),dy (mJ hs) (List.range hs.length)=6000*bA hs
 | []=>rfl
 |h::t=>by
  have a:=Hs t
  rw[UJ,List.range_succ_eq_map]
  show mJ (h::t) 0+dy (mJ (h::t)) ((List.range t.length).map Nat.succ)=6000*(1+h.az.length+bA t)
  rw[LV]
  have e:(λx=>mJ (h::t) (Nat.succ x))=mJ t:=by funext x;unfold mJ;simp
  have e0:mJ (h::t) 0=6000*(1+h.az.length):=by unfold mJ;simp
  rw[e,e0,a];omega
def rp(hs:List aH)(a:Int)(i:Nat):Nat:=dy (mJ hs) ((List.range i).map (dY hs.length a))
def MH(hs:List aH)(a:Int)(i:Nat):rp hs a (i+1)=rp hs a i+mJ hs (dY hs.length a i):=by
 unfold rp;rw[List.range_succ,Vl,LW];show _+(mJ hs (dY hs.length a i)+0)=_;omega
def Eh(hs:List aH)(a:Int)(i:Nat)(hi:i<=hs.length):rp hs a i<=6000*bA hs:=by
 rw[<-Hs];unfold rp;refine yI _ (Fo hs.length a i hi) ?_;intro x b;obtain⟨y,c,rfl⟩:=UO.1 b;exact Vq.2 (qf _ _ _ (by have:=Vq.1 c;omega))
def MF{A P K b a w}(h:SC A P K b a w)(addr v:yB)(h32:v.size≠32):yC 68 #[pV (qA A.sp),sV addr,sV v] w λe w'=>l4 e/\SC A P (K+500) b a w':=by
 have d:¬(v.size:Int)=32:=by omega
 have c:yH (SC A P (K+500) b a w):=h.mono (by omega);clear h;go_enter func68,ntmps68
 go_wp2;go_ret;exact⟨⟨2,rfl⟩,c.o⟩
def MG{A m K b a w}(h:SC A (Wm A m) K b a w)(addr:yB)(f:addr.size<=maxLen)(v:yB)(d:A.N+K+500<4000000000):yC 68 #[pV (qA A.sp),sV addr,sV v] w λe w'=>l4 e/\SC A (Wm A (sC m addr v)) (K+500) b a w':=by
 unfold sC;by_cases h32:v.size=32
 .rw[Uj h32];exact(zb h addr f v h32 d).mono λ_ _⟨⟨c,h1,_,_,_,h2⟩,_⟩=>⟨⟨c,h1⟩,h2⟩
 rw[Ui h32];exact MF h addr v h32
structure T4(w:World)(sb:Nat)(us:Nat->Value)(ps:List (yB×yB))(k:Kn)(A:fm):Prop where
 k:A.k=k
 sb:A.sb=sb
 us:A.us=us
 ps:A.ps=ps
 n:A.N=1
 fC:∀x,x<w.heap.size->¬Of A.sp (A.l x)
 eG:yW w A.w
 sp:w.heap.size<=A.sp
 lb:∀x,x<w.heap.size->A.l x=0\/A.l x=pr A.sb 0
 po:A.sb<w.heap.size
def kK(w:World)(sb:Nat)(d:Nat->Value)(b:List (yB×yB))(k:Kn)(c:Nat)(M:Mp)(K:Nat)(a:List (Nat×Obj))(W:World):Prop:=∃A,T4 w sb d b k A/\A.sp=c/\SC A (Wm A M) K [] a W
def kK.below{w sb f d k e M K c W}(h:kK w sb f d k e M K c W):yW w W:=by
 let⟨A,a,_,l',g,m,_⟩:=h;refine⟨m.os.trans a.eG.os,m.tape.trans a.eG.tape,m.output.trans a.eG.output,Ut a.eG.size m.size,λk b=>?_⟩;exact(m.kept (Us b a.eG.size) rfl (a.fC k b)).trans (a.eG.block k b)
def kK.step{w sb g f k a M M' K K' c d W b}(h:kK w sb g f k a M K c W)(hs:∀A:fm,A.sp=a->A.N=1->SC A (Wm A M) K [] c W->SC A (Wm A M') K' [] d b):kK w sb g f k a M' K' d b:=by
 let⟨A,e,h1,h2⟩:=h;exact⟨A,e,h1,hs A h1 e.n h2⟩
def kK.calls{w:World}{sb:Nat}{us:Nat->Value}{ps:List (ByteArray×ByteArray)}{k:Kn}{sp:Nat}{M M':Mp}{K K':Nat}{bx:List (Nat×Obj)}{W:World}{f:Nat}{A0:Array Value}{R:Ending->World->Prop}(h:kK w sb us ps k sp M K bx W)(hs:∀A:fm,A.sp=sp->A.N=1->SC A (Wm A M) K [] bx W->Calls Tryz.prog f A0 W λe w'=>R e w'/\SC A (Wm A M') K' [] bx w'):Calls Tryz.prog f A0 W λe w'=>R e w'/\kK w sb us ps k sp M' K' bx w':=by
 let⟨A,hA,h1,h2⟩:=h;exact(hs A h1 hA.n h2).mono λe w'⟨h3,h4⟩=>⟨h3,A,hA,h1,h4⟩
def MO{w W sb d f}(hs:fv w sb d f)(T:aB w)(a:yW w W)(k:Kn):yC 22 #[pV (qA sb),sV (ae bM)] W λe w'=>∃c,e=rV (tV #[pV (qA c),i6 0])/\kK w sb d f k c (λ_=>none) 0 [] w':=by
 classical
 have r:=hs.below a;refine(zd (l:=λx=>if cy sb d x then pr sb 0 else 0) r (λx b=>Uj b) (T.below a) (λk g=>Ui λq=>by have:=hs.m3 k q;omega) (ae bM) (by rw[aN];exact kE _) k [] (λ_=>by rw[nC];unfold bP;rw[Uj rfl];exact⟨o9,.nil,vE,rfl⟩)).mono ?_;rintro e w'⟨c,i,l',o,s,m,b⟩;have n:yW W w':=⟨m.os,m.tape,m.output,m.size,λk g=>m.kept g rfl id⟩
 refine⟨c,o,⟨l',w',c,sb,i,[i],1,d,f,k⟩,⟨rfl,rfl,rfl,rfl,rfl,λx b=>?_,a.trans (n.mono a.size),Ut a.size s,λx b=>?_,hs.st.eM sb (.inl rfl)⟩,rfl,(SC.start b).ev λX _ j _=>by
  rw[j.1];exact⟨λ_=>rfl,(λ_ _ h=>by cases h),(λ_ _ _ h=>by cases h),λ_ _ _=>rfl,(λ_ _ _ h=>by cases h),λ_ h=>by cases h⟩⟩
 .have t:sb<w.heap.size:=hs.st.eM sb (.inl rfl);have p:=m.bt x (Us b a.size);show ¬Of c (l' x);rw[p];split
  .exact lN (by have:=a.size;omega)
  exact mr c
 show l' x=0\/l' x=pr sb 0;rw[m.bt x (Us b a.size)];split
 .exact .inr rfl
 exact .inl rfl
def mj(hs:List aH)(a:Int):Nat->Mp
 | 0=>λ_=>none
 |i+1=>xP a (hs.getD (dY hs.length a i) cG) (mj hs a i)
def Ny{w sb B z}(hs:fv w sb B z)(T:aB w){v f}(o:gw w v f)(R:bA f<=600000)(p:Int)(G:Rg p)(k:Kn):yC 58 #[pV (qA sb),v,i6 p] w λe w'=>∃l,e=rV (pV (qA l))/\kK w sb B z k l (mj f p f.length) (6000*bA f) [] w':=by
 obtain⟨a,cap,rfl⟩:=o.form
 have Q:=uv f
 have E:∀j,j<f.length->f[j]? =some (f.getD j cG):=λj s=>by rw[Up,Uh s];rfl
 have N:∀j,j<f.length->f.getD j cG∈f:=λj s=>UQ (E j s)
 refine(Nx w sb a cap f.length p G (by omega) (λj=>f.getD j cG) (rp f p) (6000*bA f) (mj f p) (λi _=>rfl)
  (λl M K W=>kK w sb B z k l M K [] W)
  (λl n h M K W=>kK w sb B z k l M K [(n,.cells (jD h) 107 (0,0))] W/\h∈f)
  (ph w T)
  (λW I=>MO hs T I k)
  (λW h0=>qq p _ G h0 (by omega) W)
  rfl
  (λi hi=>⟨MH f p i,Eh f p (i+1) hi⟩)
  (λl M K W j t s=>by
   let⟨g,h1,h2,h3⟩:=(o.below t.below).at_ j _ (E j s)
   exact⟨g,h1,h2,h3⟩)
  (λl M K W j t s=>⟨t.step λA _ _ h=>h.box _ _,N j s⟩)
  (λl n h M K K' W b u=>b.1.step λA _ _ h=>(h.mono u).drop (λ_ ht=>ht) λ_ r=>absurd r (Vs))
  (λl n h M K W b=>by
   let⟨A,_,_,q⟩:=b.1
   have r:=q.at_
   have m:=o.2 h b.2
   refine⟨(Um.1 r).1,?_,?_,?_,?_,?_,m.len⟩
   .rw[Ur W _ 0 _ _ _ r];rfl
   .rw[Ur W _ 1 _ _ _ r];rfl
   .rw[Ur W _ 2 _ _ _ r];rfl
   .rw[Ur W _ 3 _ _ _ r];rfl
   rw[Ur W _ 4 _ _ _ r];rfl)
  (λl n h M K W b=>⟨b.1.step λA _ _ h=>h.drew,b.2⟩)
  (λl n h M K W k b u=>by
   have m:=(o.2 h b.2)
   have O:=m.at_.below b.1.below
   have F:h.az[k]? =some h.az[k]:=Uh u
   let⟨g,e,L,c,d⟩:=eH.at_ (a:=h.sa) (cap:=h.sc) O k _ F
   let⟨s1,s2⟩:=m.small _ (Vc u)
   exact⟨g,_,_,e,L,c,d,by unfold maxLen;omega,by unfold maxLen;omega,by rw[Up,F];rfl⟩)
  (λl n h M K W x b C D=>by
   have m:=(o.2 h b.2)
   refine(b.1.calls (K':=K+500) (M':=sN M h.addr x) λA e1 e2 q=>?_).mono λe w'⟨h1,h2⟩=>⟨h1,h2,b.2⟩
   subst e1
   exact(za q h.addr (by have:=m.addr;unfold maxLen;omega) x D (by omega)).mono λ_ _⟨⟨c,h1,_,_,_,h2⟩,_⟩=>⟨⟨c,h1⟩,h2⟩)
  (λl n h M K W b=>(o.2 h b.2).n)
  (λl n h M K W x y b C D P=>by
   have m:=(o.2 h b.2)
   refine(b.1.calls (K':=K+1300) (M':=sS M h.addr x y) λA e1 e2 q=>?_).mono λe w'⟨h1,h2⟩=>⟨h1,h2,b.2⟩
   subst e1
   exact(JO q h.addr x y (by have:=m.addr;unfold maxLen;omega) D P (by omega)).mono λ_ _⟨⟨c,h1,_,_,h2⟩,_⟩=>⟨⟨c,h1⟩,h2⟩)
  (λl n h M K W b C=>by
   have m:=(o.2 h b.2)
   refine(b.1.calls (K':=K+500) (M':=sC M h.addr h.code) λA e1 e2 q=>?_).mono λe w'⟨h1,h2⟩=>⟨h1,h2,b.2⟩
   subst e1
   exact MG q h.addr (by have:=m.addr;unfold maxLen;omega) h.code (by omega))
  (λl n h M K W b C=>by
   have m:=(o.2 h b.2)
   refine(b.1.calls (K':=K+500) (M':=sB M h.addr h.aI) λA e1 e2 q=>?_).mono λe w'⟨h1,h2⟩=>⟨h1,h2,b.2⟩
   subst e1
   exact(zc q h.addr (by have:=m.addr;unfold maxLen;omega) h.aI (by have:=m.aI;unfold maxLen;omega) (by omega)).mono λ_ _⟨⟨c,h1,_,_,_,h2⟩,_⟩=>⟨⟨c,h1⟩,h2⟩)
  (λl n h M K W b=>by
   have H:=T.below b.1.below
   refine(ja fM (by decide) W H).mono ?_
   rintro e w'⟨h1,h2⟩
   exact⟨⟨_,h1,by have:(ag fM).size=32:=dz _;rw[this];decide,rfl⟩,b.1.step λA _ _ h=>h.below h2,b.2⟩)
  (λl n h M K W x b=>by
   have m:=(o.2 h b.2)
   refine(og W h.sv h.az x (m.at_.below b.1.below) (by have:=m.len;omega)).mono ?_
   rintro e w'⟨h1,h2⟩
   exact⟨⟨_,h1,rfl⟩,h2⟩)).mono ?_
 rintro e w'⟨l,J,t⟩
 exact⟨l,J,t.o.step λA _ _ h=>h.mono (Eh f p _ (Ug _))⟩
def LB(a sb:Nat):Nat:=pr (a+sb+1) 7
def Gp(a sb:Nat):¬Of a (LB a sb):=lN (by omega)
def Aj(a sb:Nat):LB a sb≠0:=by have:=iu (a+sb+1) 7;unfold LB;omega
def Gn(a sb:Nat):LB a sb≠pr sb 0:=λe=>by have:=(fS e).1;omega
def Wk(k:Kn)(a:List (yB×yB))(b:Nat)(M:Mp):GP:=λX _=>k.ok->Wd k a b X M gK
def x9(r s:Value×List yB):Prop:=∀g,r.1.ownBlock=some g->s.1.ownBlock≠some g
def x9.symm{r s}(h:x9 r s):x9 s r:=λg a e=>h g e a
structure Ci(w:World)(sb:Nat)(us:Nat->Value)(ps:List (yB×yB))(k:Kn)(M:Mp)(sp N:Nat)(rows:List (Value×List yB))(bs:List (Nat×Obj))(W:World)(l:Nat->Nat)(tw:Nat)(D:List Nat):Prop where
 x:SX l W sp sb tw D N us ps k (Wk k ps tw M)
 eG:yW w W
 qw:w.heap.size<=sp
 po:sb<w.heap.size
 fC:∀x,x<w.heap.size->¬Of sp (l x)/\l x≠LB sp sb
 row:∀r∈rows,W.ownsRow w.heap.size 9 1 r.1 r.2.length (r.2.map Value.string)/\∀g,r.1.ownBlock=some g->l g=LB sp sb
 pw:rows.Pairwise x9
 bx:∀b∈bs,W.heap[b.1]? =some b.2/\l b.1=0
def FX(w:World)(sb:Nat)(e:Nat->Value)(b:List (yB×yB))(k:Kn)(M:Mp)(d N:Nat)(c:List (Value×List yB))(a:List (Nat×Obj))(W:World):Prop:=∃l tw D,Ci w sb e b k M d N c a W l tw D
def FX.fC{w sb e b k M d N c a W}(h:FX w sb e b k M d N c a W):yW w W:=by
 let⟨l,f,D,h⟩:=h;exact h.eG
def FX.texts{w sb f d k M e N a b W}(h:FX w sb f d k M e N a b W){v cs}(c:(v,cs)∈a):dE w.heap.size W v cs:=by
 let⟨l,g,D,h⟩:=h;exact nS (h.row _ c).1
def FX.boxes{w sb g d k M f N e a W}(h:FX w sb g d k M f N e a W):∀b∈a,W.heap[b.1]? =some b.2:=by
 let⟨l,i,D,h⟩:=h;exact λb c=>(h.bx b c).1
def FX.move{w sb o e k M c N q y s W i l l' f D p T}(h:Ci w sb o e k M c N y s W l f D)(m:Mv T l l' W i)(j:∀x,T x->Of c x)(a:SX l' i c sb f p q o e k (Wk k e f M)):Ci w sb o e k M c q y s i l' f p:=by
 have v:∀x,x<w.heap.size->x<W.heap.size:=λx a=>Us a h.eG.size
 refine⟨a,⟨m.os.trans h.eG.os,m.tape.trans h.eG.tape,m.output.trans h.eG.output,Ut h.eG.size m.size,λk n=>(m.kept (v k n) rfl λt=>(h.fC k n).1 (j _ t)).trans (h.eG.block k n)⟩,h.qw,h.po,λx a=>?_,λr A=>?_,h.pw,λb z=>?_⟩
 .rw[m.bt x (v x a)];exact h.fC x a
 .let⟨h1,h2⟩:=h.row r A;exact⟨cM h1 λg d=>m.kept (h1.lt g d).2 (h2 g d) λt=>Gp c sb (j _ t),λg d=>(m.bt g (h1.lt g d).2).trans (h2 g d)⟩
 let⟨h1,h2⟩:=h.bx b z;have u:b.1<W.heap.size:=(Um.1 h1).1;exact⟨(m.kept u h2 λt=>mr c (j _ t)).trans h1,(m.bt _ u).trans h2⟩
def FX.below{w sb g d k M f N e b W a}(h:FX w sb g d k M f N e b W)(c:yW W a):FX w sb g d k M f N e b a:=by
 let⟨l,i,D,h⟩:=h;exact⟨_,i,D,FX.move h (Mv.below (λ_=>False) l c) (λ_ h=>h.elim) (h.x.below c)⟩
def FX.box{w sb g d k M f N e c W}(h:FX w sb g d k M f N e c W)(cs:Array Value)(t):FX w sb g d k M f N e ((W.heap.size,.cells cs t (0,0))::c) (W.alloc (.cells cs t)):=by
 let⟨l,i,D,h⟩:=h;have a:yW W (W.alloc (.cells cs t)):=(Un _ _).alloc (Ug _) _;have h2:=FX.move h (Mv.below (λ_=>False) l a) (λ_ h=>h.elim) (h.x.below a);refine⟨_,i,D,⟨h2.x,h2.eG,h2.qw,h2.po,h2.fC,h2.row,h2.pw,λb a=>?_⟩⟩;rcases UC.1 a with rfl|a
 .exact⟨UG W _,ou (Ug _)⟩
 exact h2.bx b a
def FX.less{w sb j e k M i N a}{f g:List (Value×List yB)}{c bs' W}(h:FX w sb j e k M i N f c W)(q:N<=a)(d:g.Sublist f)(m:∀b∈bs',b∈c):FX w sb j e k M i a g bs' W:=by
 let⟨l,p,D,h⟩:=h;refine⟨l,p,D,⟨?_,h.eG,h.qw,h.po,h.fC,λr o=>h.row r (d.mem o),h.pw.sublist d,λb n=>h.bx b (m b n)⟩⟩;have:=h.x.more (a - N);rwa[show N+(a - N)=a by omega] at this
def FX.swap{w sb f c k M e N r s d b W}(h:FX w sb f c k M e N (r::s::d) b W):FX w sb f c k M e N (s::r::d) b W:=by
 let⟨l,g,D,h⟩:=h;refine⟨l,g,D,⟨h.x,h.eG,h.qw,h.po,h.fC,λx a=>h.row x (by simp only[UC] at a⊢;rcases a with h|h|h;exact .inr (.inl h);exact .inl h;exact .inr (.inr h)),?_,h.bx⟩⟩;have:=h.pw;rw[List.pairwise_cons,List.pairwise_cons] at this⊢;let⟨h1,h2,h3⟩:=this;refine⟨λx a=>?_,λx a=>h1 x (Ul _ a),h3⟩;rcases UC.1 a with rfl|a
 .exact(h1 s (Uk ..)).symm
 exact h2 x a
def gO.mem{base c v cs}(h:gO base c v cs){W:World}(k:∀b∈c,W.heap[b.1]? =some b.2)(g:Nat)(f:v.ownBlock=some g):∃o,(g,o)∈c:=by
 refine Vn λm=>?_
 have n:∀b∈c,b.1≠g:=λb d e=>m ⟨b.2,by rwa[<-e]⟩
 have h2:=h.own {W with heap:=W.heap.setIfInBounds g (.cells #[] 0 (0,0))} λb d=>by
  show(W.heap.setIfInBounds g _)[b.1]? =_;rw[Array.getElem?_setIfInBounds_ne (λe=>n b d e.symm)];exact k b d
 rcases h2.2 with⟨rfl,_⟩|⟨i,cap,j,rfl,_,l,_⟩
 .cases f
 injection f with f;subst f;have a:=l;rw[Array.getElem?_setIfInBounds_self] at a;split at a
 .injection a with a;injection a with _ a;cases a
 cases a
def FX.arg{w sb j i k M d N B p W}(h:FX w sb j i k M d N B p W):∃A:fm,A.sp=d/\A.N=N/\A.w=W/\A.k=k/\SC A (Wm A M) 0 [] [] W/\(∀K c a,SC A (Wm A M) K [] c a->FX w sb j i k M d (N+K) B p a)/\∀K c E a (v) (cs:List yB),SC A (Wm A M) K [] (c++E) a->gO W.heap.size c v cs->FX w sb j i k M d (N+K) ((v,cs)::B) p a:=by
 let⟨l,C,D,h⟩:=h;refine⟨⟨l,W,d,sb,C,D,N,j,i,k⟩,rfl,rfl,rfl,rfl,SC.start h.x,λK c a q=>?_,λK c E a v cs q G=>?_⟩
 .let⟨l',n,m,_,_,z,_⟩:=q;exact⟨l',C,n,FX.move h m (λ_ t=>t) z⟩
 let⟨l',n,m,_,_,z,u⟩:=q;have h2:=FX.move h m (λ_ t=>t) z;have F:=G.own a λb s=>(u b (UR _ s)).1
 have H:∀g,v.ownBlock=some g->l' g=LB d sb:=λg y=>by
  let⟨o,I⟩:=G.mem (λb s=>(u b (UR _ s)).1) g y;exact(u _ (UR _ I)).2.1
 refine⟨l',C,n,⟨h2.x,h2.eG,h2.qw,h2.po,h2.fC,λr f=>?_,?_,h2.bx⟩⟩
 .rcases UC.1 f with rfl|f
  .exact⟨nj F h.eG.size,H⟩
  exact h2.row r f
 refine List.pairwise_cons.2 ⟨λr f g y e=>?_,h2.pw⟩;have h1:=(F.lt g y).1;have h3:=((h.row r f).1.lt g e).2;omega
def FX.append{w sb H G k M d N v cs p u W}(h:FX w sb H G k M d N ((v,cs)::p) u W)(b:Nat)(s)(q:List yB)(L:dE b W s q)(h63:cs.length+q.length<=4200000000000):∃o w',(Builtin.append_ #[63,63] 63 #[v,s]).run yP W=.ok o w'/\FX w sb H G k M d N ((o,cs++q)::p) u w':=by
 let⟨l,Q,D,h⟩:=h;let⟨F,C⟩:=h.row _ (Uk ..);let⟨h1,h2⟩:=List.pairwise_cons.1 h.pw;let⟨o,w',n,K,i,z⟩:=uR W w.heap.size v cs F b s q L h63 h.eG.size;refine⟨o,w',n,?_⟩;obtain⟨l',B⟩:∃l':Nat->Nat,l'=λk=>if k<W.heap.size then l k else LB d sb:=⟨_,rfl⟩
 have lo:∀k,k<W.heap.size->l' k=l k:=λk c=>by rw[B];simp[c]
 have P:∀k,W.heap.size<=k->l' k=LB d sb:=λk c=>by rw[B];simp[VK.2 c]
 have m:Mv (λx=>x=LB d sb) l l' W w':=⟨i.os,i.tape,i.output,i.size,lo,λk c J=>i.block k c λe=>J (C k e.symm)⟩
 have j:=h.x.move m (λe=>Aj d sb e.symm) (λe=>Gn d sb e.symm) (λb e=>Gp d sb ⟨b,e.symm⟩);have E:∀x,x<w.heap.size->x<W.heap.size:=λx j=>Us j h.eG.size
 have O:∀r∈p,∀g,r.1.ownBlock=some g->w'.heap[g]? =W.heap[g]? :=λr n g a=>i.block g ((h.row r (Ul _ n)).1.lt g a).2 λe=>h1 r n g e.symm a
 refine⟨l',Q,D,⟨j,⟨m.os.trans h.eG.os,m.tape.trans h.eG.tape,m.output.trans h.eG.output,Ut h.eG.size m.size,λk c=>(m.kept (E k c) rfl λt=>(h.fC k c).2 t).trans (h.eG.block k c)⟩,h.qw,h.po,λx j=>?_,λr f=>?_,?_,λb I=>?_⟩⟩
 .rw[lo x (E x j)];exact h.fC x j
 .rcases UC.1 f with rfl|f
  .refine⟨K,λg a=>?_⟩;rcases z g a with e|e
   .rw[lo g (F.lt g e).2];exact C g e
   exact P g e
  let⟨k1,k2⟩:=h.row r (Ul _ f);exact⟨cM k1 (O r f),λg a=>(lo g (k1.lt g a).2).trans (k2 g a)⟩
 .refine List.pairwise_cons.2 ⟨λr f g a e=>?_,h2⟩;rcases z g a with y|y
  .exact h1 r f g y e
  have:=((h.row r (Ul _ f)).1.lt g e).2;omega
 let⟨k1,k2⟩:=h.bx b I;have A:b.1<W.heap.size:=(Um.1 k1).1;exact⟨(m.kept A k2 λe=>Aj d sb e.symm).trans k1,(lo _ A).trans k2⟩
def FX.o6{w sb i d k M f N e c W}(h:FX w sb i d k M f N e c W):FX w sb i d k M f N ((lV none 0 0,[])::e) c W:=by
 let⟨l,j,D,h⟩:=h;refine⟨l,j,D,⟨h.x,h.eG,h.qw,h.po,h.fC,λr b=>?_,List.pairwise_cons.2 ⟨(λr _ g a=>by cases a),h.pw⟩,h.bx⟩⟩;rcases UC.1 b with rfl|b
 .exact⟨U8 _ _ _ _,(λg a=>by cases a)⟩
 exact h.row r b
def FX.mq{w sb j g k M b N i d W}(h:FX w sb j g k M b N i d W)(addr:yB)(o:addr.size<=maxLen):yC 59 #[pV (qA b),sV addr] W λe w'=>∃(v:Value)(c:Nat)(cs:List yB),e=rV (tV #[v,i6 c])/\cs.length<=81/\(∀x∈cs,x.size<=4096)/\(addr.size=20->k.ok->c=0/\∀L,uV M L->cs=(aQ bj (aR L 1) (ag addr)).map ae)/\FX w sb j g k M b (N+250) ((v,cs)::i) d w':=by
 let⟨A,e1,e2,e3,e4,m,_,p⟩:=h.arg;subst e1;refine(Ei m addr o).mono ?_;rintro e w'⟨⟨v,c,cs,l,n,a,q,f⟩,_⟩;rw[e3] at a;exact⟨v,c,cs,n,a.len,a.small,λh20 r=>q h20 (by rwa[e4]),p _ l [] w' v cs (by rwa[Vj] at f) a⟩
def FX.zr{w sb n l k M f N m g W}(h:FX w sb n l k M f N m g W)(addr slot:yB)(r:addr.size<=maxLen)(s:slot.size<=maxLen)(B:N+1000<4000000000):yC 60 #[pV (qA f),sV addr,sV slot] W λe w'=>∃(u v:Value)(c:Nat)(cs:List yB),e=rV (tV #[u,v,i6 c])/\cs.length<=81/\(∀x∈cs,x.size<=4096)/\(addr.size=20->slot.size=32->k.ok->cs=(aQ bj (aR (aY M (ag addr)).ss 1) (ag slot)).map ae)/\FX w sb n l k M f (N+800) ((v,cs)::m) g w':=by
 let⟨A,e1,e2,e3,e4,o,_,t⟩:=h.arg;subst e1;refine(EG o addr slot r s (by omega)).mono ?_;rintro e w'⟨⟨u,v,c,cs,i,b1,b2,p,C,d,y,j⟩,_⟩;rw[e3] at d;exact⟨u,v,c,i,p,d.len,d.small,λh20 h32 z=>(y.2 h20 h32 (by rwa[e4])).2.2,t _ b2 b1 w' v i ((SC.drop (by rw[Vj] at j;exact j.ev λ_ _ q=>q.1) (λ_ ht=>ht) λb a=>by
  rw[UU];rcases UA.1 a with a|a
  .exact UP _ a
  exact UR _ a)) d⟩
def pY(M:Mp)(x)(a b:Ac):cQ (cQ M x a) x b=cQ M x b:=by
 funext y
 unfold cQ;by_cases e:y=x
 .rw[Uj e,Uj e]
 rw[Ui e,Ui e,Ui e]
def qM(M:Mp)(x){a:Ac}(h:a.n≠0):aY (cQ M x a) x=a:=by
 unfold aY cQ;rw[Uj rfl,Ui (λq=>h (congrArg Acc.n ((rW _).1 q)))];rfl
def TR{b}(hi:iX b){M h}(k:iz b h)(c:M (ag h.addr)=none):xP 1 h M=cQ M (ag h.addr) (dU h):=by
 have g:=k.map hi;have d:∀M,qF 1 h M=M:=λM=>by unfold qF;rw[Ui (by decide)]
 have e1:sN M h.addr 1=cQ M (ag h.addr) ⟨1,⟨#[]⟩,cZ,[]⟩:=by
  unfold sN dO;rw[Uj ⟨k.len,rfl⟩];unfold aY;rw[c];rfl
 have e2:∀i,i<=h.az.length->kX h (cQ M (ag h.addr) ⟨1,⟨#[]⟩,cZ,[]⟩) i=cQ M (ag h.addr) ⟨1,⟨#[]⟩,cZ,(ct h.az).take i⟩:=by
  intro i;induction i with
  |zero=>intro _;rw[List.take_zero];rfl
  |succ i ih=>
   intro j;show sS (kX h _ i) h.addr _ _=_;rw[ih (by omega)];have a:h.az[i]? =some h.az[i]:=Uh (by omega);have e:(ct h.az)[i]? =some (ag h.az[i].1,fg h.az[i].2):=by unfold ct;rw[UK,a];rfl
   let⟨s1,_,s3,s4⟩:=k.slot _ (Vc (by omega:i<h.az.length));rw[show h.az.getD i (⟨#[]⟩,⟨#[]⟩)=h.az[i] by rw[Up,a];rfl];unfold sS kg;rw[Uj ⟨k.len,s1,s3⟩,qM M _ (by show 1≠0;decide),pY,<-Db g e,Ui s4]
 unfold xP;rw[e1,d,e2 _ (Ug _),show(ct h.az).take h.az.length=ct h.az by rw[<-UM (f:=λp:yB×yB=>(ag p.1,fg p.2))];exact VM];have f1:sC (cQ M (ag h.addr) ⟨1,⟨#[]⟩,cZ,ct h.az⟩) h.addr h.code=cQ M (ag h.addr) ⟨1,⟨#[]⟩,h.code,ct h.az⟩:=by
  unfold sC dO;rw[Uj k.code,Uj ⟨k.len,rfl⟩,qM M _ (by show 1≠0;decide),pY]
 have f2:sB (cQ M (ag h.addr) ⟨1,⟨#[]⟩,h.code,ct h.az⟩) h.addr h.aI=cQ M (ag h.addr) ⟨1,h.aI,h.code,ct h.az⟩:=by
  unfold sB dO;rw[Uj ⟨k.len,k.aI⟩,qM M _ (by show 1≠0;decide),pY]
 rw[f1,f2];unfold sN dO;rw[Uj ⟨k.len,Uw k.n.1⟩,qM M _ (by show 1≠0;decide),pY];rfl
def Pk(n:Nat)(a:Int){j}(b:j<n):∃i,i<n/\dY n a i=j:=by
 unfold dY;split
 .exact⟨n - 1 - j,by omega,by omega⟩
 have c:=ky a n (by omega);generalize bW a n=p at*;by_cases h:p<=j
 .exact⟨j - p,by omega,by rw[show j - p+p=j by omega];exact VH b⟩
 exact⟨j+n - p,by omega,by rw[show j+n - p+p=j+n by omega,Nat.add_mod_right];exact VH b⟩
def Rd{hs y}(h:∀x∈hs,ag x.addr≠y):bG hs y=none:=by
 induction hs with
 |nil=>rfl
 |cons a t ih=>show(if ag a.addr=y then some (dU a) else bG t y)=none;rw[Ui (h a (Uk ..))];exact ih λx b=>h x (Ul _ b)
def Pe{hs:List aH}(h:(hs.map (·.addr)).Nodup){i j}(hi:i<hs.length)(a:j<hs.length)(e:(hs.getD i cG).addr=(hs.getD j cG).addr):i=j:=by
 have key:∀i j,i<j->j<hs.length->(hs.getD i cG).addr≠(hs.getD j cG).addr:=λi j h1 h2 e=>by
  have:=List.pairwise_iff_getElem.1 h i j (by simp;omega) (by simpa using h2) h1;simp only[List.getElem_map] at this;rw[Up,Up,Uh (by omega),Uh h2] at e;exact this e
 rcases Nat.lt_trichotomy i j with q|q|q
 .exact absurd e (key i j q a)
 .exact q
 exact absurd e.symm (key j i q hi)
def Hb{hs:List aH}(c:∀i j,i<hs.length->j<hs.length->ag (hs.getD i cG).addr=ag (hs.getD j cG).addr->i=j){j}(b:j<hs.length):bG hs (ag (hs.getD j cG).addr)=some (dU (hs.getD j cG)):=by
 induction hs generalizing j with
 |nil=>cases b
 |cons a t ih=>
  show(if ag a.addr=_ then some (dU a) else bG t _)=_;cases j with
  |zero=>show(if ag a.addr=ag a.addr then some (dU a) else bG t _)=some (dU a);rw[Uj rfl]
  |succ j=>
   have d:j<t.length:=by simpa using b
   rw[Ui (λe=>by have:=c 0 (j+1) (by simp) b e;omega)];exact ih (λi k h1 h2 e=>by have:=c (i+1) (k+1) (by simpa using h1) (by simpa using h2) e;omega) d
def AQ{c}(hi:iX c){hs}(k:iM c hs):∀i j,i<hs.length->j<hs.length->ag (hs.getD i cG).addr=ag (hs.getD j cG).addr->i=j:=λi j h1 h2 e=>by
 have b:∀j,j<hs.length->hs.getD j cG∈hs:=λj a=>by rw[Up,Uh a];exact Vc a
 exact Pe k.once h1 h2 (hi _ (k.each _ (b i h1)).1.addr _ (k.each _ (b j h2)).1.addr e)
def Ek{m}(hi:iX m){hs}(k:iM m hs):mj hs 1 hs.length=bG hs:=by
 have r:∀j,j<hs.length->hs.getD j cG∈hs:=λj a=>by rw[Up,Uh a];exact Vc a
 have c:=AQ hi k;have key:∀i,i<=hs.length->(∀j,j<i->mj hs 1 i (ag (hs.getD (dY hs.length 1 j) cG).addr)=some (dU (hs.getD (dY hs.length 1 j) cG)))/\∀y,(∀j,j<i->ag (hs.getD (dY hs.length 1 j) cG).addr≠y)->mj hs 1 i y=none:=by
  intro i;induction i with
  |zero=>exact λ_=>⟨(λj a=>absurd a (Nat.not_lt_zero _)),λy _=>rfl⟩
  |succ i ih=>
   intro d;let⟨h1,h2⟩:=ih (by omega);have f:=qf hs.length 1 i d;let⟨h,n⟩:=k.each _ (r _ f);have g:∀j,j<i->ag (hs.getD (dY hs.length 1 j) cG).addr≠ag (hs.getD (dY hs.length 1 i) cG).addr:=λj a e=>by
    have:=Fp hs.length 1 (i:=j) (j:=i) (by omega) d (c _ _ (qf _ _ _ (by omega)) f e);omega
   have e:mj hs 1 (i+1)=cQ (mj hs 1 i) _ _:=TR hi h (h2 _ g);rw[e];unfold cQ;rw[Ui (λq=>n (h.none.1 q))];refine⟨λj a=>?_,λy l=>?_⟩
   .by_cases p:j=i
    .rw[p,Uj rfl]
    rw[Ui (g j (by omega))];exact h1 j (by omega)
   rw[Ui (λq=>l i (by omega) q.symm)];exact h2 y λj a=>l j (by omega)
 let⟨k1,k2⟩:=key hs.length (Ug _);funext y
 by_cases b:∃j,j<hs.length/\ag (hs.getD j cG).addr=y
 .obtain⟨j,a,rfl⟩:=b;obtain⟨i,h1,rfl⟩:=Pk hs.length 1 a;rw[k1 i h1,Hb c a]
 rw[k2 y λj a e=>b ⟨_,qf _ _ _ a,e⟩,Rd λx s e=>?_];let⟨j,a,o⟩:=List.mem_iff_getElem.1 s;exact b ⟨j,a,by rw[Up,Uh a];show ag hs[j].addr=y;rwa[o]⟩
def l5(hs:List aH):List (yB×yB):=hs.map λh=>(ag h.addr,ir (eo (dU h)))
def yi(y):∀hs:List aH,ah (l5 hs) y=(bG hs y).map λa=>ir (eo a)
 | []=>rfl
 |h::t=>by
  show(if((ag h.addr).toList == y.toList) then some (ir (eo (dU h))) else ah (l5 t) y)=(if ag h.addr=y then some (dU h) else bG t y).map _
  rw[dV,yi y t]
  by_cases e:ag h.addr=y
  .rw[Uw e,Uj rfl,Uj e];rfl
  rw[Uv e,Ui (by simp),Ui e]
def yh{b}(hi:iX b){hs}(k:iM b hs):cT (l5 hs):=by
 refine⟨?_,λp d=>?_⟩
 .refine List.pairwise_iff_getElem.2 λi j h1 h2 f e=>?_
  have a:j<hs.length:=by simpa [l5] using h2
  have:=AQ hi k i j (by omega) a (by
   rw[Up,Up,Uh a,Uh (by omega:i<hs.length)];simpa [l5] using e)
  omega
 obtain⟨h,c,rfl⟩:=UO.1 d;let⟨c1,c2,_⟩:=tJ ((k.each h c).1.fit hi).ok;exact⟨by show(ag h.addr).size<=40;rw[show(ag h.addr).size=32 from dz _];decide,c1,c2⟩
def Kw{a}(hi:iX a){hs}(k:iM a hs):uV (bG hs) (l5 hs):=⟨yh hi k,λy=>yi y hs⟩
def lZ(hs:List aH):Prop:=∃seen,iX seen/\iM seen hs
def oD(hs:List aH)(a:List (yB×yB)):Prop:=(∀c,gN hs c->eI (ah a) (ae c)=false)/\(hs≠[]->cY (l5 hs)≠ae bM)
def Kd(hs:List aH)(a:List (yB×yB))(b:Bool):Prop:=b=false->lZ hs->oD hs a
def pS(hs:List aH)(j:Nat):List yL:=aQ bj (aR (l5 hs) 1) (ag (hs.getD j cG).addr)
def pR(hs:List aH)(j i:Nat):List yL:=aQ bj (aR (ct (hs.getD j cG).az) 1) (ag ((hs.getD j cG).az.getD i (⟨#[]⟩,⟨#[]⟩)).1)
structure kP(hs:List aH)(ps:List (yB×yB))(i:Nat)(al:List yB):Prop where
 a:∀j,j<i->∀c∈pS hs j,eI (ah ps) (ae c)=false
 s:∀j,j<i->∀k,k<(hs.getD j cG).az.length->∀c∈pR hs j k,eI (ah ps) (ae c)=false
 e:bf∈al
 f:∀j,j<i->∀c,(pS hs j)[0]? =some c->ae c∈al
structure oK(hs:List aH)(ps:List (yB×yB))(i k:Nat)(cs al:List yB):Prop where
 o:kP hs ps i al
 a:∀c∈pS hs i,ae c∈cs
 s:∀j,j<k->∀c∈pR hs i j,ae c∈cs
 f:∀c,(pS hs i)[0]? =some c->cs[0]? =some (ae c)
def kP.more{hs d i b}(h:kP hs d i b)(x):kP hs d i (b++[x]):=⟨h.a,h.s,UR _ h.e,λj k c g=>UR _ (h.f j k c g)⟩
def oK.next{hs g i k cs b}(h:oK hs g i k cs b):oK hs g i (k+1) (cs++(pR hs i k).map ae) b/\∀x,oK hs g i (k+1) (cs++(pR hs i k).map ae) (b++[x]):=by
 have key:∀b,kP hs g i b->oK hs g i (k+1) (cs++(pR hs i k).map ae) b:=λb l=>⟨l,λc d=>UR _ (h.a c d),λj m c d=>by
  by_cases e:j=k
  .rw[e] at d;exact UP _ (UO.2 ⟨c,d,rfl⟩)
  exact UR _ (h.s j (by omega) c d),λc d=>by
  have:=h.f c d;rw[UW (Ux.1 this).1];exact this⟩
 exact⟨key b h.o,λx=>key _ (h.o.more x)⟩
def oK.close{hs d i cs g}(h:oK hs d i (hs.getD i cG).az.length cs g)(q:∀x∈cs,eI (ah d) x=false):(cs.length=0->kP hs d (i+1) g)/\∀x,cs[0]? =some x->kP hs d (i+1) (g++[x]):=by
 have key:∀l,kP hs d i l->(∀c,(pS hs i)[0]? =some c->ae c∈l)->kP hs d (i+1) l:=λl m r=>⟨λj p c b=>by
  by_cases e:j=i
  .rw[e] at b;exact q _ (h.a c b)
  .exact m.a j (by omega) c b,λj p k n c b=>by
  by_cases e:j=i
  .rw[e] at b n;exact q _ (h.s k n c b)
  .exact m.s j (by omega) k n c b,m.e,λj p c b=>by
  by_cases e:j=i
  .rw[e] at b;exact r c b
  exact m.f j (by omega) c b⟩
 refine⟨λh0=>key g h.o λc b=>?_,λx t=>key _ (h.o.more x) λc b=>?_⟩
 .have:=(Ux.1 (h.f c b)).1;omega
 have:=(h.f c b).symm.trans t;rw[Option.some.inj this];exact UP _ (Uo.2 rfl)
def kP.done{v}(hi:iX v){hs}(k:iM v hs){u g}(h:kP hs u hs.length g)(w:bY g g.length=false):oD hs u:=by
 have o:∀x∈hs,∃j,j<hs.length/\hs.getD j cG=x:=λx d=>by
  let⟨j,b,e⟩:=List.mem_iff_getElem.1 d;exact⟨j,b,by rwa[Up,Uh b]⟩
 have t:=yh hi k;refine⟨λc C=>?_,λr=>?_⟩
 .rcases C with⟨p,n,m⟩|⟨x,d,p,n,m⟩
  .obtain⟨x,d,rfl⟩:=UO.1 n;obtain⟨j,b,rfl⟩:=o x d;exact h.a j b c m
  obtain⟨j,b,rfl⟩:=o x d;let⟨i,z,e⟩:=List.mem_iff_getElem.1 n;have q:i<(hs.getD j cG).az.length:=by simpa [ct] using z
  refine h.s j b i q c ?_;unfold pR;rw[Up (l:=(hs.getD j cG).az),Uh q];have:p.1=ag ((hs.getD j cG).az[i]).1:=by rw[<-e];simp[ct]
  show c∈aQ bj _ (ag ((hs.getD j cG).az[i]).1);rwa[<-this]
 have h0:=Vt.2 r;have A:l5 hs≠[]:=λe=>r (List.map_eq_nil_iff.1 e)
 let⟨B,y⟩:=yt t (jV t 1) A;refine y λe=>Jl w (h.f 0 h0 _ ?_) h.e e
 unfold pS;rw[p8 (xJ _ 1) (by rw[show(ag (hs.getD 0 cG).addr).size=32 from dz _];decide)];show(if(aR (l5 hs) 1).isNil=true then [] else dm _ 0++_)[0]? =_;rw[Ui (by rw[(gM _).2 B];simp)];unfold dm;rw[Uj (.inl rfl)];rfl
def kK.fx{w sb g d k f M K W}(h:kK w sb g d k f M K [] W):FX w sb g d k M f (1+K) [] [] W:=by
 have c:=h.below;obtain⟨A,l,rfl,l',i,m,_,_,a,_⟩:=h;obtain⟨rfl,rfl,rfl,rfl,e4,s,j,p,q,o⟩:=l;rw[e4] at a;refine⟨l',A.tw,i,⟨a,c,p,o,λx a=>?_,(λr n=>by cases n),List.Pairwise.nil,λb c=>by cases c⟩⟩;rw[m.bt x (Us a j.size)];refine⟨s x a,λe=>?_⟩;rcases q x a with h0|h0
 .exact Aj A.sp A.sb (e.symm.trans h0)
 exact Gn A.sp A.sb (e.symm.trans h0)
def zT{w w1:World}(h3:3<=w.heap.size)(a:gG 3 w1 w.heap.size (λ_=>lV none 0 0) []):fv w1 w.heap.size (λ_=>lV none 0 0) []:=
 ⟨a,by decide,(λh t e=>by cases e),λx b=>by
  rcases b with h|⟨c,_,h⟩
  .rwa[h]
  simp[Value.ownBlock] at h⟩
def Gy:Kn:=⟨True,λ_=>False⟩
def dQ(w:World)(M:Mp)(c N:Nat)(b:List (Value×List yB))(a:List (Nat×Obj))(W:World):Prop:=∃w1 ob us,yW w w1/\FX w1 ob us [] Gy M c N b a W
def dQ.fC{w M d N c b W}(h:dQ w M d N c b W):yW w W:=by
 let⟨w1,e,f,a,h⟩:=h;exact a.trans (h.fC.mono a.size)
def dQ.below{w M d N c b W a}(h:dQ w M d N c b W)(e:yW W a):dQ w M d N c b a:=by
 let⟨w1,f,g,h1,h⟩:=h;exact⟨w1,f,g,h1,h.below e⟩
def dQ.less{w M f N a}{d e:List (Value×List yB)}{c bs' W}(h:dQ w M f N d c W)(i:N<=a)(j:e.Sublist d)(g:∀b∈bs',b∈c):dQ w M f a e bs' W:=by
 let⟨w1,k,l,h1,h⟩:=h;exact⟨w1,k,l,h1,h.less i j g⟩
def dQ.texts{w M e N a c W}(h:dQ w M e N a c W){v cs}(d:(v,cs)∈a):∃b,dE b W v cs:=by
 let⟨w1,f,g,h1,h⟩:=h;exact⟨_,h.texts d⟩
def dQ.cells{w M n N j k W}(h:dQ w M n N j k W){a c}{cs:List yB}(m:(Value.slice a cs.length c,cs)∈j):oM W a cs:=by
 let⟨w1,q,s,h1,l,r,D,h⟩:=h;let⟨b,_⟩:=h.row _ m;intro i p d;let⟨a',o,e,_,_,f⟩:=dM b;cases e;have hi:=(Ux.1 d).1;rcases f with⟨_,h0,_⟩|⟨g,rfl⟩
 .have:cs.length=0:=h0;omega
 exact⟨g,rfl,(b.lt g rfl).2,fc b rfl i _ (by rw[UK,d];rfl)⟩
def dQ.append{w M i N v cs g d W}(h:dQ w M i N ((v,cs)::g) d W)(b:Nat)(c)(q:List yB)(j:dE b W c q)(h63:cs.length+q.length<=4200000000000):∃a' a w',(Builtin.append_ #[63,63] 63 #[v,c]).run yP W=.ok (lV a' (cs++q).length a) w'/\dQ w M i N ((lV a' (cs++q).length a,cs++q)::g) d w':=by
 let⟨w1,l,m,h1,h⟩:=h;let⟨n,w',k,f⟩:=h.append b c q j h63;let⟨a',a,e,_⟩:=f.texts (Uk ..);subst e;exact⟨a',a,w',k,w1,l,m,h1,f⟩
def dQ.o6{w M c N b a W}(h:dQ w M c N b a W):dQ w M c N ((lV none 0 0,[])::b) a W:=by
 let⟨w1,d,e,h1,h⟩:=h;exact⟨w1,d,e,h1,h.o6⟩
def dQ.swap{w M c N r s b a W}(h:dQ w M c N (r::s::b) a W):dQ w M c N (s::r::b) a W:=by
 let⟨w1,d,e,h1,h⟩:=h;exact⟨w1,d,e,h1,h.swap⟩
def dQ.box{w M c N b a W}(h:dQ w M c N b a W)(cs:Array Value)(t):dQ w M c N b ((W.heap.size,.cells cs t (0,0))::a) (W.alloc (.cells cs t)):=by
 let⟨w1,d,e,h1,h⟩:=h;exact⟨w1,d,e,h1,h.box cs t⟩
def dQ.mq{w M d N i f W}(h:dQ w M d N i f W)(addr:yB)(j:addr.size<=maxLen):yC 59 #[pV (qA d),sV addr] W λe w'=>∃(a:Option Addr)(b:Nat)(c:Int)(cs:List yB),e=rV (tV #[lV a cs.length b,i6 c])/\fh 81 cs/\(addr.size=20->∀L,uV M L->cs=(aQ bj (aR L 1) (ag addr)).map ae)/\dQ w M d (N+250) ((lV a cs.length b,cs)::i) f w':=by
 let⟨w1,l,m,h1,h⟩:=h;refine(h.mq addr j).mono ?_;rintro e w'⟨v,c,cs,rfl,h2,h3,k,g⟩;let⟨a',b,e,_⟩:=g.texts (Uk ..);subst e;exact⟨a',b,c,cs,rfl,⟨h2,h3⟩,λh20=>(k h20 trivial).2,w1,l,m,h1,g⟩
def dQ.zr{w M d N i f W}(h:dQ w M d N i f W)(addr slot:yB)(k:addr.size<=maxLen)(l:slot.size<=maxLen)(j:N+1000<4000000000):yC 60 #[pV (qA d),sV addr,sV slot] W λe w'=>∃(u:Value)(a:Option Addr)(b:Nat)(c:Int)(cs:List yB),e=rV (tV #[u,lV a cs.length b,i6 c])/\fh 81 cs/\(addr.size=20->slot.size=32->cs=(aQ bj (aR (aY M (ag addr)).ss 1) (ag slot)).map ae)/\dQ w M d (N+800) ((lV a cs.length b,cs)::i) f w':=by
 let⟨w1,n,o,h1,h⟩:=h;refine(h.zr addr slot k l j).mono ?_;rintro e w'⟨u,v,c,cs,rfl,h2,h3,m,g⟩;let⟨a',b,e,_⟩:=g.texts (Uk ..);subst e;exact⟨u,a',b,c,cs,rfl,⟨h2,h3⟩,λh20 h32=>m h20 h32 trivial,w1,n,o,h1,g⟩
def dQ.root{w M a N c b W}(h:dQ w M a N c b W):yC 55 #[pV (qA a)] W λe w'=>(∃r:yB,e=rV (sV r)/\r.size=32)/\dQ w M a N c b w':=by
 let⟨w1,g,i,h1,h⟩:=h;let⟨A,e1,e2,e3,e4,d,f,_⟩:=h.arg;subst e1;refine(ML d).mono ?_;rintro e w'⟨⟨r,h2,h4,_⟩,h3⟩;exact⟨⟨r,h2,h4⟩,w1,g,i,h1,f 0 [] w' h3⟩
def dQ.Jo{w M d N v cs c a W}(h:dQ w M d N ((v,cs)::c) a W)(T:aB w)(hs:fh 4000000000 cs):yC 45 #[v] W λe w'=>kS (λb=>b=bY cs cs.length) e/\dQ w M d N ((v,cs)::c) a w':=by
 let⟨b,i⟩:=h.texts (Uk ..);refine(pk W v cs i.texts (by have:=hs.1;omega) (λp j=>by have:=hs.2 p j;unfold maxLen;omega) (T.below h.fC)).mono ?_;rintro e w'⟨g,f⟩;exact⟨⟨_,g,rfl⟩,h.below f⟩
def Ff{w}(T:aB w){v hs}(h:gw w v hs)(i:bA hs<=600000)(c:Int)(g:Rg c):yC 9 #[] w λe w'=>∃ob,e=rV (pV (qA ob))/\yW w w'/\yC 58 #[pV (qA ob),v,i6 c] w' λe w2=>∃b,e=rV (pV (qA b))/\dQ w (mj hs c hs.length) b (1+6000*bA hs) [] [] w2:=by
 refine(tN 3 w).mono ?_;rintro e w1⟨f,d,a⟩;refine⟨_,f,a,(Ny (zT T.size d) (T.below a) (h.below a) i c g Gy).mono ?_⟩;rintro e w2⟨b,h1,h2⟩;exact⟨b,h1,w1,_,_,a,h2.fx⟩
def jU:List aH->Nat->Nat
 | _,0=>0
 | [],_+1=>0
 |h::t,i+1=>800*(1+h.az.length)+jU t i
def Bs:∀(hs:List aH) (i:Nat),jU hs i<=800*bA hs
 | _,0=>by simp[jU]
 | [],i+1=>UD _
 |h::t,i+1=>by
  have:=Bs t i
  show 800*(1+h.az.length)+jU t i<=800*(1+h.az.length+bA t)
  omega
def IY:∀(hs:List aH) (i:Nat),i<hs.length->jU hs (i+1)=jU hs i+800*(1+(hs.getD i cG).az.length)
 | [],i,h=>by cases h
 |h::t,0,_=>by
  have:jU t 0=0:=by cases t<;>rfl
  show 800*(1+h.az.length)+jU t 0=0+800*(1+h.az.length)
  omega
 |h::t,i+1,hi=>by
  have a:=IY t i (by simp at hi;omega)
  show 800*(1+h.az.length)+jU t (i+1)=800*(1+h.az.length)+jU t i+800*(1+(t.getD i cG).az.length)
  omega
def Sa{w:World}{rb K v1 v2 v4 v5 S base us E}(P:w.heap[rb]? =some (.cells #[pV (qA K),v1,v2,S,v4,v5] 65 (0,0)))(G:gw w S base)(hw:bA base<=500000)(hs:fv w K us E)(T:aB w):yC 57 #[pV (qA rb)] w λe w'=>kS (Kd base E) e/\yW w w':=by
 obtain⟨a,cap,rfl⟩:=G.form;have A3:=uv base;have N:rb<w.heap.size:=(Um.1 P).1;have U:∀W,yW w W->W.heap[rb]? =some (.cells #[pV (qA K),v1,v2,lV a base.length cap,v4,v5] 65 (0,0)):=λW hW=>(hW.block rb N).trans P
 have V:∀j,j<base.length->base[j]? =some (base.getD j cG):=λj f=>by rw[Up,Uh f];rfl
 have I:∀j,j<base.length->base.getD j cG∈base:=λj f=>UQ (V j f)
 refine(R9 w rb K a cap base.length (by omega) (λj=>base.getD j cG) (λi=>1+6000*bA base+jU base i) (1+6000*bA base+800*bA base) (λo k p A W=>dQ w (mj base 1 base.length) o k p A W)
  (λi z=>lZ base->kP base E i z) (λi k cs z=>lZ base->oK base E i k cs z) (λi cs z j=>lZ base->oK base E i (base.getD i cG).az.length cs z/\∀J x,J<j->cs[J]? =some x->eI (ah E) x=false) (λi cs=>lZ base->cs=(pS base i).map ae) (λi k x=>x=((base.getD i cG).az.getD k (⟨#[]⟩,⟨#[]⟩)).1) (λi k cs=>k<(base.getD i cG).az.length->lZ base->cs=(pR base i k).map ae) (λx b=>b=eI (ah E) x) (λz b=>b=bY z z.length) (Kd base E)
  (λ_=>⟨(λj f=>absurd f (Nat.not_lt_zero _)),(λj f=>absurd f (Nat.not_lt_zero _)),Uo.2 rfl,λj f=>absurd f (Nat.not_lt_zero _)⟩)
  (λi z cs h1 _ h2 m=>by
   rw[h2 m];exact⟨h1 m,λc F=>UO.2 ⟨c,F,rfl⟩,(λj f=>absurd f (Nat.not_lt_zero _)),λc F=>by rw[UK,F];rfl⟩)
  (λi k cs z q h1 _ B h2=>⟨λ_ m=>by rw[h2 B m];exact(h1 m).next.1,λq0 _ m=>by rw[h2 B m];exact(h1 m).next.2 q0⟩)
  (λi cs z h m=>⟨h m,λJ x f=>absurd f (Nat.not_lt_zero _)⟩)
  (λi cs z j x h D ht m=>⟨(h m).1,λJ y f Q=>by
   by_cases e:J=j
   .rw[e,D] at Q;rw[<-Option.some.inj Q];exact ht.symm
   exact(h m).2 J y (by omega) Q⟩)
  (λi cs z _ h=>by
   have key:lZ base->(cs.length=0->kP base E (i+1) z)/\∀x,cs[0]? =some x->kP base E (i+1) (z++[x]):=λm=>(h m).1.close λx D=>by
    let⟨j,f,e⟩:=List.mem_iff_getElem.1 D;exact(h m).2 j x f (by rw[Uh f,e])
   exact⟨λh0 m=>(key m).1 h0,λx D m=>(key m).2 x D⟩)
  (λz b h1 h2 C m=>by
   let⟨R,hi,B⟩:=m;exact(h1 ⟨R,hi,B⟩).done hi B (by rwa[<-h2]))
  (λh=>by cases h)
  ⟨by rw[Ur w _ 3 _ _ _ P];rfl,N⟩ ?_ ?_ ?_ ?_ ?_ ?_ ?_ ?_ ?_ ?_ ?_ ?_ ?_ ?_ ?_ ?_ ?_ ?_ ?_ ?_ ?_).mono ?_
 .refine(Ff T G (by omega) 1 ⟨by decide,by decide⟩).mono ?_;rintro e w1⟨ob,M,C,F⟩;refine⟨ob,M,⟨by rw[Ur w1 _ 3 _ _ _ (U w1 C)];rfl,Us N C.size⟩,F.mono ?_⟩;rintro e w2⟨o,h1,h2⟩;exact⟨o,h1,h2.less (by omega) (List.Sublist.refl _) λ_ h=>h⟩
 .intro i hi;have h1:=IY base i hi;have h2:=Bs base (i+1);exact⟨by show 1+6000*bA base+jU base (i+1)=1+6000*bA base+jU base i+800*(1+(base.getD i cG).az.length);omega,by show 1+6000*bA base+jU base (i+1)<=_;omega⟩
 .have:=Bs base 0;show 1+6000*bA base+jU base 0<=_;omega
 .show _<_;omega
 .intro o k p A W h;have F:=U W h.fC;exact⟨by rw[Ur W _ 0 _ _ _ F];rfl,by rw[Ur W _ 3 _ _ _ F];rfl,(Um.1 F).1⟩
 .intro o k p A W j h f;exact(G.below h.fC).at_ j _ (V j f)
 .intro o k p A W j i h f hi;have H:=G.2 _ (I j f);have hp:=H.at_.below h.fC;have X:(base.getD j cG).az[i]? =some (base.getD j cG).az[i]:=Uh hi;let⟨g,e,hl,c,d⟩:=eH.at_ (a:=(base.getD j cG).sa) (cap:=(base.getD j cG).sc) hp i _ X;let⟨s1,s2⟩:=H.small _ (Vc hi);exact⟨g,_,e,hl,c,by unfold maxLen;omega,by rw[Up (l:=(base.getD j cG).az),X];rfl⟩
 .intro j f;exact(G.2 _ (I j f)).len
 .intro o k p A W cs t h;exact h.box cs t
 .intro o k p n h W hD;let⟨w1,ob,us,_,D⟩:=hD;have C:=D.boxes _ (Uk ..);refine⟨(Um.1 C).1,?_,?_⟩
  .rw[Ur W _ 0 _ _ _ C];rfl
  rw[Ur W _ 4 _ _ _ C];rfl
 .intro o k p A W h;exact h.below (ig (Un _ _) 1)
 .intro o k p A W a c cs h O;exact h.cells O
 .intro o k p A W r h O;exact h.texts O
 .intro o k k' p A4 A bs' W h h1 h2 h3;exact h.less h1 h2 h3
 .intro o k r s p A W h;exact h.swap
 .intro o k p A W h;exact h.o6
 .intro o k v cs p A W b vq q h h1 h2;exact h.append b vq q h1 h2
 .intro o k p A W j h f;have H:=G.2 _ (I j f);refine(h.mq _ (by have:=H.addr;unfold maxLen;omega)).mono ?_;rintro e w'⟨a',L,c,cs,h1,h2,h3,h4⟩;refine⟨a',L,c,cs,h1,h2,λ⟨R,hi,B⟩=>?_,h4⟩;exact h3 (B.each _ (I j f)).1.len _ (by rw[Ek hi B];exact Kw hi B)
 .intro o k p A W j i x h f Y D B;have H:=G.2 _ (I j f);refine(h.zr _ x (by have:=H.addr;unfold maxLen;omega) D (by omega)).mono ?_;rintro e w'⟨u,a',L,c,cs,h1,h2,h3,h4⟩;refine⟨u,a',L,c,cs,h1,h2,λhi'⟨R,hi,B⟩=>?_,h4⟩;have Z:=(B.each _ (I j f)).1;have A2:x.size=32:=by
   rw[Y,Up (l:=(base.getD j cG).az),Uh hi'];exact(Z.slot _ (Vc hi')).1
  rw[h3 Z.len A2,Ek hi B,Y];unfold aY;rw[Hb (AQ hi B) f];rfl
 .intro o k p A W t h ht;have C:=h.fC;refine(Gv (hs.below C).rZ (λx D=>(hs.below C).st.eM x D) (λk t e=>by have:=hs.sm k t e;unfold maxLen;omega) t (by unfold maxLen;omega) (T.below C)).mono ?_;rintro e w'⟨M,A0⟩;exact⟨⟨_,M,rfl⟩,h.below A0⟩
 .intro o k v cs p A W h A1;exact h.Jo T A1
 rintro e w'⟨h1,o,k,r,b,h2⟩;exact⟨h1,h2.o.fC⟩
def fA(l:Nat->Nat)(n L:Nat):Nat->Nat:=λk=>if k<n then l k else L
def nP{l n L k}(h:k<n):fA l n L k=l k:=by simp[fA,h]
def oR{l n L k}(h:n<=k):fA l n L k=L:=by simp[fA,VK.2 h]
def Mv.qL(l)(w:World)(o:Obj)(L:Nat):Mv (λ_=>False) l (fA l w.heap.size L) w (w.alloc o):=
 ⟨rfl,rfl,rfl,by simp,λ_ a=>nP a,λk a _=>U6 w o k a⟩
def Mv.FB{l}{w w':World}(h:yW w w')(L:Nat):Mv (λ_=>False) l (fA l w.heap.size L) w w':=
 ⟨h.os,h.tape,h.output,h.size,λ_ a=>nP a,λk a _=>h.block k a⟩
def Mv.j9{l l' w w'}(m:Mv (λ_=>False) l l' w w')(a:List Nat):Mv (fO a) l l' w w':=m.mono λ_ h=>h.elim
def Mv.uI(l w)(n:Nat)(T):Mv T l l w (w.drewN n):=
 ⟨(ig (Un 0 w) n).os,(ig (Un 0 w) n).tape,(ig (Un 0 w) n).output,(ig (Un 0 w) n).size,λ_ _=>rfl,λk a _=>(ig (Un w.heap.size w) n).block k a⟩
def qx(w:World)(o:Obj):(w.alloc o).heap[w.heap.size]? =some o:=UG w o
def nO(w:World)(o:Obj):(w.alloc o).heap.size=w.heap.size+1:=by simp
structure BZ(q:Prop)(l:Nat->Nat)(W:World)(R:aV)(us:Nat->Value)(ps:List (yB×yB)):Prop where
 x:SX l W R.sp R.sb R.tw R.D R.N us ps ⟨R.de/\q,gN R.base⟩ (fun X _=>R.de/\q->Wd ⟨R.de/\q,gN R.base⟩ ps R.tw X (bG R.m) gK)
 pm:gw W R.mv R.m
 lm:oH l R.mv R.m
 sn:W.ownsRow 3 9 1 R.sv R.seen.length (R.seen.map Value.string)
 sm:∀s∈R.seen,s.size<=1073741824
 nm:R.m.length<1000000000
 ns:R.seen.length<1000000000
 base:R.base=R.m/\R.bv=R.mv
 k:R.de->iM R.seen R.m
def Fz{q d l W}{R:aV}{s r d1}(h1:dq q d l W d1)(b:BZ (q R.rb) l W R s r)(o:R.rb=W.heap.size) (Z:∀g,R.sv.ownBlock=some g->l g=pr W.heap.size 0) (B:W.heap[R.tt]? =some (.cells #[bV R.yes] 61 (0,0))) (A3:l R.tt=pr R.tt 0) (X:d1.ao.length<4000000000)(A0:∀Q∈d1.ao,Q.sp≠R.sp) (w:(∀C∈d1.aC,C.sb≠R.sb)/\∀Q∈d1.ao,Q.sb=R.sb->s=d1.us Q.sb/\r=d1.ps Q.sb) (J:∀Q∈d1.ao,Q.sb=R.sb->Q.tt=R.tt):∃a' j w',(Builtin.append_ #[28,28] 28 #[d1.rv,lV (some ⟨W.heap.size+1,0,none⟩) 1 1]).run yP ((W.alloc (.cells #[pV (qA R.sb),pV (qA R.sp),R.mv,R.bv,R.sv,pV (qA R.tt)] 65)).alloc (.cells #[pV (qA W.heap.size)] 58))=.ok (lV a' (d1.ao.length+1) j) w'/\(∀x,x<W.heap.size->l x≠pr d 0->w'.heap[x]? =W.heap[x]?)/\w'.heap[d]? =W.heap[d]?/\∃l',Mv (fO [d]) l l' W (w'.setCell ⟨d,1,none⟩ (lV a' (d1.ao.length+1) j))/\dq q d l' (w'.setCell ⟨d,1,none⟩ (lV a' (d1.ao.length+1) j)) (d1.p7 R (lV a' (d1.ao.length+1) j) s r):=by
 obtain⟨o1,A⟩:∃o1:Obj,o1=.cells #[pV (qA R.sb),pV (qA R.sp),R.mv,R.bv,R.sv,pV (qA R.tt)] 65 (0,0):=⟨_,rfl⟩
 obtain⟨o2,H⟩:∃o2:Obj,o2=.cells #[pV (qA W.heap.size)] 58 (0,0):=⟨_,rfl⟩
 obtain⟨h,v⟩:∃h,h=W.alloc o1:=⟨_,rfl⟩
 obtain⟨f,u⟩:∃f,f=h.alloc o2:=⟨_,rfl⟩
 have z1:h.heap.size=W.heap.size+1:=by rw[v];exact nO W o1
 have z2:f.heap.size=W.heap.size+2:=by rw[u,nO,z1]
 have m1:Mv (λ_=>False) l (fA l W.heap.size (pr W.heap.size 0)) W h:=by rw[v];exact Mv.qL l W o1 _
 have m2:Mv (λ_=>False) (fA l W.heap.size (pr W.heap.size 0)) (fA (fA l W.heap.size (pr W.heap.size 0)) h.heap.size 0) h f:=by rw[u];exact Mv.qL _ h o2 _
 obtain⟨l2,F⟩:∃l2,l2=fA (fA l W.heap.size (pr W.heap.size 0)) h.heap.size 0:=⟨_,rfl⟩
 rw[<-F] at m2;have m12:=m1.trans m2;have Y:l2 W.heap.size=pr W.heap.size 0:=by rw[F,nP (by omega),oR (Ug _)]
 have E:f.heap[W.heap.size]? =some o1:=by
  rw[u,U6 h o2 _ (by omega),v];exact qx W o1
 have T:f.heap[W.heap.size+1]? =some o2:=by
  have:=qx h o2;rw[<-u,z1] at this;exact this
 have K:Wo d l2 f d1.bv d1.rv (d1.aC.map oA) (d1.ao.map mi):=h1.wo.move m12 id;let⟨a',j,w',l',I,mw,U,M,L⟩:=K.NF (qA W.heap.size) (W.heap.size+1) (by rw[T,H]) (by rw[UM];exact X) (by have:=h1.bz.size;omega);rw[UM] at I M L;refine⟨a',j,w',?_,λx i V=>?_,?_,?_⟩
 .rw[<-A,<-v,<-H,<-u];exact I
 .rw[mw.ai x (by omega) (by show l2 x≠_;rw[m12.bt x i];exact V)];exact m12.ai x i id
 .rw[U];exact m12.ai d (Um.1 h1.wo.ai).1 id
 have A2:=b.x.move m12 id id λ_=>id
 have kW:=iQ K.ai;have kR:kd f R.rb=some 65:=by rw[o];exact iQ (by rw[E,A])
 have A1:f.heap[R.tt]? =some (.cells #[bV R.yes] 61 (0,0)):=(m12.ai R.tt (Um.1 B).1 id).trans B;have S:iy l2 f R:=
  {ai:=by rw[o,E,A]
   lb:=by rw[o];exact Y
   pm:=(b.pm.mv b.lm m12 id).1
   lm:=(b.pm.mv b.lm m12 id).2
   pb:=by rw[b.base.1,b.base.2];exact(b.pm.mv b.lm m12 id).1
   lv:=by rw[b.base.1,b.base.2];exact(b.pm.mv b.lm m12 id).2
   sn:=cM b.sn λg y=>m12.ai g (b.sn.lt g y).2 id
   ls:=λg y=>by rw[m12.bt g (b.sn.lt g y).2,o];exact Z g y
   sm:=b.sm
   tn:=A1
   lt:=(m12.bt _ (Um.1 B).1).trans A3
   nm:=b.nm
   nb:=by rw[b.base.1];exact b.nm
   ns:=b.ns}
 have D:fI (q R.rb) l2 f R s r:=⟨S,A2,λO=>⟨b.k O,by rw[b.base.1];exact b.k O⟩⟩
 let⟨k1,k2,k3,k4⟩:=D.kd;have N:Mv (fO [d]) l2 l' f (w'.setCell ⟨d,1,none⟩ (lV a' (d1.ao.length+1) j)):=M.mono λx i=>nM (Uk ..) i
 have z:∀{x:Nat} {t:TypeId},kd f x=some t->t≠30->x∉[d]:=λ{x t} k n i=>by
  rw[Uo] at i;exact df k kW n i
 have P:=D.o8 N (z k1 (by decide)) (z k2 (by decide)) (z k3 (by decide)) (z k4 (by decide));have p:=(m12.j9 _).trans N;refine⟨l',p,?_⟩;have m:∀{x:Nat} {t:TypeId},kd W x=some t->t≠30->x∉[d]:=λ{x t} k n i=>by
  rw[Uo] at i;exact df k h1.kw n i
 have lt:∀{x:Nat} {t:TypeId},kd W x=some t->x<W.heap.size:=λk=>lF k
 refine⟨?_,λC a=>?_,λC a=>?_,λQ c=>?_,h1.nY,h1.nV,?_,wJ h1.nW λC a e=>A0 C a e,h1.hs,λC a Q c=>?_,λQ c C a=>?_,(h1.rest p).1,(h1.rest p).2⟩
 .show Wo d l' _ d1.bv _ (d1.aC.map oA) ((d1.ao++[R]).map mi);rw[Vl];have:[R].map mi=[pV (qA W.heap.size)]:=by simp[mi,o]
  rw[this];exact L
 .let⟨k1,k2,_,_⟩:=h1.iJ a;exact h1.qH p a (m k1 (by decide)) (m k2 (by decide))
 .let⟨_,_,k3,k4⟩:=h1.iJ a;show cI l' (fD C) _ C.sb C.hb (d1.yes C.hb) (d1.dW C.hb) (aE d1.us R.sb s C.sb) (aE d1.ps R.sb r C.sb);rw[cl _ _ (w.1 C a),cl _ _ (w.1 C a)];exact h1.qB p a (m k3 (by decide)) (m k4 (by decide))
 .show fI (q Q.rb) l' _ Q (aE d1.us R.sb s Q.sb) (aE d1.ps R.sb r Q.sb);rcases UA.1 c with c|c
  .let⟨k1,k2,k3,k4⟩:=h1.kx c;have G:=(h1.rl Q c).o8 p (m k1 (by decide)) (m k2 (by decide)) (m k3 (by decide)) (m k4 (by decide));by_cases e:Q.sb=R.sb
   .let⟨e2,e3⟩:=w.2 Q c e;rw[e,cF,cF,e2,e3];exact G
   rw[cl _ _ e,cl _ _ e];exact G
  rw[Uo.1 c,cF,cF];exact P
 .exact wJ h1.jc λC a e=>by have:=lt (h1.kx a).1;rw[o] at e;omega
 .rcases UA.1 c with c|c
  .exact h1.br C a Q c
  rw[Uo.1 c];exact w.1 C a
 rcases UA.1 c with c|c
 .rcases UA.1 a with a|a
  .exact h1.rt Q c C a
  rw[Uo.1 a];exact J Q c
 rcases UA.1 a with a|a
 .rw[Uo.1 c];exact λe=>(J C a e.symm).symm
 rw[Uo.1 c,Uo.1 a];exact λ_=>rfl
structure Ca(l:Nat->Nat)(W:World)(B:eO)(S:Nat->Prop):Prop where
 tr:eX W B.tb (qA B.sb) S B.t
 loose:bK B.t
 lS:∀x,S x->l x=pr B.tb 0
 lt:l B.tb=pr B.tb 0
 pm:eH W B.mv B.m
 lm:∀g,B.mv.ownBlock=some g->l g=0
 om:cT B.m
 nm:B.m.length<4000000000
 base:B.base=B.m/\B.bv=B.mv
def FC{c l W B S d1 y t v u}(h1:Inv c l W d1)(b:Ca l W B S)(V:cI l (fD B) W B.sb B.hb y t v u)(q:B.bb=W.heap.size) (Y:d1.aC.length<4000000000) (A1:∀C∈d1.aC,C.tb≠B.tb)(r:(∀C∈d1.aC,(C.hb=B.hb↔C.sb=B.sb)/\(C.hb=B.hb->y=d1.yes C.hb/\t=d1.dW C.hb/\v=d1.us C.sb/\u=d1.ps C.sb))/\∀R∈d1.ao,B.sb≠R.sb):∃a' h w',(Builtin.append_ #[27,27] 27 #[d1.bv,lV (some ⟨W.heap.size+1,0,none⟩) 1 1]).run yP ((W.alloc (.cells #[pV (qA B.sb),pV (qA B.tb),B.mv,B.bv,pV (qA B.hb)] 47)).alloc (.cells #[pV (qA W.heap.size)] 41))=.ok (lV a' (d1.aC.length+1) h) w'/\(∀x,x<W.heap.size->l x≠pr c 0->w'.heap[x]? =W.heap[x]?)/\w'.heap[c]? =W.heap[c]?/\∃l',Mv (fO [c]) l l' W (w'.setCell ⟨c,0,none⟩ (lV a' (d1.aC.length+1) h))/\Inv c l' (w'.setCell ⟨c,0,none⟩ (lV a' (d1.aC.length+1) h)) (d1.book B (lV a' (d1.aC.length+1) h) y t v u):=by
 obtain⟨o1,J⟩:∃o1:Obj,o1=.cells #[pV (qA B.sb),pV (qA B.tb),B.mv,B.bv,pV (qA B.hb)] 47 (0,0):=⟨_,rfl⟩
 obtain⟨o2,K⟩:∃o2:Obj,o2=.cells #[pV (qA W.heap.size)] 41 (0,0):=⟨_,rfl⟩
 obtain⟨g,w⟩:∃g,g=W.alloc o1:=⟨_,rfl⟩
 obtain⟨d,p⟩:∃d,d=g.alloc o2:=⟨_,rfl⟩
 have z1:g.heap.size=W.heap.size+1:=by rw[w];exact nO W o1
 have z2:d.heap.size=W.heap.size+2:=by rw[p,nO,z1]
 have m1:Mv (λ_=>False) l (fA l W.heap.size (pr W.heap.size 0)) W g:=by rw[w];exact Mv.qL l W o1 _
 have m2:Mv (λ_=>False) (fA l W.heap.size (pr W.heap.size 0)) (fA (fA l W.heap.size (pr W.heap.size 0)) g.heap.size 0) g d:=by rw[p];exact Mv.qL _ g o2 _
 obtain⟨l2,H⟩:∃l2,l2=fA (fA l W.heap.size (pr W.heap.size 0)) g.heap.size 0:=⟨_,rfl⟩
 rw[<-H] at m2;have m12:=m1.trans m2;have Z:l2 W.heap.size=pr W.heap.size 0:=by rw[H,nP (by omega),oR (Ug _)]
 have T:d.heap[W.heap.size]? =some o1:=by
  rw[p,U6 g o2 _ (by omega),w];exact qx W o1
 have U:d.heap[W.heap.size+1]? =some o2:=by
  have:=qx g o2;rw[<-p,z1] at this;exact this
 have M:Wo c l2 d d1.bv d1.rv (d1.aC.map oA) (d1.ao.map mi):=h1.wo.move m12 id;let⟨a',h,w',l',L,mw,X,O,N⟩:=M.NG (qA W.heap.size) (W.heap.size+1) (by rw[U,K]) (by rw[UM];exact Y) (by have:=h1.bz.size;omega);rw[UM] at L O N;refine⟨a',h,w',?_,λx f A=>?_,?_,?_⟩
 .rw[<-J,<-w,<-K,<-p];exact L
 .rw[mw.ai x (by omega) (by show l2 x≠_;rw[m12.bt x f];exact A)];exact m12.ai x f id
 .rw[X];exact m12.ai c (Um.1 h1.wo.ai).1 id
 have kW:=iQ M.ai;have F:Bk l2 (fD B) d B S:=
  {bk:=by show d.heap[B.bb]? =_;rw[q,T,J]
   lb:=by rw[q];exact Z.trans (by show _=pr B.bb 0;rw[q])
   pm:=(b.pm.mv b.lm m12 id).1
   lm:=(b.pm.mv b.lm m12 id).2
   pb:=by rw[b.base.1,b.base.2];exact(b.pm.mv b.lm m12 id).1
   lv:=by rw[b.base.2];exact(b.pm.mv b.lm m12 id).2
   tr:=b.tr.same m12.size λx _ A=>m12.ai x A id
   loose:=b.loose
   lS:=λx f=>(m12.bt x (b.tr.own x f).2.2).trans (b.lS x f)
   lt:=(m12.bt _ b.tr.lt).trans b.lt
   om:=b.om
   ob:=by rw[b.base.1];exact b.om
   nm:=b.nm
   nb:=by rw[b.base.1];exact b.nm}
 have G:=V.move m12 id id;let⟨k1,k2⟩:=F.kd;let⟨k3,k4⟩:=G.kd;have E:Mv (fO [c]) l2 l' d (w'.setCell ⟨c,0,none⟩ (lV a' (d1.aC.length+1) h)):=O.mono λx f=>nM (Uk ..) f
 have z:∀{x:Nat} {t:TypeId},kd d x=some t->t≠30->x∉[c]:=λ{x t} k n f=>by
  rw[Uo] at f;exact df k kW n f
 have P:=F.move E (kV _) (gz (z k1 (by decide))) (gz (z k2 (by decide)));have Q:=G.move E (gz (z k3 (by decide))) (gz (z k4 (by decide)));have o:=(m12.j9 _).trans E;refine⟨l',o,?_⟩;have i:∀{x:Nat} {t:TypeId},kd W x=some t->t≠30->x∉[c]:=λ{x t} k n f=>by
  rw[Uo] at f;exact df k h1.kw n f
 have lt:∀{x:Nat} {t:TypeId},kd W x=some t->x<W.heap.size:=λk=>lF k
 refine⟨?_,λC a=>?_,λC a=>?_,λR m=>?_,?_,wJ h1.nV λC a e=>A1 C a e,h1.jc,h1.nW,λC a D j=>?_,λC a R m=>?_,h1.rt,(h1.rest o).1,(h1.rest o).2⟩
 .show Wo c l' _ _ d1.rv ((d1.aC++[B]).map oA) (d1.ao.map mi);rw[Vl];have:[B].map oA=[pV (qA W.heap.size)]:=by simp[oA,q]
  rw[this];exact N
 .rcases UA.1 a with a|a
  .let⟨k1,k2,_,_⟩:=h1.iJ a;exact h1.qH o a (i k1 (by decide)) (i k2 (by decide))
  rw[Uo.1 a];exact⟨S,P⟩
 .show cI l' (fD C) _ C.sb C.hb (aE d1.yes B.hb y C.hb) (aE d1.dW B.hb t C.hb) (aE d1.us B.sb v C.sb) (aE d1.ps B.sb u C.sb);rcases UA.1 a with a|a
  .let⟨_,_,k3,k4⟩:=h1.iJ a;have I:=h1.qB o a (i k3 (by decide)) (i k4 (by decide));let⟨s,A0⟩:=r.1 C a;by_cases e:C.hb=B.hb
   .let⟨e1,e2,e3,e4⟩:=A0 e;have e5:=s.1 e;rw[<-e,<-e5,cF,cF,cF,cF,e1,e2,e3,e4];exact I
   have e5:C.sb≠B.sb:=λk=>e (s.2 k)
   rw[cl _ _ e,cl _ _ e,cl _ _ e5,cl _ _ e5];exact I
  rw[Uo.1 a,cF,cF,cF,cF];exact Q
 .show fI True l' _ R (aE d1.us B.sb v R.sb) (aE d1.ps B.sb u R.sb);let⟨k1,k2,k3,k4⟩:=h1.kx m;have e:R.sb≠B.sb:=λk=>r.2 R m k.symm
  rw[cl _ _ e,cl _ _ e];exact(h1.rl R m).o8 o (i k1 (by decide)) (i k2 (by decide)) (i k3 (by decide)) (i k4 (by decide))
 .exact wJ h1.nY λC a e=>by have:=lt (h1.iJ a).1;rw[q] at e;omega
 .rcases UA.1 a with a|a<;>rcases UA.1 j with j|j
  .exact h1.hs C a D j
  .rw[Uo.1 j];exact(r.1 C a).1
  .rw[Uo.1 a];let⟨s,_⟩:=r.1 D j;exact⟨λe=>(s.1 e.symm).symm,λe=>(s.2 e.symm).symm⟩
  rw[Uo.1 a,Uo.1 j];exact⟨λ_=>rfl,λ_=>rfl⟩
 rcases UA.1 a with a|a
 .exact h1.br C a R m
 rw[Uo.1 a];exact r.2 R m
def vy{α:Type}(f:Nat->α)(a:Nat)(v u:α):aE (aE f a v) a u=aE f a u:=by
 funext x
 unfold aE;split<;>rfl
def Inv.Bz{b l w d}(h:Inv b l w d):∃ar cr,d.bv=lV ar d.aC.length cr:=by
 let⟨a,c,e,_⟩:=dM h.wo.rb;rw[UM] at e;exact⟨a,c,e⟩
def Inv.sA{m l w d}(h:Inv m l w d){a n c}(e:d.bv=lV a n c){i B}(j:d.aC[i]? =some B):∃g,a=some ⟨g,0,none⟩/\g<w.heap.size/\yc w g i (pV (qA B.bb)):=by
 have b:=h.wo.rb;rw[e] at b;let⟨a',o,k,_,_,f⟩:=dM b;cases k;have hi:=(Ux.1 j).1;rcases f with⟨_,h0,_⟩|⟨g,rfl⟩
 .rw[UM] at h0;omega
 exact⟨g,rfl,(b.lt g rfl).2,fc b rfl i _ (by rw[UK,j];rfl)⟩
def Inv.te{a l w d}(h:Inv a l w d):w.cell? ⟨a,0,none⟩=some d.bv/\a<w.heap.size/\w.frozen? ⟨a,0,none⟩=false:=
 ⟨by rw[Ur w a 0 _ _ _ h.wo.ai];rfl,(Um.1 h.wo.ai).1,US w a 0 _ _ h.wo.ai⟩
def mN:eO:=⟨0,0,0,0,lV none 0 0,lV none 0 0,.nil,[],[]⟩
def Gt{r l w d}(h:Inv r l w d){B}(p:B∈d.aC)(L:d.aC.length<4000000000):yC 18 #[pV (qA r),pV (qA B.bb)] w λe w'=>e=rV (tV #[])/\∃l' t,Inv r l' w' (d.cP B.sb B.hb (d.yes B.hb) t (d.us B.sb) (d.ps B.sb)):=by
 let⟨C,D,z⟩:=h.Bz;have N:∀t,d.cP B.sb B.hb (d.yes B.hb) t (d.us B.sb) (d.ps B.sb)= {d with dW:=aE d.dW B.hb t}:=λt=>by
  unfold Dt.cP;rw[l7,l7,l7]
 have v:∀i,i<d.aC.length->d.aC[i]? =some (d.aC.getD i mN):=λi hi=>by rw[Up,Uh hi];rfl
 have u:∀i,∃a c,i<d.aC.length->(d.aC.getD i mN).bv=lV a (d.aC.getD i mN).base.length c:=λi=>by
  by_cases hi:i<d.aC.length
  .let⟨S,j⟩:=h.bk _ (UQ (v i hi));let⟨a,c,e,_⟩:=dM j.pb;exact⟨a,c,λ_=>e⟩
  exact⟨none,0,λk=>absurd k hi⟩
 refine(KY w r B.bb B.sb B.hb d.aC.length D C L (λi=>(d.aC.getD i mN).bb) (λi=>(d.aC.getD i mN).hb) (λi=>(d.aC.getD i mN).base.length) (λi=>(u i).choose_spec.choose) (λi=>(u i).choose)
  (λW=>∃l t,Inv r l W (d.cP B.sb B.hb (d.yes B.hb) t (d.us B.sb) (d.ps B.sb))) ?_ ?_ ?_ ?_ ?_ ?_ ?_).mono ?_
 .refine⟨l,d.dW B.hb,?_⟩;rwa[N,l7]
 .rintro W⟨l,t,f⟩;let⟨k0,kw,_⟩:=f.te;have F:(d.cP B.sb B.hb (d.yes B.hb) t (d.us B.sb) (d.ps B.sb)).bv=d.bv:=rfl;rw[F,z] at k0;let⟨S,j⟩:=f.bk B p;have o:=f.cP B p;let⟨c0,_,_,_,c4⟩:=j.cells;have d1:=o.cells.2;have O:(d.cP B.sb B.hb (d.yes B.hb) t (d.us B.sb) (d.ps B.sb)).dW B.hb=t:=cF _ _ _;rw[O] at d1;exact⟨t,⟨k0,kw⟩,⟨c0,c4,j.bk.lt⟩,d1,US W B.hb 1 _ _ o.hu,o.hu.lt⟩
 .rintro W i⟨l,t,f⟩ hi;have s:=v i hi;have q:=UQ s;let⟨g,J,K,G⟩:=f.sA (show(d.cP B.sb B.hb (d.yes B.hb) t (d.us B.sb) (d.ps B.sb)).bv=_ from z) s;let⟨S,j⟩:=f.bk _ q;let⟨_,_,_,c3,c4⟩:=j.cells;rw[(u i).choose_spec.choose_spec hi] at c3;exact⟨g,J,K,G,j.bk.lt,c4,c3⟩
 .rintro W n⟨l,t,f⟩;exact⟨l,t,f.idle (Mv.uI l W n _)⟩
 .rintro W i⟨l,t,f⟩ hi e;have s:=v i hi;have q:=UQ s;let⟨S,j⟩:=f.bk _ q;have o:=f.cP B p;have e1:(d.cP B.sb B.hb (d.yes B.hb) t (d.us B.sb) (d.ps B.sb)).us B.sb=d.us B.sb:=cF _ _ _;have e2:(d.cP B.sb B.hb (d.yes B.hb) t (d.us B.sb) (d.ps B.sb)).ps B.sb=d.ps B.sb:=cF _ _ _;rw[e1,e2] at o;have A:=j.pb;rw[(u i).choose_spec.choose_spec hi] at A;refine(QN o.st.rZ (λx P=>o.st.st.eM x P) (λk t e=>by have:=o.st.sm k t e;unfold maxLen;omega) _ (d.aC.getD i mN).base A (by have:=j.nb;omega) j.ob f.bz).mono ?_;rintro e w'⟨b,H,E⟩;exact⟨b,H,_,t,f.idle (Mv.below (fO []) l E)⟩
 .rintro W i⟨l,t,f⟩ hi M;have q:=UQ (v i hi);exact NL M (f.cP _ q).hu (f.cP B p).hu
 .rintro W⟨l,t,f⟩;have o:=f.cP B p;let⟨I,m⟩:=o.MB (f.pf p);have y:=f.family p m I;refine⟨l,true,?_⟩;have e:(d.cP B.sb B.hb (d.yes B.hb) t (d.us B.sb) (d.ps B.sb)).cP B.sb B.hb ((d.cP B.sb B.hb (d.yes B.hb) t (d.us B.sb) (d.ps B.sb)).yes B.hb) true ((d.cP B.sb B.hb (d.yes B.hb) t (d.us B.sb) (d.ps B.sb)).us B.sb) ((d.cP B.sb B.hb (d.yes B.hb) t (d.us B.sb) (d.ps B.sb)).ps B.sb)=d.cP B.sb B.hb (d.yes B.hb) true (d.us B.sb) (d.ps B.sb):=by
   unfold Dt.cP;simp only[l7,vy]
  rwa[e] at y
 rintro e w'⟨h1,h2⟩;exact⟨h1,h2.o⟩
def Jm(l r:List yB):∀n,n<=l.length->bY (l++r) n=bY l n
 | 0,_=>rfl
 |n+1,h=>by
  show(bY (l++r) n || (match (l++r)[n]? with|some x=>gE (l++r) x n|none=>false))=(bY l n || (match l[n]? with|some x=>gE l x n|none=>false))
  rw[Jm l r n (by omega),UW (by omega),Uh (by omega)]
  show(bY l n || (((l++r).take n).any _))=(bY l n || ((l.take n).any _))
  rw[List.take_append_of_le_length (by omega)]
def Wd.kn{k k':Kn}{e f X m b}(h:Wd k e f X m b)(g:k'.B=k.B):Wd k' e f X m b:=
 ⟨h.dJ,h.fit,λx a c d=>⟨(h.ld x a c d).1,λi=>by rw[g];exact(h.ld x a c d).2 i⟩,h.oZ,h.inj,h.tw⟩
def dh.EF{l W R S Q}(h:dh l W R S Q)(x:yB)(F:x.size<=1073741824)(s:R.seen.length+1<1000000000):∃a' n' d w' l',(Builtin.append_ #[63,63] 63 #[R.sv,lV (qA W.heap.size) 1 1]).run yP (W.alloc (.cells #[sV x] 9))=.ok (lV a' n' d) w'/\Mv (λx=>x=pr R.rb 0) l l' W w'/\w'.heap[R.rb]? =W.heap[R.rb]?/\Mv (λx=>x=pr R.rb 0) l l' W (w'.setCell ⟨R.rb,4,none⟩ (lV a' n' d))/\dh l' (w'.setCell ⟨R.rb,4,none⟩ (lV a' n' d)) {R with sv:=lV a' n' d,seen:=R.seen++[x]} S Q:=by
 have c:=h.y;have A:∀{a' n' d},({R with sv:=lV a' n' d,seen:=R.seen++[x]}:aV).de->R.de:=λh=>⟨h.1,by
  have h2:bY (R.seen++[x]) (R.seen++[x]).length=false:=h.2;rw[Uq] at h2;have h3:(bY (R.seen++[x]) R.seen.length || _)=false:=h2;rw[Bool.or_eq_false_iff,Jm _ _ _ (Ug _)] at h3;exact h3.1⟩
 have K:∀y∈R.seen,y∈R.seen++[x]:=λy c=>UR _ c
 let⟨n1,n2,n3,n4,n5⟩:=h.ne;have h3:=h.x.bz.size;let⟨f,z⟩:=yX (W.alloc (.cells #[sV x] 9));have z1:f.heap.size=W.heap.size+1:=by rw[z];exact nO W _
 have m1:Mv (λ_=>False) l (fA l W.heap.size 0) W f:=by rw[z];exact Mv.qL l W _ _
 have Z:f.ownsRow 3 9 1 R.sv R.seen.length (R.seen.map Value.string):=cM c.sn λg n=>m1.ai g (c.sn.lt g n).2 id
 let⟨v',w',N,D,n,C⟩:=uR f 3 R.sv R.seen Z 0 (lV (qA W.heap.size) 1 1) [x] (by rw[z];exact dE.one W x) (by simp;omega) (by omega);obtain⟨a',d,rfl,_⟩:=dM D;let⟨j,M⟩:=yX ((R.seen++[x]).length);rw[<-M] at N D C;have O:R.rb<W.heap.size:=c.jm;have L:R.sv.ownBlock≠some R.rb:=λe=>df (pZ c.sn e) (iQ c.ai) (by decide) rfl
 have X:w'.heap[R.rb]? =f.heap[R.rb]? :=n.block R.rb (by omega) λe=>L e.symm
 have H:w'.heap[R.rb]? =W.heap[R.rb]? :=X.trans (m1.ai R.rb O id);obtain⟨l',I⟩:∃l':Nat->Nat,l'=fA (fA l W.heap.size 0) f.heap.size (pr R.rb 0):=⟨_,rfl⟩
 have P:∀k,k<f.heap.size->l' k=fA l W.heap.size 0 k:=λk p=>by rw[I];exact nP p
 have lo:∀k,k<W.heap.size->l' k=l k:=λk p=>(P k (by omega)).trans (nP p)
 have ln:∀k,f.heap.size<=k->l' k=pr R.rb 0:=λk p=>by rw[I];exact oR p
 have m2:Mv (λx=>x=pr R.rb 0) (fA l W.heap.size 0) l' f w':=⟨n.os,n.tape,n.output,n.size,P,λk p s=>n.block k p λe=>s (by
  have V:=(c.sn.lt k e.symm).2;rw[nP V];exact c.ls k e.symm)⟩
 have m:Mv (λx=>x=pr R.rb 0) l l' W w':=(m1.mono λ_ F=>F.elim).trans m2;have J:l' R.rb=pr R.rb 0:=(lo R.rb O).trans c.lb;have m3:Mv (λx=>x=pr R.rb 0) l' l' w' (w'.setCell ⟨R.rb,4,none⟩ (lV a' j d)):=by
  have:=rk (l:=l') (w:=w') (b:=R.rb) (i:=4) (v:=lV a' j d);rwa[J] at this
 have o:=m.trans m3;have E:∀{a b:Nat},a≠R.rb->¬(pr a b=pr R.rb 0):=λs e=>s (fS e).1
 have h0:¬((0:Nat)=pr R.rb 0):=λe=>by have:=iu R.rb 0;omega
 refine⟨a',j,d,w',l',by rwa[<-z],m,H,o,⟨⟨?_,((h.x.move o h0 (E λe=>n4 e.symm) λb=>E n1).kn (k':=({R with sv:=lV a' j d,seen:=R.seen++[x]}:aV).kn) rfl A).ev λY r T B=>(T (A B)).kn rfl⟩,λB=>⟨(h.k (A B)).1.more K,(h.k (A B)).2.more K⟩⟩⟩;have U:∀g,(Value.slice a' j d).ownBlock=some g->g≠R.rb:=λg q e=>by
  rcases C g q with k|k
  .exact L (by rwa[<-e])
  omega
 exact
  {ai:=by
    have G:w'.heap[R.rb]? =_:=H.trans c.ai;show(w'.setCell ⟨R.rb,4,none⟩ (lV a' j d)).heap[R.rb]? =_;rw[U7 w' R.rb 4 _ _ (0,0) _ G,Vk w' R.rb _ _ _ _ G];rfl
   lb:=J
   pm:=(c.pm.mv c.lm o h0).1
   lm:=(c.pm.mv c.lm o h0).2
   pb:=(c.pb.mv c.lv o h0).1
   lv:=(c.pb.mv c.lv o h0).2
   sn:=by
    show(w'.setCell ⟨R.rb,4,none⟩ (lV a' j d)).ownsRow 3 9 1 (lV a' j d) (R.seen++[x]).length _;rw[<-M];exact cM D λg q=>Uy _ _ _ _ λe=>U g q e
   ls:=λg q=>by
    rcases C g q with k|k
    .exact(lo g (c.sn.lt g k).2).trans (c.ls g k)
    exact ln g k
   sm:=λt u=>by
    rcases UA.1 u with u|u
    .exact c.sm t u
    rwa[Uo.1 u]
   tn:=(o.ai R.tt c.qj (by rw[c.lt];exact E λe=>n3 e.symm)).trans c.tn
   lt:=(o.bt _ c.qj).trans c.lt
   nm:=c.nm
   nb:=c.nb
   ns:=by show(R.seen++[x]).length<_;rw[Uq,Vm];exact s}
def du(sb:Nat):List aV->Nat
 | []=>0
 |R::rs=>(if R.sb=sb then R.N else 0)+du sb rs
def yJ{sb}:∀{rs R},R∈rs->R.sb=sb->R.N<=du sb rs
 |Q::rs,R,h,e=>by
  rcases UC.1 h with rfl|h
  .show R.N<=(if R.sb=sb then R.N else 0)+_
   rw[Uj e];omega
  have:=yJ h e
  show R.N<=(if Q.sb=sb then Q.N else 0)+du sb rs
  omega
def yK{sb f}:∀{rs},(∀Q∈rs,(f Q).sb=Q.sb/\(f Q).N=Q.N)->du sb (rs.map f)=du sb rs
 | [],_=>rfl
 |Q::rs,h=>by
  have h1:=h Q (Uk ..)
  have b:=yK (sb:=sb) (rs:=rs) λP a=>h P (Ul _ a)
  show(if(f Q).sb=sb then(f Q).N else 0)+du sb (rs.map f)=(if Q.sb=sb then Q.N else 0)+du sb rs
  rw[h1.1,h1.2,b]
def Dr{sb rb f K}:∀{rs:List aV},(rs.map aV.rb).Nodup->(∀Q∈rs,(f Q).sb=Q.sb/\(Q.rb≠rb->(f Q).N=Q.N)/\(Q.rb=rb->(f Q).N<=Q.N+K))->du sb (rs.map f)<=du sb rs+K
 | [],_,_=>UD _
 |Q::rs,hn,h=>by
  let⟨h1,h2,h3⟩:=h Q (Uk ..)
  rw[List.map_cons,List.nodup_cons] at hn
  show(if(f Q).sb=sb then(f Q).N else 0)+du sb (rs.map f)<=(if Q.sb=sb then Q.N else 0)+du sb rs+K
  rw[h1]
  by_cases e:Q.rb=rb
  .have c:du sb (rs.map f)=du sb rs:=yK λP a=>by
    let⟨k1,k2,_⟩:=h P (Ul _ a)
    exact⟨k1,k2 λb=>hn.1 (UO.2 ⟨P,a,b.trans e.symm⟩)⟩
   have:=h3 e
   rw[c]
   split<;>omega
  have d:=Dr (sb:=sb) (rb:=rb) (K:=K) hn.2 λP a=>h P (Ul _ a)
  rw[h2 e]
  omega
def yM{sb}:∀{a b},du sb (a++b)=du sb a+du sb b
 | [],b=>by show du sb b=0+_;omega
 |R::a,b=>by
  have:=yM (sb:=sb) (a:=a) (b:=b)
  show(if R.sb=sb then R.N else 0)+du sb (a++b)=(if R.sb=sb then R.N else 0)+du sb a+du sb b
  omega
structure gd(L a b s:Nat)(d:Dt):Prop where
 len:d.ao.length<=L
 gB:∀R∈d.ao,(d.ps R.sb).length+du R.sb d.ao<=a
 hw:∀R∈d.ao,bA R.m<=b/\bA R.base<=b
 sn:∀R∈d.ao,R.seen.length<=s
def gd.N{L a b s d}(h:gd L a b s d){R}(c:R∈d.ao):R.N<=a/\(d.ps R.sb).length<=a:=by
 have h1:=h.gB R c;have h2:=yJ c (rfl:R.sb=R.sb);omega
def gd.mono{L a b s e a' f g d}(h:gd L a b s d)(h1:L<=e)(h2:a<=a')(h3:b<=f)(h4:s<=g):gd e a' f g d:=
 ⟨Ut h.len h1,λR c=>Ut (h.gB R c) h2,λR c=>⟨Ut (h.hw R c).1 h3,Ut (h.hw R c).2 h3⟩,λR c=>Ut (h.sn R c) h4⟩
def gd.put{q x l w L a b s K j i d}(h:gd L a b s d)(p:dq q x l w d){R c}(v:R∈d.ao)(hs:lA R c)(t:c.N<=R.N+K)(z:bA c.m<=bA R.m+j)(y:bA c.base<=b)(A:c.seen.length<=R.seen.length+i):gd L (a+K) (b+j) (s+i) {d with ao:=oU d.ao c}:=by
 have n:∀Q∈d.ao,Q.rb=c.rb->Q=R:=λQ f e=>mu p.jc f v (e.trans hs.rb)
 have r:∀Q∈d.ao,lA Q (eL c Q):=λQ f=>zo λe=>by rwa[n Q f e]
 have u:∀Q∈d.ao,(eL c Q).sb=Q.sb/\(Q.rb≠R.rb->(eL c Q).N=Q.N)/\(Q.rb=R.rb->(eL c Q).N<=Q.N+K):=λQ f=>by
  refine⟨(r Q f).sb,λe=>?_,λe=>?_⟩
  .unfold eL;rw[Ui (λk=>e (k.trans hs.rb))];split<;>rfl
  have k:Q.rb=c.rb:=e.trans hs.rb.symm;unfold eL;rwa[Uj k,n Q f k]
 have o:∀Q∈d.ao,bA (eL c Q).m<=b+j/\bA (eL c Q).base<=b+j/\(eL c Q).seen.length<=s+i:=λQ f=>by
  have k1:=h.hw Q f;have k2:=h.sn Q f;unfold eL;split
  .next e=>
   rw[n Q f e] at k1 k2;exact⟨by omega,by omega,by omega⟩
  split
  .show bA Q.m<=_/\bA Q.base<=_/\Q.seen.length<=_;exact⟨by omega,by omega,by omega⟩
  exact⟨by omega,by omega,by omega⟩
 refine⟨?_,λP g=>?_,λP g=>?_,λP g=>?_⟩
 .show(oU d.ao c).length<=L;unfold oU;rw[UM];exact h.len
 .obtain⟨Q,f,rfl⟩:=UO.1 g;show(d.ps (eL c Q).sb).length+du (eL c Q).sb (d.ao.map (eL c))<=a+K;rw[(r Q f).sb];have k1:=h.gB Q f;have k2:=Dr (sb:=Q.sb) (rb:=R.rb) (K:=K) p.jc u;omega
 .obtain⟨Q,f,rfl⟩:=UO.1 g;exact⟨(o Q f).1,(o Q f).2.1⟩
 obtain⟨Q,f,rfl⟩:=UO.1 g;exact(o Q f).2.2
structure iY(d d':Dt):Prop where
 w0:d'.w0=d.w0
 aC:d'.aC=d.aC
 yes:d'.yes=d.yes
 dW:d'.dW=d.dW
 ps:∀B∈d.aC,d'.ps B.sb=d.ps B.sb
def iY.refl(d:Dt):iY d d:=⟨rfl,rfl,rfl,rfl,λ_ _=>rfl⟩
def iY.trans{d d1 d2}(h:iY d d1)(k:iY d1 d2):iY d d2:=⟨k.w0.trans h.w0,k.aC.trans h.aC,k.yes.trans h.yes,k.dW.trans h.dW,λB a=>(k.ps B (by rwa[h.aC])).trans (h.ps B a)⟩
def jr:yL->Bool:=λ_=>true
def Pz(t):cS jr t=(cf t true).length:=by unfold cS jr;simp
def NA{G t key value}(a:aA t 0):aA (b6 G t key value) 0:=by
 unfold b6;split
 .next h=>exact ry a h
 unfold fR;split
 .exact a
 split
 .exact a
 exact jk G t key a
def R5{G t key}(a:aA t 0)(d:bK t):aA (bC G t key).1 0:=by
 unfold bC;split
 .exact a
 next h40=>
 have b:=jk G t key a;split
 .exact b
 next h0=>
 have c:(aG G t key).2=0:=Va h0;split
 .exact b
 next hf=>
 cases hl:bI G (aG G t key).1 (aD key) 0 with
 |error e=>exact b
 |ok t'=>exact(lk G _ (aD key) 0 t' b (oY G t key a d) (kA G t key a (by omega) c) (px _ _ hf) (b8 key) (by rw[g6];omega) hl).1.ok
structure gH(n c:Nat)(d:Dt):Prop where
 len:d.aC.length<=n
 mm:∀B∈d.aC,B.m.length<=n/\B.base.length<=n
 nm:∀B∈d.aC,cS jr B.t<=12*c
 ps:∀B∈d.aC,(d.ps B.sb).length<=12582913*n
def gH.mono{n c e b d}(h:gH n c d)(h1:n<=e)(h2:c<=b):gH e b d:=
 ⟨Ut h.len h1,λB a=>⟨Ut (h.mm B a).1 h1,Ut (h.mm B a).2 h1⟩,λB a=>Ut (h.nm B a) (Nat.mul_le_mul_left _ h2),λB a=>Ut (h.ps B a) (Nat.mul_le_mul_left _ h1)⟩
structure RS(d d':Dt):Prop where
 w0:d'.w0=d.w0
 ao:d'.ao=d.ao
 ps:∀R∈d.ao,d'.ps R.sb=d.ps R.sb
def RS.refl(d:Dt):RS d d:=⟨rfl,rfl,λ_ _=>rfl⟩
def gd.rs{L a b s d e}(h:gd L a b s d)(k:RS d e):gd L a b s e:=
 ⟨by rw[k.ao];exact h.len,λR c=>by rw[k.ao] at c⊢;rw[k.ps R c];exact h.gB R c,λR c=>by rw[k.ao] at c;exact h.hw R c,λR c=>by rw[k.ao] at c;exact h.sn R c⟩
def gH.ds{n c d b}(h:gH n c d)(k:iY d b):gH n c b:=
 ⟨by rw[k.aC];exact h.len,λB a=>by rw[k.aC] at a;exact h.mm B a,λB a=>by rw[k.aC] at a;exact h.nm B a,λB a=>by rw[k.aC] at a;rw[k.ps B a];exact h.ps B a⟩
def gH.put{n c g f d}(h:gH n c d)(h1:n<=g)(h2:c<=f){B b}(i:B∈d.aC)(hs:vk B b)(k:b.m.length<=g)(j:b.base=B.base)(l:cS jr b.t<=12*f):gH g f {d with aC:=mn d.aC b}:=by
 have e:=h.mono h1 h2;refine⟨?_,λC a=>?_,λC a=>?_,λC a=>?_⟩
 .show(mn d.aC b).length<=_;unfold mn;rw[UM];exact e.len
 .rcases qi a with rfl|⟨a,_⟩
  .exact⟨k,by rw[j];exact(e.mm B i).2⟩
  exact e.mm C a
 .rcases qi a with rfl|⟨a,_⟩
  .exact l
  exact e.nm C a
 rcases qi a with rfl|⟨a,_⟩
 .rw[hs.sb];exact e.ps B i
 exact e.ps C a
def Inv.Sw{k l w d}(h:Inv k l w d){B}(c:B∈d.aC)(r:(d.ps B.sb).length+cS jr B.t<4000000000000):yC 38 #[pV (qA B.tb)] w λe w'=>e=rV (sV (ae (bQ B.t)))/\∃l' j,Inv k l' w' (d.cP B.sb B.hb (d.yes B.hb) (d.dW B.hb) j (aT (d.ps B.sb) (cf B.t true))):=by
 let⟨S,f⟩:=h.bk B c;have a:=h.cP B c;have g:=h.pf c;have o:Fits (d.ps B.sb) (cf B.t true):=λl' p=>by
  have key:=(wv (λ_=>B.t) [0] 0 (Uo.2 rfl) l' (d.ps B.sb) p).1;have h1:gB (d.ps B.sb) (λ_=>B.t) [0]<=(d.ps B.sb).length+cS jr B.t+1:=by
   unfold gB;show _+(cS (gh (d.ps B.sb)) B.t+1+0)<=_;have:cS (gh (d.ps B.sb)) B.t<=cS jr B.t:=uL (λ_ _=>rfl) _;omega
  have h2:(aT (d.ps B.sb) l').length+1<=gB (aT (d.ps B.sb) l') (λ_=>B.t) [0]:=by
   unfold gB;show _<=_+(cS _ B.t+1+0);omega
  omega
 refine(Jb f.tr f.loose (λx i e=>g.b.2.1 (by rw[<-e,f.lS x i])) (λe=>g.b.2.1 (by rw[<-e,f.lt])) a.st a.ls h.bz o).mono ?_;rintro e w'⟨n,l',j,m,hs,q⟩;exact⟨n,l',j,h.family c (m.mono λx i=>.inl i) ⟨(m.kept a.hu.lt a.lh λe=>g.b.1 e.symm).trans a.hu,(m.bt _ a.hu.lt).trans a.lh,hs,q⟩⟩
def Na{r:yL}(h:r.length=32):bQ (bP r)=r:=by
 unfold bP;split
 .next e=>rw[e];rfl
 show(if r=[] then _ else r)=r;rw[Ui];intro e;rw[e] at h;cases h
def o7(B:eO)(n a:Nat):eO:=⟨a,B.sb,n,B.hb,B.mv,B.mv,bP (bQ B.t),B.m,B.m⟩
def pF(d:Dt)(B:eO)(a:Nat->Value):Dt:=d.cP B.sb B.hb (d.yes B.hb) (d.dW B.hb) a (aT (d.ps B.sb) (cf B.t true))
def jE(d:Dt)(B:eO)(a:Nat->Value)(n b:Nat)(c:Value):Dt:=(pF d B a).book (o7 B n b) c (d.yes B.hb) (d.dW B.hb) a (aT (d.ps B.sb) (cf B.t true))
def sr(d:Dt)(B:eO)(c:Nat->Value)(n a:Nat)(b:Value)(t:Bool):Dt:=(jE d B c n a b).cP B.sb B.hb ((jE d B c n a b).yes B.hb) t ((jE d B c n a b).us B.sb) ((jE d B c n a b).ps B.sb)
def Jj(d:Dt)(B:eO)(c)(n a:Nat)(b):(jE d B c n a b).aC=d.aC++[o7 B n a]/\(jE d B c n a b).ao=d.ao/\(jE d B c n a b).yes=d.yes/\(jE d B c n a b).dW=d.dW/\(∀x,x≠B.sb->(jE d B c n a b).ps x=d.ps x)/\(jE d B c n a b).ps B.sb=aT (d.ps B.sb) (cf B.t true):=by
 refine⟨rfl,rfl,?_,?_,λx e=>?_,?_⟩
 .show aE (aE d.yes B.hb (d.yes B.hb)) B.hb (d.yes B.hb)=_;rw[vy,l7]
 .show aE (aE d.dW B.hb (d.dW B.hb)) B.hb (d.dW B.hb)=_;rw[vy,l7]
 .show aE (aE d.ps B.sb _) B.sb _ x=_;rw[vy,cl _ _ e]
 show aE (aE d.ps B.sb _) B.sb _ B.sb=_;rw[cF]
def SI{d:Dt}{B}(j:B∈d.aC){n c}(g:gH n c d)(q:c<=1048576)(i)(b a:Nat)(h)(t:Bool):gH (n+1) c (sr d B i b a h t):=by
 let⟨p1,p2,p3,p4,p5,p6⟩:=Jj d B i b a h;have k:∀C∈(sr d B i b a h t).aC,C∈d.aC\/C=o7 B b a:=λC f=>by
  have l:C∈d.aC++[o7 B b a]:=f;rcases UA.1 l with h1|h1
  .exact .inl h1
  exact .inr (Uo.1 h1)
 have p:∀x,(sr d B i b a h t).ps x=(jE d B i b a h).ps x:=λx=>by
  show aE (jE d B i b a h).ps B.sb _ x=_;rw[l7]
 have o:(aT (d.ps B.sb) (cf B.t true)).length<=12582913*(n+1):=by
  have h1:=Gs (cf B.t true) (d.ps B.sb);have h2:=g.ps B j;have h3:=g.nm B j;rw[Pz] at h3;omega
 refine⟨?_,λC f=>?_,λC f=>?_,λC f=>?_⟩
 .show(d.aC++[o7 B b a]).length<=_;rw[Uq,Vm];have:=g.len;omega
 .rcases k C f with h1|rfl
  .have:=g.mm C h1;exact⟨by omega,by omega⟩
  have:=g.mm B j;show B.m.length<=_/\B.m.length<=_;exact⟨by omega,by omega⟩
 .rcases k C f with h1|rfl
  .exact g.nm C h1
  show cS jr (bP (bQ B.t))<=_;rw[zM];exact UD _
 rw[p];by_cases e:C.sb=B.sb
 .rwa[e,p6]
 rw[p5 _ e];rcases k C f with h1|rfl
 .have:=g.ps C h1;omega
 exact absurd rfl e
def QR{j l w d}(h:Inv j l w d){B}(g:B∈d.aC){n c}(H:gH n c d)(A8:c<=1048576)(B7:n+1<200000):yC 16 #[pV (qA j),pV (qA B.bb)] w λe w'=>e=rV (bV true)/\∃l' d',Inv j l' w' d'/\gH (n+1) c d'/\RS d d':=by
 let⟨E,F,A1⟩:=h.Bz;let⟨S0,A0⟩:=h.bk B g;let⟨Q,U,A2,_⟩:=dM A0.pm;have hK:=A0.tr.ok;have N:(bQ B.t).length=32:=oS hK.aK;have B6:=H.len;have I:∀{W:World} {l:Nat->Nat} {d1:Dt},Inv j l W d1->B∈d1.aC->(W.cell? ⟨B.bb,1,none⟩=some (pV (qA B.tb))/\W.cell? ⟨B.bb,0,none⟩=some (pV (qA B.sb))/\W.cell? ⟨B.bb,2,none⟩=some (lV Q B.m.length U)/\W.cell? ⟨B.bb,4,none⟩=some (pV (qA B.hb)))/\B.bb<W.heap.size:=λa D=>by
  let⟨S,z⟩:=a.bk B D;let⟨c0,c1,c2,_,c4⟩:=z.cells;rw[A2] at c2;exact⟨⟨c1,c0,c2,c4⟩,z.bk.lt⟩
 have O:∀{W:World} {l:Nat->Nat} {d1:Dt} {C:eO},Inv j l W d1->C∈d1.aC->yC 37 #[pV (qA C.tb)] W λe w'=>e=rV (sV (ae (bQ C.t)))/\yW W w':=λa D=>by
  let⟨S,z⟩:=a.bk _ D;let⟨u,t1,t2⟩:=z.tr.at_;exact qQ _ _ _ u _ S t1 t2 z.tr.ok.aK a.bz
 refine(Su w j B.bb B.sb B.tb B.hb d.aC.length F E Q B.m.length U (ae (bQ B.t))
  (λW=>∃l,Inv j l W d) (λW=>∃l b,Inv j l W (pF d B b)) (λW=>∃l b f i k t,Inv j l W (sr d B b f i k t))
  (λf W=>∃l b S,Inv j l W (pF d B b)/\eX W f (qA B.sb) S (bP (bQ B.t))/\(∀x,S x->l x=pr f 0)/\l f=pr f 0/\∀C∈d.aC,C.tb≠f)
  (λf W=>∃l b i k,Inv j l W (jE d B b f i k)) (λf W=>∃l b i k t,Inv j l W (sr d B b f i k t))
  ⟨l,h⟩ ?_ ?_ ?_ ?_ ?_ ?_ ?_ ?_ ?_ ?_).mono ?_
 .rintro W⟨l,a⟩;let⟨⟨c1,_⟩,r⟩:=I a g;exact⟨c1,r⟩
 .rintro W⟨l,b,a⟩;let⟨⟨c1,c0,_⟩,r⟩:=I a g;exact⟨c1,c0,r⟩
 .rintro f W⟨l,b,S,a,_⟩;let⟨⟨_,c0,c2,c4⟩,r⟩:=I a g;let⟨k0,kw,_⟩:=a.te;have:(pF d B b).bv=lV E d.aC.length F:=A1;rw[this] at k0;exact⟨⟨k0,kw⟩,c0,c2,c4,r⟩
 .rintro W⟨l,a⟩;exact(O a g).mono λe w'⟨h1,h2⟩=>⟨h1,_,a.idle (Mv.below (fO []) l h2)⟩
 .rintro W⟨l,a⟩;refine(a.Sw g (by
   have h1:=H.ps B g;have h2:=H.nm B g;omega)).mono ?_
  rintro e w'⟨q,l',B5,s⟩;exact⟨q,l',B5,s⟩
 .rintro W⟨l,b,a⟩;exact(O a g).mono λe w'⟨h1,h2⟩=>⟨h1,_,b,a.idle (Mv.below (fO []) l h2)⟩
 .rintro W⟨l,b,a⟩;refine(sL W (qA B.sb) (bQ B.t) N a.bz).mono ?_;rintro e w'⟨P,u,q,B3,A6,hA,A7⟩;have m:Mv (λ_=>False) l (fA l W.heap.size (pr P 0)) W w':=Mv.FB A7 _;have h3:=a.bz.size;refine⟨P,q,_,b,λx=>(W.heap.size<=x/\x≠P)/\x<w'.heap.size,a.idle (m.j9 _),⟨⟨u,A6,hA.cut⟩,qZ N,λx J=>⟨by omega,J.1.2,J.2⟩⟩,λx J=>oR J.1.1,oR B3,λC G e=>?_⟩;have:=lF (a.iJ (B:=C) G).2.1;omega
 .rintro f W⟨l,b,S,a,hT,lS,ln,B2⟩;have mD:Mv (λ_=>False) l l W W.drew:=Mv.uI l W 1 _;have y:=a.idle (mD.j9 _);let⟨S1,p⟩:=y.bk B g;have A:=y.cP B g;have hN:Ca l W.drew (o7 B f W.heap.size) S:=⟨hT.same (Ug _) λx _ _=>rfl,(by show bK (bP _);unfold bP;split<;>trivial),lS,ln,p.pm,p.lm,p.om,p.nm,⟨rfl,rfl⟩⟩
  have ey:(pF d B b).yes B.hb=d.yes B.hb:=cF _ _ _;have Y:(pF d B b).dW B.hb=d.dW B.hb:=cF _ _ _;have Z:(pF d B b).us B.sb=b:=cF _ _ _;have X:(pF d B b).ps B.sb=aT (d.ps B.sb) (cf B.t true):=cF _ _ _;rw[ey,Y,Z,X] at A;have A5:cI l (fD (o7 B f W.heap.size)) W.drew B.sb B.hb (d.yes B.hb) (d.dW B.hb) b (aT (d.ps B.sb) (cf B.t true)):=⟨A.hu,A.lh,A.st,A.ls⟩
  let⟨a',T,w',hr,A9,B0,l',mA,s⟩:=FC y hN A5 rfl (by show d.aC.length<_;omega) B2 ⟨λC G=>⟨a.hs C G B g,λe=>by
   have e2:=(a.hs C G B g).1 e;have e':C.hb=B.hb:=e;rw[e',e2];exact⟨ey.symm,Y.symm,Z.symm,X.symm⟩⟩,λR K=>a.br B g R K⟩
  have V:(pF d B b).bv=lV E d.aC.length F:=A1;rw[V] at hr;have A3:(Builtin.append_ #[27,27] 27 #[lV E d.aC.length F,lV (some ⟨W.heap.size+1,0,none⟩) 1 1]).run yP ((W.drew.alloc (.cells #[pV (qA B.sb),pV (qA f),B.mv,B.mv,pV (qA B.hb)] 47)).alloc (.cells #[pV (qA W.heap.size)] 41))=.ok (lV a' (d.aC.length+1) T) w':=hr;rw[A2] at A3;have B1:=p.lb;have B4:pr B.bb 0≠pr j 0:=λe=>df p.kd.1 y.kw (by decide) (fS e).1
  have M:∀(o:Nat) (v:Value),W.cell? ⟨B.bb,o,none⟩=some v->w'.cell? ⟨B.bb,o,none⟩=some v:=λo v hv=>(Uz (w:=W) (A9 B.bb p.bk.lt (by rwa[B1]))).trans hv
  let⟨⟨_,c0,c2,c4⟩,r⟩:=I a g;have L:w'.heap[j]? =some (.cells #[(pF d B b).bv,(pF d B b).rv] 30 (0,0)):=B0.trans y.wo.ai;refine⟨a',_,T,w',A3,⟨⟨?_,M _ _ c0,M _ _ c2,M _ _ c4⟩,US w' j 0 _ _ L,(Um.1 L).1⟩,l',b,W.heap.size,_,s⟩;rw[Ur w' j 0 _ _ _ L,V];rfl
 .rintro f W⟨l,b,i,k,a⟩;have A4:B∈(jE d B b f i k).aC:=UR _ g;refine(Gt a A4 (by show(d.aC++[_]).length<_;rw[Uq,Vm];omega)).mono ?_;rintro e w'⟨q,l',t,s⟩;exact⟨q,l',b,i,k,t,s⟩
 .rintro f W⟨l,b,i,k,t,a⟩;have D:o7 B f i∈(sr d B b f i k t).aC:=UP _ (Uo.2 rfl);refine(O a D).mono ?_;rintro e w'⟨h1,h2⟩;have:bQ (o7 B f i).t=bQ B.t:=Na N;rw[this] at h1;exact⟨h1,_,b,f,i,k,t,a.idle (Mv.below (fO []) l h2)⟩
 rintro e w'⟨q,hP⟩;let⟨l',b,f,i,k,t,a⟩:=hP.o;refine⟨q,l',_,a,SI g H A8 b f i k t,⟨rfl,rfl,λR K=>?_⟩⟩;let⟨_,_,_,_,p5,_⟩:=Jj d B b f i k;show aE (jE d B b f i k).ps B.sb _ R.sb=_;rw[l7];exact p5 _ λe=>h.br B g R K e.symm
def SK(w:World)(s rb A z m N O M:Nat)(L C B8:Option Addr)(G D ns cs:Nat)(t:yB)(hM:M<4000000000)(J B Z:World->Prop) (V:Nat->World->Prop) (P3:Nat->Value->World->Prop) (F:Nat->Nat->Option Addr->Nat->(Nat->Nat)->(Nat->Nat)->World->Prop)(B6:yH (J w))(R:yH (∀W,J W->W.cell? ⟨rb,1,none⟩=some (pV (qA z))/\rb<W.heap.size))(S:yH (∀W,B W->W.cell? ⟨rb,1,none⟩=some (pV (qA z))/\W.cell? ⟨rb,0,none⟩=some (pV (qA A))/\rb<W.heap.size))(A6:yH (∀n W,V n W->W.cell? ⟨rb,4,none⟩=some (lV B8 ns cs)/\rb<W.heap.size))(A7:yH (∀n v W,P3 n v W->(W.cell? ⟨s,1,none⟩=some (lV L N O)/\s<W.heap.size)/\W.cell? ⟨rb,0,none⟩=some (pV (qA A))/\W.cell? ⟨rb,2,none⟩=some (lV C G D)/\W.cell? ⟨rb,5,none⟩=some (pV (qA m))/\rb<W.heap.size))(A0:yH (∀W,J W->yC 55 #[pV (qA z)] W λe w'=>e=rV (sV t)/\J w'))(A3:yH (∀W,J W->yC 56 #[pV (qA z)] W λe w'=>e=rV (sV t)/\B w'))(A1:yH (∀W,B W->yC 55 #[pV (qA z)] W λe w'=>e=rV (sV t)/\B w'))(A5:yH (∀W,B W->yC 22 #[pV (qA A),sV t] W λe w'=>∃n,e=rV (tV #[pV (qA n),i6 0])/\V n w'))(C9:yH (∀n W,V n W->∃a' n' l w',(Builtin.append_ #[63,63] 63 #[lV none 0 0,lV B8 ns cs]).run yP W=.ok (lV a' n' l) w'/\P3 n (lV a' n' l) w'))(C6:yH (∀n v W,P3 n v W->∃a' l w' f d,(Builtin.append_ #[28,28] 28 #[lV L N O,lV (some ⟨W.heap.size+1,0,none⟩) 1 1]).run yP ((W.drew.alloc (.cells #[pV (qA A),pV (qA n),lV C G D,lV C G D,v,pV (qA m)] 65)).alloc (.cells #[pV (qA W.heap.size)] 58))=.ok (lV a' M l) w'/\((w'.cell? ⟨s,1,none⟩=some (lV L N O)/\w'.cell? ⟨rb,0,none⟩=some (pV (qA A))/\w'.cell? ⟨rb,2,none⟩=some (lV C G D)/\w'.cell? ⟨rb,5,none⟩=some (pV (qA m)))/\w'.frozen? ⟨s,1,none⟩=false/\s<w'.heap.size)/\F 0 n a' l f d (w'.setCell ⟨s,1,none⟩ (lV a' M l))))(H:yH (∀i n a c f d W,F i n a c f d W->(W.cell? ⟨s,1,none⟩=some (lV a M c)/\s<W.heap.size)/\(W.cell? ⟨rb,5,none⟩=some (pV (qA m))/\rb<W.heap.size)/\(∃y:Bool,W.cell? ⟨m,0,none⟩=some (bV y))/\W.frozen? ⟨m,0,none⟩=false/\m<W.heap.size))(U:yH (∀j n a c f d W i,F j n a c f d W->i<M->∃g,a=some ⟨g,0,none⟩/\g<W.heap.size/\W.cell? ⟨g,i,none⟩=some (pV (some ⟨f i,0,none⟩))/\f i<W.heap.size/\W.cell? ⟨f i,5,none⟩=some (pV (some ⟨d i,0,none⟩))))(I:yH (∀i n a c f d W k,F i n a c f d W->F i n a c f d (W.drewN k)))(B0:yH (∀i n a c f d W,F i n a c f d W->i<M->d i≠m->F (i+1) n a c f d W))(A9:yH (∀i n a c f d W,F i n a c f d W->i<M->d i≠m->(binOp BinOp.eql 59 (pV (some ⟨d i,0,none⟩)) (pV (qA m))).run yP W=.ok (bV false) W))(A4:yH (∀i n a c f d W,F i n a c f d W->i<M->d i=m->yC 57 #[pV (some ⟨f i,0,none⟩)] W λe w'=>kS (λb=>b=false->F (i+1) n a c f d w') e/\F i n a c f d w'))(B1:yH (∀i n a c f d W,F i n a c f d W->i<M->F (i+1) n a c f d (W.setCell ⟨m,0,none⟩ (bV true))))(A2:yH (∀n a c f d W,F M n a c f d W->yC 55 #[pV (qA n)] W λe w'=>e=rV (sV t)/\Z w')):yC 25 #[pV (qA s),pV (qA rb)] w λe w'=>e=rV (bV true)/\yH (Z w'):=by
 obtain⟨c1,p⟩:=R.o _ B6.o;have u:=aa (A0.o _ B6.o);go_enter func25,ntmps25
 go_wp2_with fail
 apply u.m;rintro e w1⟨rfl,B9⟩;have C3:=aa (A3.o _ B9);clear u c1 p B6;obtain⟨c1,p⟩:=R.o _ B9;clear B9;go_wp2_with fail
 apply C3.m;rintro e w2⟨rfl,C0⟩;have u:=aa (A1.o _ C0);clear C3 c1 p;obtain⟨c1,_,p⟩:=S.o _ C0;clear C0;go_wp2_with fail
 apply u.m;rintro e w3⟨rfl,C1⟩;have C5:=aa (A5.o _ C1);clear u c1 p;obtain⟨_,c0,p⟩:=S.o _ C1;clear C1;go_wp2_with fail
 apply C5.m;rintro e w4⟨n,rfl,D1⟩;have B7:=aa D1;clear C5 c0 p D1;obtain⟨c4,p⟩:=A6.o _ _ B7.o;obtain⟨a5,n5,c5,w5,D5,C2⟩:=C9.o _ _ B7.o;have C8:=aa D5;obtain⟨⟨k1,x⟩,b0,b2,b5,E3⟩:=A7.o _ _ _ C2;obtain⟨a',l,w',f,d,hr,⟨⟨kv,E4,E5,E6⟩,kf,kw⟩,D2⟩:=C6.o _ _ _ C2;have HR:=aa hr;have q:=aa D2;clear hr D5 C2 D2 C6 C9 B7;go_upto_region 9 with(at_builtin;refine jN rfl (.tmp 50) (.tmp 54) 63 rfl _ _ (lV a5 n5 c5) w5 rfl rfl C8.o ?_)
 clear C8 c4 p;go_cut [8] (λr Y=>r=pV (qA n)/\yH (F 0 n a' l f d Y))
 .clear R S A6 A7 A0 A3 A1 A5 H U I B0 A9 A4 B1 A2;refine yd 29 (λw'=>w'.cell? ⟨s,1,none⟩=some (lV L N O)/\w'.cell? ⟨rb,0,none⟩=some (pV (qA A))/\w'.cell? ⟨rb,2,none⟩=some (lV C G D)/\w'.cell? ⟨rb,5,none⟩=some (pV (qA m))) (by kernel_rfl) (by go_keep) (λD8=>?_);iterate 24 (refine ye (v:=?_) rfl (by kernel_rfl) (λ_ _ _ h=>h) D8 (Or.inl ⟨by rfl,?_⟩) ?_;rotate_left;(intro w D9;(try dsimp only at D9);go_simp;try with_reducible rfl);(try simp only[Act.put,List.setIfInBounds_toArray,List.set_cons_zero,List.set_cons_succ]))
  refine ji rfl (by kernel_rfl) (λK o=>?_);go_simp
  refine o.o _ _ (λ_=>?s24) ?r24;case s24=>((try dsimp only);go_keep)
  clear o K;refine ji rfl (by kernel_rfl) (λK o=>?_);go_simp
  refine o.o _ _ (λ_=>?s25) ?r25;case s25=>((try dsimp only);go_keep)
  clear o K;refine ji rfl (by kernel_rfl) (λK o=>?_);refine yN rfl (.tmp 60) (.tmp 81) 28 rfl (lV L N O) (lV (some ⟨w5.heap.size+1,0,none⟩) 1 1) (lV a' M l) w' (by simp[Act.eval]) (by simp[Act.eval]) HR.o ?_;refine o.o _ _ (λ_=>?s26) ?r26;case s26=>((try dsimp only);go_keep)
  clear o K;refine ji rfl (by kernel_rfl) (λK o=>?_);go_simp
  refine o.o _ _ (λ_=>?s27) ?r27;case s27=>((try dsimp only);go_keep)
  clear o K;refine ji rfl (by kernel_rfl) (λK o=>?_);go_simp
  refine o.o _ _ (λ_=>?s28) ?r28;case s28=>((try dsimp only);go_keep)
  clear o K;refine ji rfl (by kernel_rfl) (λK o=>?_);go_simp
  refine o.o _ _ (λh=>absurd rfl h) ?r29;clear o K;refine yf (by kernel_rfl) ?_ _;go_wp2;go_meet;exact⟨rfl,q⟩
 obtain⟨rfl,C7⟩:=hcut;clear HR q k1 x b0 b2 b5 E3 kv E4 E5 E6 kf kw;generalize wc=w6 at*;go_wp2;go_loopg [11] M (λg r wr=>∃i:Nat,g=M - i/\i<=M/\r=i6 i/\yH (F i n a' l f d wr))
 .exact⟨0,rfl,by omega,rfl,C7⟩
 obtain⟨i,hg,hi,rfl,q⟩:=hrel;have HG:=aa hg;clear hg C7;generalize gk=GK at*;obtain⟨⟨c0,x⟩,⟨b5,p⟩,⟨y,d0⟩,f0,Q⟩:=H.o _ _ _ _ _ _ _ q.o;by_cases P:i<M
 .have E0:(i:Int)<(M:Int):=by omega
  obtain⟨g,rfl,B4,e0,B2,e5⟩:=U.o _ _ _ _ _ _ _ i q.o P;by_cases B3:d i=m
  .have E2:(binOp BinOp.eql 59 (pV (qA m)) (pV (qA m))).run yP wr.drew=.ok (bV true) wr.drew:=NH m _;rw[B3] at e5;go_upto_region 13 with fail
   go_cut [108] from 85 to 123 (λv Y=>v=bV true/\∃k,Y=wr.drewN k)
   .clear R S A6 A7 A0 A3 A1 A5 H U I B0 A9 A4 B1 A2 q;go_region
    all_goals
     go_wp2;go_meet;exact⟨by first|rfl|simp,_,rfl⟩
   obtain⟨rfl,E,rfl⟩:=hcut;have T:=aa (I.o _ _ _ _ _ _ _ E q.o);clear q E2 c0 x b5 p d0 f0 Q e0 B2 e5 B4;generalize wr.drewN E=W2 at*;obtain⟨⟨c0,x⟩,⟨b5,p⟩,⟨y,d0⟩,f0,Q⟩:=H.o _ _ _ _ _ _ _ T.o;obtain⟨g',X,B4,e0,B2,e5⟩:=U.o _ _ _ _ _ _ _ i T.o P;injection X with X;injection X with X _;subst X;have C4:=aa (A4.o _ _ _ _ _ _ _ T.o P B3);clear T;go_wp2_with fail
   apply C4.m;rintro e w8⟨⟨b,rfl,D4⟩,D0⟩;have B5:=aa D4;clear D4;have A8:=aa D0;clear D0 C4 c0 x b5 p d0 f0 Q e0 B2 e5 B4;obtain⟨⟨c0,x⟩,⟨b5,p⟩,⟨y,d0⟩,f0,Q⟩:=H.o _ _ _ _ _ _ _ A8.o;cases b with
   |true=>
    have D6:=aa (B1.o _ _ _ _ _ _ _ A8.o P);clear A8 B5;go_wp2;go_roundg (M - (i+1))
    .exact⟨i+1,rfl,by omega,by go_num,by assumption⟩
    have:=HG.o;omega
   |false=>
    have D6:yH (F (i+1) n (qA g) l f d w8):=B5.o rfl;clear A8 B5;go_wp2;go_roundg (M - (i+1))
    .exact⟨i+1,rfl,by omega,by go_num,by assumption⟩
    have:=HG.o;omega
  have E1:(binOp BinOp.eql 59 (pV (some ⟨d i,0,none⟩)) (pV (qA m))).run yP wr.drew=.ok (bV false) wr.drew:=A9.o _ _ _ _ _ _ _ (I.o _ _ _ _ _ _ _ 1 q.o) P B3;go_upto_region 13 with fail
  go_cut [108] from 85 to 123 (λv Y=>v=bV false/\∃k,Y=wr.drewN k)
  .clear R S A6 A7 A0 A3 A1 A5 H U I B0 A9 A4 B1 A2 q;go_region
   all_goals
    go_wp2;go_meet;exact⟨by first|rfl|simp,_,rfl⟩
  obtain⟨rfl,E,rfl⟩:=hcut;have T:=aa (B0.o _ _ _ _ _ _ _ (I.o _ _ _ _ _ _ _ E q.o) P B3);clear q E1 c0 x b5 p d0 f0 Q e0 B2 e5 B4;generalize wr.drewN E=W2 at*;go_wp2;go_roundg (M - (i+1))
  .exact⟨i+1,rfl,by omega,by go_num,by assumption⟩
  have:=HG.o;omega
 obtain rfl:i=M:=by omega
 have E0:¬(i:Int)<(i:Int):=by omega
 have u:=aa (A2.o _ _ _ _ _ _ q.o);go_wp2_with fail
 apply u.m;rintro e w9⟨rfl,D3⟩;have D7:=aa D3;clear D3 u c0 x b5 p d0 f0 Q;go_wp2;go_ret;exact⟨by first|rfl|simp,D7⟩
def tH{l w d sb a D N n m k P}(h:SX l w d sb a D N n m k P):yC 55 #[pV (qA d)] w λe w'=>(∃r:yB,e=rV (sV r)/\r.size=32/\∃X t,P X t/\r=ae (bQ t)/\(k.ok->r=cY (X.g a)/\cT (X.g a)))/\yW w w':=by
 obtain⟨v,q,u,o,X,b,_⟩:=h.st;have i:yH (yC 37 #[pV (qA a)] w λe w'=>∃r:yB,e=rV (sV r)/\(r.size=32/\∃X t,P X t/\r=ae (bQ t)/\(k.ok->r=cY (X.g a)/\cT (X.g a)))/\yW w w'):=(h.root b.dJ).mono λ_ _⟨r,X,s,h1,h2,h3,h4,h5,h6⟩=>⟨r,h1,⟨h2,X,s,h3,h4 rfl,h5⟩,h6⟩
 have c1:=(SC.start h).cells.2;have p:=(SC.start h).cells.1;clear h b;go_enter func55,ntmps55
 go_wp2_with fail
 apply i.m;rintro e w1⟨r,rfl,h32,c⟩;have j:=aa c;have f:=aa h32;clear c h32;go_wp2;go_ret;exact⟨⟨r,rfl,f.o⟩,j.o⟩
def TO{l w R H G}(h:dh l w R H G)(J:bA R.m<=500000)(o:Int)(E:Rg o):yC 26 #[pV (qA R.rb),i6 o] w λe w'=>kQ e/\yW w w':=by
 have T:=h.x.bz;have j:=h.y.pm;let⟨a,cap,z⟩:=j.form;have i:∀W,yW w W->yc W R.rb 1 (pV (qA R.sp))/\yc W R.rb 2 (lV a R.m.length cap)/\R.rb<W.heap.size:=λW u=>by
  let⟨_,c1,c2,_⟩:=(h.below u).y.cells;rw[z] at c2;exact⟨c1,c2,Us (Um.1 h.y.ai).1 u.size⟩
 have I:=uv R.m;rw[z] at j;refine(TN w R.rb R.sp a cap R.m.length o (ae bM) (R.m.getD 0 cG).addr (by omega) (λf t W=>∃k,dQ w (mj R.m o R.m.length) f k t [] W)
  ⟨(i w (Un _ _)).2.1,(i w (Un _ _)).2.2⟩ ?_ ?_ ?_ ?_ ?_ ?_ ?_ ?_ ?_ ?_).mono ?_
 .refine(Ff T j (by omega) o E).mono ?_;rintro e w1⟨F,B,p,A⟩;refine⟨F,B,⟨(i w1 p).2.1,(i w1 p).2.2⟩,A.mono ?_⟩;rintro e w2⟨f,h1,h2⟩;exact⟨f,h1,_,h2⟩
 .rintro f t W⟨k,h⟩;exact i W h.fC
 .rintro f W⟨k,h⟩;exact h.root.mono λe w'⟨h1,h2⟩=>⟨h1,k,h2⟩
 .rintro f W⟨k,d⟩;exact(tH (h.x.below d.fC)).mono λe w'⟨⟨r,h1,h3,_⟩,h2⟩=>⟨⟨r,h1,h3⟩,k,d.below h2⟩
 .rintro f W⟨k,d⟩;exact(ph W (T.below d.fC)).mono λe w'⟨h1,h2⟩=>⟨h1,k,d.below h2⟩
 .rintro f W⟨k,d⟩ h0;let⟨g,e,D,c0,_⟩:=(j.below d.fC).at_ 0 (R.m.getD 0 cG) (by rw[Up,Uh h0];rfl);exact⟨g,e,D,by rwa[Nat.zero_mul] at c0⟩
 .rintro f W⟨k,d⟩ h0;have C:=j.2 (R.m.getD 0 cG) (by rw[Up,Uh h0];exact Vc h0);refine(d.mq _ (by have:=C.addr;unfold maxLen;omega)).mono ?_;rintro e w'⟨a',q,c,cs,h1,h2,_,h3⟩;exact⟨a',q,c,cs,h1,h2,_,h3⟩
 .rintro f v cs W⟨k,d⟩ s;let⟨a',q,w',h1,h2⟩:=((d.box #[sV bf] 9).less (Ug _) (List.Sublist.refl _) (bs':=[]) (λb p=>by cases p)).append 0 (lV (qA W.heap.size) 1 1) [bf] (dE.one W bf) (by have:=s.1;simp;omega);exact⟨a',q,w',h1,k,h2⟩
 .rintro f v cs W⟨k,d⟩ s;exact(d.Jo T ((s.append (fh.one (x:=bf) (by decide))).mono (by omega))).mono λe w'⟨⟨b,h1,_⟩,h2⟩=>⟨⟨b,h1⟩,k,h2⟩
 .rintro f t W⟨k,d⟩;have n:=h.below d.fC;let⟨_,_,_,_,c4,c5,d0⟩:=n.y.cells;exact(zg c5 c4 d0 (qd n.y.sn) n.y.ns n.y.sm n.x.bz).mono λe w'⟨h1,h2⟩=>⟨⟨_,h1⟩,k,d.below h2⟩
 rintro e w'⟨h1,f,r,h2⟩;let⟨k,h3⟩:=h2.o;exact⟨h1,h3.fC⟩
def Qf{b x v}(h:ah b x=some v):∃q∈b,q.1=x:=by
 induction b with
 |nil=>cases h
 |cons p t ih=>
  have h:(if(p.1.toList == x.toList) then some p.2 else ah t x)=some v:=h;split at h
  .next e=>rw[dV] at e;exact⟨p,Uk ..,of_decide_eq_true e⟩
  let⟨q,h1,h2⟩:=ih h;exact⟨q,Ul _ h1,h2⟩
def KV{a b}(d:cT a)(g:cT b)(h:∀k,ah a k=ah b k){c}(i:oE a c):oE b c:=by
 let⟨p,f,j⟩:=i;have h1:=Ab f;rw[h] at h1;cases hl:ah b p.1 with
 |none=>exact absurd hl h1
 |some v=>let⟨q,l,e⟩:=Qf hl;refine⟨q,l,?_⟩;rwa[e,<-wm d g h (d.size p f).1]
def Re{hs y a}(h:bG hs y=some a):∃x∈hs,ag x.addr=y/\a=dU x:=by
 induction hs with
 |nil=>cases h
 |cons x t ih=>
  have h:(if ag x.addr=y then some (dU x) else bG t y)=some a:=h;split at h
  .next e=>exact⟨x,Uk ..,e,(Option.some.inj h).symm⟩
  let⟨z,h1,h2⟩:=ih h;exact⟨z,Ul _ h1,h2⟩
def CP(r):cf (bP r) true=[]/\bK (bP r):=by
 unfold bP;split<;>exact⟨rfl,trivial⟩
def SX.rootOf{l w i sb a D N j f k X r}(h:SX l w i sb a D N j f k (λY s=>Y=X/\ae (bQ s)=r))(e:k.ok):r=cY (X.g a)/\cT (X.g a):=by
 obtain⟨p,n,o,m,Y,b,_,d,rfl,rfl⟩:=h.st;have c:=d.iG e a b.dJ;exact⟨c.root (b.gy a b.dJ).tr.ok,c.1⟩
def PD{I}(hi:iX I){m base}(G:iM I m){k k':Kn}(J:k.B=gN base)(K:k'.B=gN m)(H:k.ok){d f X L}(i:Wd k d f X (bG m) gK)(s:sO k d f X L)(h1:oD base (aT d L))(h2:oD m (aT d L)){r}(O:r=cY (X.g f))(D:cT (X.g f))(P:Nat):dI (aT d L) k'.B (bP r.data.toList) (X.g f)/\Wd k' (aT d L) P ⟨λ_=>X.g f,λ_=>none⟩ (bG m) gK:=by
 have j:∀c,k.B c->eI (ah (aT d L)) (ae c)=false:=λc b=>h1.1 c (by rwa[<-J])
 have l:∀y,ah (X.g f) y=ah (l5 m) y:=λy=>by rw[i.dJ,yi]
 have A:=yh hi G;have w:∀c,gN m c->k'.B c/\eI (ah (aT d L)) (ae c)=false:=λc b=>⟨by rwa[K],h2.1 c b⟩
 refine⟨?_,i.dJ,i.fit,λx a M u=>⟨(λq h=>by cases h),λ_=>?_⟩,λ_ _ _=>rfl,(λ_ _ _ h=>by cases h),λ_ h=>by cases h⟩
 .let⟨t,t1,t2,t3,t4⟩:=s H f (.inl rfl);rw[O];refine t3.again t1 t2 t4 j (λc b=>w c (.inl (KV D A l b))) λn=>?_
  rw[Nb D A l];refine h2.2 λe=>n ?_
  cases hg:X.g f with
  |nil=>rfl
  |cons p t=>have h0:=l p.1;rw[e] at h0;exact absurd h0 (Ab (by rw[hg];exact Uk ..))
 obtain⟨z,E,e1,rfl⟩:=Re u;let⟨F,_⟩:=G.each z E;let⟨o1,o2⟩:=i.ld x (dU z) M u;have v:(dU z).ss≠[]->cY (dU z).ss≠ae bM:=λn e=>n (by show ct z.az=[];rw[F.full e];rfl)
 have C:∀c,oE (dU z).ss c->k'.B c/\eI (ah (aT d L)) (ae c)=false:=λc b=>w c (.inr ⟨z,E,b⟩)
 cases ho:X.o x with
 |some q=>let⟨t,t1,t2,t3,t4⟩:=s H q (.inr ⟨x,ho⟩);rw[o1 q ho] at t3;exact t3.again t1 t2 t4 j C v
 |none=>
  have t3:=o2 ho;have N:(cY (dU z).ss).data.toList.length=32:=by
   have:=vT (F.map hi);have e:(cY (dU z).ss).data.toList.length=(cY (dU z).ss).size:=by simp
   rw[e];exact this
  exact t3.again (qZ N) (CP _).2 (λc b=>by rw[(CP _).1] at b;cases b) j C v
def PQ(d:List aV)(R:aV)(a:List (yB×yB)):Prop:=(∀Q∈d,Q.sb=R.sb->lZ Q.base->oD Q.base a)/\(lZ R.m->oD R.m a)
def Dq{sb rb N}:∀{rs:List aV} {R},(rs.map aV.rb).Nodup->R∈rs->R.rb=rb->(R.sb=sb->du sb (rs.map (dL rb N))+R.N=du sb rs+N)/\(R.sb≠sb->du sb (rs.map (dL rb N))=du sb rs)
 |Q::rs,R,hn,hR,e=>by
  rw[List.map_cons,List.nodup_cons] at hn
  have f:du sb ((Q::rs).map (dL rb N))=(if(dL rb N Q).sb=sb then(dL rb N Q).N else 0)+du sb (rs.map (dL rb N)):=rfl
  have d:du sb (Q::rs)=(if Q.sb=sb then Q.N else 0)+du sb rs:=rfl
  rw[f,d,(oQ rb N Q).sb]
  rcases UC.1 hR with h1|h1
  .subst h1
   have i:du sb (rs.map (dL rb N))=du sb rs:=yK λP c=>⟨(oQ rb N P).sb,by
    unfold dL
    rw[Ui λa=>hn.1 (UO.2 ⟨P,c,a.trans e.symm⟩)]⟩
   have b:(dL rb N R).N=N:=by unfold dL;rw[Uj e]
   rw[i,b]
   refine⟨λh=>?_,λh=>?_⟩
   .rw[Uj h,Uj h];omega
   rw[Ui h,Ui h]
  have g:Q.rb≠rb:=λa=>hn.1 (UO.2 ⟨R,h1,e.trans a.symm⟩)
  have b:(dL rb N Q).N=Q.N:=by unfold dL;rw[Ui g]
  let⟨i1,i2⟩:=Dq (sb:=sb) (N:=N) hn.2 h1 e
  rw[b]
  exact⟨λh=>by have:=i1 h;omega,λh=>by rw[i2 h]⟩
def ox(d:Dt)(R:aV)(us:Nat->Value)(L:List yL)(a:Nat):Dt:={d with ao:=d.ao.map (dL R.rb a),us:=aE d.us R.sb us,ps:=aE d.ps R.sb (aT (d.ps R.sb) L)}
def Inv.Sv{y l w d}(h:Inv y l w d){R}(j:R∈d.ao){L a b s}(n:gd L a b s d)(J:a<4000000000){X r}(C:R.de->Wd R.kn (d.ps R.sb) R.tw X (bG R.m) gK)(E:SX l w R.sp R.sb R.tw R.D R.N (d.us R.sb) (d.ps R.sb) R.kn (λY s=>Y=X/\ae (bQ s)=r)):yC 56 #[pV (qA R.sp)] w λe w'=>e=rV (sV r)/\∃l' o f g,sO R.kn (d.ps R.sb) R.tw X f/\dq (lW d R.sb (PQ d.ao R (aT (d.ps R.sb) f))) y l' w' (ox d R o f g)/\SX l' w' R.sp R.sb R.tw R.D g o (aT (d.ps R.sb) f) ⟨False,R.kn.B⟩ (λY s=>Y=X/\ae (bQ s)=r)/\gd L a b s (ox d R o f g)/\iY d (ox d R o f g):=by
 let⟨c1,c2⟩:=n.N j;have M:=n.gB R j;have O:=yJ j (rfl:R.sb=R.sb);refine(E.Sx (by omega) (by omega)).mono ?_;rintro e w'⟨⟨_,F,rfl⟩,l',o,g,f,m,v,K,I,A⟩;have t:=v ⟨False,R.kn.B⟩ rfl λh=>h.elim
 have G:∀Q∈d.ao,Q.sb=R.sb->PQ d.ao R (aT (d.ps R.sb) f)->Q.de->∀c,gN Q.base c->eI (ah (aT (d.ps R.sb) f)) (ae c)=false:=λQ i e H x=>(H.1 Q i e ⟨Q.seen,x.inj,(((h.rl Q i).kY trivial).k x).2⟩).1
 refine⟨F,l',o,f,g,A,h.Ma j m t.jw t.ls I C G v,t,?_,⟨rfl,rfl,rfl,rfl,λB z=>cl _ _ (h.br B z R j)⟩⟩;refine⟨by show(d.ao.map _).length<=L;rw[UM];exact n.len,λP p=>?_,λP p=>?_,λP p=>?_⟩
 .obtain⟨Q,i,rfl⟩:=UO.1 p;show(aE d.ps R.sb _ (dL R.rb g Q).sb).length+du (dL R.rb g Q).sb (d.ao.map (dL R.rb g))<=a;rw[(oQ _ _ Q).sb];let⟨i1,i2⟩:=Dq (sb:=Q.sb) (N:=g) h.jc j rfl;have u:=n.gB Q i;by_cases q:Q.sb=R.sb
  .rw[q,cF];rw[q] at i1 u;have:=i1 rfl;omega
  rwa[cl _ _ q,i2 λk=>q k.symm]
 .obtain⟨Q,i,rfl⟩:=UO.1 p;have:=n.hw Q i;unfold dL;split<;>exact this
 obtain⟨Q,i,rfl⟩:=UO.1 p;have:=n.sn Q i;unfold dL;split<;>exact this
def dq.Mc{q a l w d}(h:dq q a l w d)(c:∀R∈d.ao,dh l w R (d.us R.sb) (d.ps R.sb)):Inv a l w d:=⟨h.wo,h.bk,h.cP,λR b=>(c R b).vU,h.nY,h.nV,h.jc,h.nW,h.hs,h.br,h.rt,h.bz,h.pins⟩
def fI.tF{q:Prop}{l w R j i}(h:fI q l w R j i):Mv (λx=>x=pr R.tt 0) l l w (w.setCell ⟨R.tt,0,none⟩ (bV true))/\fI q l (w.setCell ⟨R.tt,0,none⟩ (bV true)) {R with yes:=true} j i:=by
 let⟨k1,k2,k3,k4⟩:=h.kd;have e1:∀k,k≠R.tt->(w.setCell ⟨R.tt,0,none⟩ (bV true)).heap[k]? =w.heap[k]? :=λk c=>UL _ _ _ k c
 have e2:(w.setCell ⟨R.tt,0,none⟩ (bV true)).heap[R.tt]? =some (.cells #[bV true] 61 (0,0)):=by
  rw[U7 w R.tt 0 _ _ (0,0) _ h.y.tn,Vk w R.tt _ _ _ _ h.y.tn];rfl
 have p:(w.setCell ⟨R.tt,0,none⟩ (bV true)).heap.size=w.heap.size:=by simp
 have m:Mv (λx=>x=pr R.tt 0) l l w (w.setCell ⟨R.tt,0,none⟩ (bV true)):=⟨rfl,rfl,rfl,by rw[p];exact Ug _,λ_ _=>rfl,λk c n=>e1 k λe=>n (by rw[e];exact h.y.lt)⟩
 have p0:=iu R.tt 0;have f:=h.y.pm.mv h.y.lm m (λe=>by omega);have d:=h.y.pb.mv h.y.lv m (λe=>by omega);have n3:=df k1 k2 (by decide);have o:pr R.rb 0≠pr R.tt 0:=λe=>n3 (fS e).1
 refine⟨m,fI.not (R:=R) (h.x.move m (λe=>by omega) (λe=>df k4 k2 (by decide) (fS e).1) λb e=>df k3 k2 (by decide) (fS e).1) rfl ?_ ⟨rfl,rfl,rfl,rfl,rfl⟩ λh=>by cases h.1⟩;exact⟨(e1 _ n3).trans h.y.ai,h.y.lb,f.1,f.2,d.1,d.2,cM h.y.sn λg a=>m.kept (h.y.sn.lt g a).2 (h.y.ls g a) o,h.y.ls,h.y.sm,e2,h.y.lt,h.y.nm,h.y.nb,h.y.ns⟩
structure mS(wb:Nat)(d:Dt)(L a b s:Nat)(R:aV)(r:yB)(i n M:Nat)(a':Option Addr)(c':Nat)(RB TT:Nat->Nat)(W:World)(l:Nat->Nat)(d2:Dt)(ps:List (yB×yB)):Prop where
 inv:dq (lW d R.sb (PQ d.ao R ps)) wb l W d2
 cn:gd L a b s d2
 same:iY d d2
 rv:d2.rv=lV a' M c'
 len:d2.ao.length=M
 me:∃Q∈d2.ao,Q.rb=R.rb/\Q.tt=R.tt/\Q.sb=R.sb
 row:∀i,i<M->∃Q,d2.ao[i]? =some Q/\Q.rb=RB i/\Q.tt=TT i
 wi:d2.ps R.sb=ps
 out:∀Q∈d2.ao,Q.sb≠R.sb->∃P∈d.ao,P.rb=Q.rb/\P.sb≠R.sb
 all:(∀Q∈d.ao,Q.sb=R.sb->∃P∈d2.ao,P.base=Q.base/\P.sb=R.sb)/\∃P∈d2.ao,P.base=R.m/\P.sb=R.sb
 done:∀j,j<i->∀Q,d2.ao[j]? =some Q->Q.sb=R.sb->Q.yes=true\/(lZ Q.base->oD Q.base ps)
 new:∃tw us k,SX l W n R.sb tw [tw] 1 us ps k (fun _ s=>ae (bQ s)=r)
def mS.to{m d L a b s R r i n M a' g e f W l d2 c}(h:mS m d L a b s R r i n M a' g e f W l d2 c){k}(o:∀j,j<k->∀Q,d2.ao[j]? =some Q->Q.sb=R.sb->Q.yes=true\/(lZ Q.base->oD Q.base c)):mS m d L a b s R r k n M a' g e f W l d2 c:=⟨h.inv,h.cn,h.same,h.rv,h.len,h.me,h.row,h.wi,h.out,h.all,o,h.new⟩
def mS.idle{o d L a b s R r i n M a' g c e W f l l' d2 j}(h:mS o d L a b s R r i n M a' g c e W l d2 j)(m:Mv (λ_=>False) l l' W f):mS o d L a b s R r i n M a' g c e f l' d2 j:=by
 let⟨q,t,k,p⟩:=h.new;exact⟨h.inv.idle (m.j9 _),h.cn,h.same,h.rv,h.len,h.me,h.row,h.wi,h.out,h.all,h.done,⟨q,t,k,p.move m id id λ_=>id⟩⟩
def mS.tt{o d L a b s R r i n M a' g c f W l d2 m}(h:mS o d L a b s R r i n M a' g c f W l d2 m){Q}(k:Q∈d2.ao)(e:Q.sb=R.sb):Q.tt=R.tt:=by
 let⟨P,j,_,e2,e3⟩:=h.me;rw[<-e2];exact h.inv.rt Q k P j (e.trans e3.symm)
def mS.end_{w d L a b s R r n M a' B z A W l d2 v}(h:mS w d L a b s R r M n M a' B z A W l d2 v):Inv w l W d2:=by
 refine h.inv.Mc λQ p=>?_
 have f:=h.inv.rl Q p;by_cases e:Q.sb=R.sb
 .cases hy:Q.yes with
  |true=>exact(fI.not (q:=True) f.x rfl f.y ⟨rfl,rfl,rfl,rfl,rfl⟩ λE=>by have:=E.1;rw[hy] at this;cases this).kY trivial
  |false=>
   have t:∀P∈d2.ao,P.sb=R.sb->lZ P.base->oD P.base v:=λP c i=>by
    let⟨j,u,C⟩:=List.mem_iff_getElem.1 c;rcases h.done j (by rwa[<-h.len]) P (by rw[Uh u,C]) i with k|k
    .have h1:=(h.inv.rl P c).y.tn;have h2:=f.y.tn;rw[h.tt c i] at h1;rw[h.tt p e,h1,k,hy] at h2;injection h2 with h2;injection h2 with h2;injection h2 with h2;injection h2 with h2;injection h2 with h2;cases h2
    exact k
   refine f.kY λ_=>⟨λP c i g=>?_,λg=>?_⟩
   .let⟨m,o,e1,e2⟩:=h.all.1 P c i;rw[<-e1] at g⊢;exact t m o e2 g
   let⟨m,o,e1,e2⟩:=h.all.2;rw[<-e1] at g⊢;exact t m o e2 g
 exact f.kY λD=>absurd (h.out Q p e) D
def dq.Ep{q b l w d}(h:dq q b l w d):∃ar cr,d.rv=lV ar d.ao.length cr:=by
 let⟨a,c,e,_⟩:=dM h.wo.rr;rw[UM] at e;exact⟨a,c,e⟩
def dq.EB{q m l w d}(h:dq q m l w d){a n c}(e:d.rv=lV a n c){i R}(j:d.ao[i]? =some R):∃g,a=some ⟨g,0,none⟩/\g<w.heap.size/\yc w g i (pV (qA R.rb)):=by
 have b:=h.wo.rr;rw[e] at b;let⟨a',o,k,_,_,f⟩:=dM b;cases k;have hi:=(Ux.1 j).1;rcases f with⟨_,h0,_⟩|⟨g,rfl⟩
 .rw[UM] at h0;omega
 exact⟨g,rfl,(b.lt g rfl).2,fc b rfl i _ (by rw[UK,j];rfl)⟩
def dq.tf{q a l w d}(h:dq q a l w d):w.cell? ⟨a,0,none⟩=some d.bv/\w.cell? ⟨a,1,none⟩=some d.rv/\a<w.heap.size/\w.frozen? ⟨a,0,none⟩=false/\w.frozen? ⟨a,1,none⟩=false:=
 ⟨by rw[Ur w a 0 _ _ _ h.wo.ai];rfl,by rw[Ur w a 1 _ _ _ h.wo.ai];rfl,(Um.1 h.wo.ai).1,US w a 0 _ _ h.wo.ai,US w a 1 _ _ h.wo.ai⟩
def SX.MV{l w d sb b D N e c k X r}(h:SX l w d sb b D N e c k (λY s=>Y=X/\ae (bQ s)=r)):r.size=32:=by
 obtain⟨m,i,j,f,Y,a,_,g,rfl,rfl⟩:=h.st;rw[aN,oS (a.gy b a.dJ).tr.ok.aK]
structure oL(wb:Nat)(d:Dt)(L a b s:Nat)(R:aV)(X:Gh)(r:yB)(W:World)(l:Nat->Nat)(us:Nat->Value)(T:List yL)(N':Nat):Prop where
 inv:dq (lW d R.sb (PQ d.ao R (aT (d.ps R.sb) T))) wb l W (ox d R us T N')
 cn:gd L a b s (ox d R us T N')
 same:iY d (ox d R us T N')
 laid:sO R.kn (d.ps R.sb) R.tw X T
 x:SX l W R.sp R.sb R.tw R.D N' us (aT (d.ps R.sb) T) ⟨False,R.kn.B⟩ (fun Y s=>Y=X/\ae (bQ s)=r)
 hR:R∈d.ao
section
variable {wb : Nat} {d : Dt} {L a b s : Nat} {R : aV} {X : Gh} {r : ByteArray} {W W' : World} {l l' : Nat → Nat} {us : Nat → Value} {T : List (List UInt8)} {N' n tw : Nat}
def oL.idle(h:oL wb d L a b s R X r W l us T N')(m:Mv (λ_=>False) l l' W W'):oL wb d L a b s R X r W' l' us T N':=⟨h.inv.idle (m.j9 _),h.cn,h.same,h.laid,h.x.move m id id λ_=>id,h.hR⟩
def oL.mem(h:oL wb d L a b s R X r W l us T N'):{R with N:=N'}∈(ox d R us T N').ao:=UO.2 ⟨R,h.hR,by unfold dL;rw[Uj rfl]⟩
def oL.cells(h:oL wb d L a b s R X r W l us T N'):(yc W R.rb 0 (pV (qA R.sb))/\yc W R.rb 1 (pV (qA R.sp))/\yc W R.rb 2 R.mv/\yc W R.rb 4 R.sv/\yc W R.rb 5 (pV (qA R.tt)))/\R.rb<W.heap.size:=by
 have c:=h.inv.rl _ h.mem;let⟨c0,c1,c2,c3,c4,c5,_⟩:=c.y.cells;exact⟨⟨c0,c1,c2,c4,c5⟩,c.y.jm⟩
structure vh(wb:Nat)(d:Dt)(L a b s:Nat)(R:aV)(X:Gh)(r:yB)(n:Nat)(W:World)(l:Nat->Nat)(us:Nat->Value)(T:List yL)(N' tw:Nat):Prop where
 p:oL wb d L a b s R X r W l us T N'
 x:SX l W n R.sb tw [tw] 1 us (aT (d.ps R.sb) T) ⟨R.de/\PQ d.ao R (aT (d.ps R.sb) T),gN R.m⟩ (fun Y s=>Y=⟨fun _=>X.g R.tw,fun _=>none⟩/\ae (bQ s)=r)
 new:∀Q∈(ox d R us T N').ao,Q.sp≠n
def vh.idle(h:vh wb d L a b s R X r n W l us T N' tw)(m:Mv (λ_=>False) l l' W W'):vh wb d L a b s R X r n W' l' us T N' tw:=⟨h.p.idle m,h.x.move m id id λ_=>id,h.new⟩
structure Ud(wb:Nat)(d:Dt)(L a b s:Nat)(R:aV)(X:Gh)(r:yB)(n:Nat)(v:Value)(W:World)(l:Nat->Nat)(us:Nat->Value)(T:List yL)(N' tw:Nat):Prop where
 q:vh wb d L a b s R X r n W l us T N' tw
 own:W.ownsRow 3 9 1 v R.seen.length (R.seen.map Value.string)
 bt:∀g,v.ownBlock=some g->l g=pr W.heap.size 0
end
def SM{G l w d}(h:Inv G l w d){R}(hR:R∈d.ao){L a b s}(hc:gd L a b s d)(ha:a+1<4000000000)(hb:b<=500000)(hL:L<1000000):yC 25 #[pV (qA G),pV (qA R.rb)] w λe w'=>e=rV (bV true)/\∃l' d',Inv G l' w' d'/\gd (L+1) (a+1) b s d'/\iY d d':=by
 let⟨ar,cr,C8⟩:=h.Ep;have G7:=hc.len;have hX:=(h.rl R hR).kY trivial;let⟨am,cm,C4⟩:=hX.y.pm.form;let⟨E6,cs,E4,_⟩:=dM hX.y.sn;let⟨X,rt,D2,A7⟩:=hX.x.fix;obtain⟨r,F8⟩:∃r,r=ae (bQ rt):=⟨_,rfl⟩
 rw[<-F8] at A7;have F7:=A7.MV;have hcut:∀{l:Nat->Nat} {W W':World},yW W W'->Mv (λ_=>False) l (gv l W.heap.size) W W':=λhb=>Mv.below _ _ hb
 have D8:∀(T:List yL) (k':Kn) (B0:Nat),sO R.kn (d.ps R.sb) R.tw X T->k'.B=gN R.m->R.de->PQ d.ao R (aT (d.ps R.sb) T)->dI (aT (d.ps R.sb) T) k'.B (bP r.data.toList) (X.g R.tw)/\Wd k' (aT (d.ps R.sb) T) B0 ⟨λ_=>X.g R.tw,λ_=>none⟩ (bG R.m) gK:=λT k' B0 hT hB F H=>
  PD F.inj (hX.k F).1 (base:=R.base) (k:=R.kn) rfl hB F (D2 F) hT (H.1 R hR rfl ⟨R.seen,F.inj,(hX.k F).2⟩) (H.2 ⟨R.seen,F.inj,(hX.k F).1⟩) (A7.rootOf F).1 (A7.rootOf F).2 B0
 refine(SK w G R.rb R.sb R.sp R.tt d.ao.length cr (d.ao.length+1) ar am E6 R.m.length cm R.seen.length cs r (by omega)
  (λW=>∃l,Inv G l W d/\SX l W R.sp R.sb R.tw R.D R.N (d.us R.sb) (d.ps R.sb) R.kn (λY s=>Y=X/\ae (bQ s)=r)) (λW=>∃l E T u,oL G d L a b s R X r W l E T u) (λW=>∃l' d',Inv G l' W d'/\gd (L+1) (a+1) b s d'/\iY d d')
  (λn W=>∃l E T u I,vh G d L a b s R X r n W l E T u I) (λn v W=>∃l E T u I,Ud G d L a b s R X r n v W l E T u I)
  (λi n a' M RB TT W=>∃l d2 z,mS G d (L+1) (a+1) b s R r i n (d.ao.length+1) a' M RB TT W l d2 z)
  ⟨l,h,A7⟩ ?_ ?_ ?_ ?_ ?_ ?_ ?_ ?_ ?_ ?_ ?_ ?_ ?_ ?_ ?_ ?_ ?_ ?_).mono ?_
 .rintro W⟨l,hI,_⟩;let⟨_,c1,_⟩:=(hI.rl R hR).y.cells;exact⟨c1,(hI.rl R hR).y.jm⟩
 .rintro W⟨l,E,T,u,hp⟩;let⟨⟨c0,c1,_⟩,hl⟩:=hp.cells;exact⟨c1,c0,hl⟩
 .rintro n W⟨l,E,T,u,I,H⟩;let⟨⟨_,_,_,c4,_⟩,hl⟩:=H.p.cells;rw[E4] at c4;exact⟨c4,hl⟩
 .rintro n v W⟨l,E,T,u,I,hs⟩;let⟨⟨c0,_,c2,_,c5⟩,hl⟩:=hs.q.p.cells;let⟨_,k1,kw,_⟩:=hs.q.p.inv.tf;have k1:W.cell? ⟨G,1,none⟩=some d.rv:=k1;rw[C8] at k1;rw[C4] at c2;exact⟨⟨k1,kw⟩,c0,c2,c5,hl⟩
 .rintro W⟨l,hI,A⟩;exact(tH A).mono λe w'⟨⟨r',h1,_,Y,_,hY,ht,_⟩,h2⟩=>⟨by rw[h1,ht,hY.2],_,hI.idle ((hcut h2).j9 _),A.below h2⟩
 .rintro W⟨l,hI,A⟩;refine(hI.Sv hR hc (by omega) D2 A).mono ?_;rintro e w'⟨he,l',G6,T,u,h1,h2,h3,h4,h5⟩;exact⟨he,l',G6,T,u,h2,h4,h5,h1,h3,hR⟩
 .rintro W⟨l,E,T,u,hp⟩;exact(tH hp.x).mono λe w'⟨⟨r',h1,_,Y,_,hY,ht,_⟩,h2⟩=>⟨by rw[h1,ht,hY.2],_,E,T,u,hp.idle (hcut h2)⟩
 .rintro W⟨l,E,T,u,hp⟩;have A:=hp.x;refine(zd A.jw A.ls A.bz A.l3 r F7 ⟨R.de/\PQ d.ao R (aT (d.ps R.sb) T),gN R.m⟩ (X.g R.tw) (λF=>(D8 T ⟨R.de/\PQ d.ao R (aT (d.ps R.sb) T),gN R.m⟩ 0 hp.laid rfl F.1 F.2).1)).mono ?_;rintro e w'⟨n,I,l',he,hn,m,G3⟩;refine⟨n,he,l',E,T,u,I,⟨hp.idle m,G3,λQ f e'=>?_⟩⟩;have:=lF (hp.inv.kx f).2.2.1;omega
 .rintro n W⟨l,E,T,u,I,H⟩;have hy:=(H.p.inv.rl _ H.p.mem).y;have F9:W.ownsRow 3 9 1 R.sv R.seen.length (R.seen.map Value.string):=hy.sn;have G8:R.seen.length<1000000000:=hy.ns;let⟨v',w',hr,ho,hg,E8⟩:=uR W W.heap.size (lV none 0 0) [] (U8 _ _ _ _) 3 R.sv R.seen (nS F9) (by simp;omega) (Ug _);obtain⟨a',M,rfl,_⟩:=dM ho;have B9:yW W w':=⟨hg.os,hg.tape,hg.output,hg.size,λk hk=>hg.block k hk λe=>by cases e⟩
  rw[E4] at hr;have m:Mv (λ_=>False) l (fA l W.heap.size (pr w'.heap.size 0)) W w':=Mv.FB B9 _;refine⟨a',_,M,w',hr,_,E,T,u,I,H.idle m,?_,λg F1=>?_⟩
  .have:=nj ho (by have:=H.p.inv.bz.size;omega:3<=W.heap.size);rwa[VL] at this
  rcases E8 g F1 with k|k
  .cases k
  exact oR k
 .rintro n v W⟨l,E,T,u,I,hs⟩;have mD:Mv (λ_=>False) l l W W.drew:=Mv.uI l W 1 _;have H:=hs.q.idle mD;have A3:=H.p.mem;have U:=H.p.inv.rl _ A3;obtain⟨d1,A6⟩:∃d1,d1=ox d R E T u:=⟨_,rfl⟩
  obtain⟨z,E2⟩:∃z,z=aT (d.ps R.sb) T:=⟨_,rfl⟩
  have B5:d1.ao=d.ao.map (dL R.rb u):=by rw[A6];rfl
  have G1:d1.us R.sb=E:=by rw[A6];exact cF _ _ _
  have C6:d1.ps R.sb=z:=by rw[A6,E2];exact cF _ _ _
  have E3:d1.rv=d.rv:=by rw[A6];rfl
  have A0:=H.p.inv;have A1:=H.p.cn;have V:=H.p.same;have B6:=H.x;have D9:=H.new;have E0:=λk' B0=>D8 T k' B0 H.p.laid
  rw[<-A6] at A0 A3 U A1 V D9;rw[<-E2] at A0 U B6 E0;have D7:d1.ao.length=d.ao.length:=by rw[B5,UM]
  obtain⟨J,O⟩:∃J:aV,J=⟨W.heap.size,R.sb,n,I,R.tt,[I],1,R.mv,R.m,R.mv,R.m,v,R.seen,R.yes⟩:=⟨_,rfl⟩
  have D4:lW d R.sb (PQ d.ao R z) W.heap.size->PQ d.ao R z:=λhh=>hh λ⟨Q,f,e1,_⟩=>by
   have:=lF (A0.kx (R:=dL R.rb u Q) (by rw[B5];exact UO.2 ⟨Q,f,rfl⟩)).1;rw[(oQ _ _ Q).rb,e1] at this;exact absurd this (Nat.lt_irrefl _)
  have F6:BZ (lW d R.sb (PQ d.ao R z) J.rb) l W.drew J E z:=by
   rw[O];refine⟨?_,U.y.pm,U.y.lm,cM hs.own λg hg=>mD.ai g (hs.own.lt g hg).2 id,U.y.sm,U.y.nm,U.y.ns,⟨rfl,rfl⟩,λF=>(U.k F).1⟩;refine(B6.kn (k':=⟨R.de/\lW d R.sb (PQ d.ao R z) W.heap.size,gN R.m⟩) rfl λF=>⟨F.1,D4 F.2⟩).ev λY s hY F=>?_
   rw[hY.1];exact(E0 ⟨R.de/\lW d R.sb (PQ d.ao R z) W.heap.size,gN R.m⟩ I rfl F.1 (D4 F.2)).2
  have G0:W.drew.heap[R.tt]? =some (.cells #[bV R.yes] 61 (0,0)):=U.y.tn;have F5:l R.tt=pr R.tt 0:=U.y.lt;have F0:∀C∈d1.aC,C.sb≠R.sb:=λC hC=>A0.br C hC ({R with N:=u}:aV) A3
  let⟨a',M,w',hr,F3,F4,l',mA,A5⟩:=Fz A0 F6 (by rw[O];rfl) (by rw[O];exact hs.bt) (by rwa[O]) (by rwa[O]) (by omega) (by rwa[O]) ⟨by rwa[O],by rw[O];exact λQ f e=>by rw[e,G1,C6];exact⟨rfl,rfl⟩⟩ (by rw[O];exact λQ f e=>A0.rt Q f ({R with N:=u}:aV) A3 e);rw[D7] at hr mA A5;rw[E3,C8] at hr;rw[O] at hr;simp only at hr;rw[C4] at hr;have G2:pr R.rb 0≠pr G 0:=λe=>df U.kd.1 A0.kw (by decide) (fS e).1
  have C1:∀(o:Nat) (v:Value),W.cell? ⟨R.rb,o,none⟩=some v->w'.cell? ⟨R.rb,o,none⟩=some v:=λo v hv=>(Uz (w:=W) (F3 R.rb U.y.jm (by rwa[show l R.rb=pr R.rb 0 from U.y.lb]))).trans hv
  let⟨⟨c0,_,c2,_,c5⟩,hl⟩:=hs.q.p.cells;rw[C4] at c2;have C0:w'.heap[G]? =some (.cells #[d1.bv,d1.rv] 30 (0,0)):=F4.trans A0.wo.ai;obtain⟨d2,A2⟩:∃d2,d2=d1.p7 J (lV a' (d.ao.length+1) M) E z:=⟨_,rfl⟩
  rw[<-A2] at A5;have A9:d2.ao=d1.ao++[J]:=by rw[A2];rfl
  have B1:J.sb=R.sb:=by rw[O]
  have C7:∀x,d2.ps x=d1.ps x:=λx=>by
   rw[A2];show aE d1.ps J.sb z x=_;rw[B1];by_cases e:x=R.sb
   .rw[e,cF,C6]
   rw[cl _ _ e]
  have A4:d2.ao.length=d.ao.length+1:=by rw[A9,Uq,Vm,D7]
  have B3:∀Q∈d2.ao,Q∈d1.ao\/Q=J:=λQ f=>by
   rw[A9] at f;rcases UA.1 f with h1|h1
   .exact .inl h1
   exact .inr (Uo.1 h1)
  have B2:∀Q,(dL R.rb u Q).base=Q.base:=λQ=>by unfold dL;split<;>rfl
  have D6:∀Q∈d1.ao,Q∈d2.ao:=λQ f=>by rw[A9];exact UR _ f
  have E7:J∈d2.ao:=by rw[A9];exact UP _ (Uo.2 rfl)
  have mW:Mv (fO [G]) l l' W.drew (w'.setCell ⟨G,1,none⟩ (lV a' (d.ao.length+1) M)):=mA;have E1:n∉[G]/\R.sb∉[G]:=by
   let⟨_,_,k3,k4⟩:=U.kd;let⟨vs,sh,tr,Ss,Y,B7,_⟩:=B6.st;constructor
   .rw[Uo];exact df (iQ B7.ai.ai) A0.kw (by decide)
   rw[Uo];exact df k4 A0.kw (by decide)
  refine⟨a',M,w',(λi=>(d2.ao.map aV.rb).getD i 0),(λi=>(d2.ao.map aV.tt).getD i 0),hr,⟨⟨?_,C1 _ _ c0,C1 _ _ c2,C1 _ _ c5⟩,US w' G 1 _ _ C0,(Um.1 C0).1⟩,l',d2,z,⟨A5,?_,?_,by rw[A2];rfl,A4,⟨_,D6 _ A3,rfl,rfl,rfl⟩,λi hi=>?_,by rw[C7,C6],λQ f e=>?_,⟨λQ f e=>⟨dL R.rb u Q,D6 _ (by rw[B5];exact UO.2 ⟨Q,f,rfl⟩),B2 Q,by rwa[(oQ _ _ Q).sb]⟩,⟨J,E7,by rw[O],B1⟩⟩,(λj hj=>absurd hj (Nat.not_lt_zero _)),⟨I,E,_,(B6.move mW (kV _) (gz E1.2) λ_=>gz E1.1).ev λ_ _ h=>h.2⟩⟩⟩
  .rw[Ur w' G 1 _ _ _ C0,E3,C8];rfl
  .refine⟨by rw[A4];omega,λQ f=>?_,λQ f=>?_,λQ f=>?_⟩
   .rw[C7,A9,yM];have h1:du Q.sb [J]<=1:=by
     show(if J.sb=Q.sb then J.N else 0)+0<=1;have:J.N=1:=by rw[O]
     rw[this];split<;>omega
    rcases B3 Q f with f|rfl
    .have:=A1.gB Q f;omega
    have:(d1.ps R.sb).length+du R.sb d1.ao<=a:=A1.gB ({R with N:=u}:aV) A3;rw[B1] at h1⊢;omega
   .rcases B3 Q f with f|rfl
    .exact A1.hw Q f
    have:bA R.m<=b:=(A1.hw ({R with N:=u}:aV) A3).1;rw[O];exact⟨this,this⟩
   rcases B3 Q f with f|rfl
   .exact A1.sn Q f
   have:R.seen.length<=s:=A1.sn ({R with N:=u}:aV) A3;rw[O];exact this
  .exact V.trans ⟨by rw[A2];rfl,by rw[A2];rfl,by rw[A2];rfl,by rw[A2];rfl,λB _=>C7 _⟩
  .have C2:i<d2.ao.length:=by rwa[A4]
   refine⟨d2.ao[i],Uh C2,?_,?_⟩
   .rw[Up,UK,Uh C2];rfl
   rw[Up,UK,Uh C2];rfl
  rcases B3 Q f with h1|h1
  .rw[B5] at h1;obtain⟨P,t,rfl⟩:=UO.1 h1;rw[(oQ _ _ P).sb] at e;exact⟨P,t,(oQ _ _ P).rb.symm,e⟩
  rw[h1] at e;exact absurd B1 e
 .rintro i n a' M RB TT W⟨l,d2,z,c⟩;let⟨Q,f,e1,e2,_⟩:=c.me;have A:=c.inv.rl Q f;let⟨_,_,_,_,_,c5,d0⟩:=A.y.cells;let⟨_,k1,kw,_⟩:=c.inv.tf;rw[c.rv] at k1;have A8:=A.y.jm;have A4:=A.y.qj;have D5:=US W Q.tt 0 _ _ A.y.tn;rw[e1,e2] at c5;rw[e2] at d0 A4 D5;rw[e1] at A8;exact⟨⟨k1,kw⟩,⟨c5,A8⟩,⟨_,d0⟩,D5,A4⟩
 .rintro j n a' M RB TT W i⟨l,d2,z,c⟩ hi;let⟨Q,f,e1,e2⟩:=c.row i hi;let⟨g,hg,F2,D3⟩:=c.inv.EB c.rv f;have A:=c.inv.rl Q (UQ f);let⟨_,_,_,_,_,c5,_⟩:=A.y.cells;have A8:=A.y.jm;rw[e1] at D3 c5 A8;rw[e2] at c5;exact⟨g,hg,F2,D3,A8,c5⟩
 .rintro i n a' M RB TT W k⟨l,d2,z,c⟩;exact⟨l,d2,z,c.idle (Mv.uI l W k _)⟩
 .rintro i n a' M RB TT W⟨l,d2,z,c⟩ hi C5;refine⟨l,d2,z,c.to λj hj Q f e=>?_⟩;by_cases ej:j=i
  .let⟨P,t,_,e2⟩:=c.row i hi;rw[ej,t] at f;cases f;exact absurd (e2.symm.trans (c.tt (UQ t) e)) C5
  exact c.done j (by omega) Q f e
 .rintro i n a' M RB TT W⟨l,d2,z,c⟩ hi C5;let⟨Q,f,e1,e2⟩:=c.row i hi;let⟨P,t,e3,e4,_⟩:=c.me;have h1:=(c.inv.rl Q (UQ f)).y.tn;have h2:=(c.inv.rl P t).y.tn;rw[e2] at h1;rw[e4] at h2;exact NJ C5 h1 h2
 .rintro i n a' M RB TT W⟨l,d2,z,c⟩ hi _;let⟨Q,f,e1,e2⟩:=c.row i hi;have D1:=UQ f;have A:=c.inv.rl Q D1;rw[<-e1];refine(Sa A.y.ai A.y.pb (by have:=(c.cn.hw Q D1).2;omega) A.x.jw A.x.bz).mono ?_;rintro e w'⟨⟨b',he,hz⟩,B9⟩;have C9:=c.idle (hcut (l:=l) B9);refine⟨⟨b',he,λE9=>⟨_,d2,z,C9.to λj hj P t e=>?_⟩⟩,_,d2,z,C9⟩;by_cases ej:j=i
  .rw[ej,f] at t;cases t;have:=hz E9;rw[e,c.wi] at this;exact .inr this
  exact c.done j (by omega) P t e
 .rintro i n a' M RB TT W⟨l,d2,z,c⟩ hi;let⟨Q,f,e1,e2,e3⟩:=c.me;have E5:=c.inv.rl Q f;let⟨m,A⟩:=E5.tF;let⟨_,kt,_,ks⟩:=E5.kd;rw[<-e2];have B8:lA Q {Q with yes:=true}:=⟨rfl,rfl,rfl,rfl⟩
  have A5:=c.inv.p7 f B8 (λh=>by cases h) (m.mono λx A=>.inr (.inr A)) A;have A1:=c.cn.put c.inv f B8 (K:=0) (j:=0) (i:=0) (Ug _) (Ug _) (c.cn.hw Q f).2 (Ug _);have V:∀P∈d2.ao,lA P (eL {Q with yes:=true} P):=λP t=>zo λe=>by
   have:P=Q:=mu c.inv.jc t f e;rwa[this]
  have B2:∀P∈d2.ao,(eL {Q with yes:=true} P).base=P.base:=λP t=>by
   unfold eL;split
   .next e=>rw[mu c.inv.jc t f e]
   split<;>rfl
  have G4:∀P∈d2.ao,P.tt=R.tt->(eL {Q with yes:=true} P).yes=true:=λP t e=>by
   unfold eL;split
   .rfl
   rw[Uj (e.trans e2.symm)]
  let⟨I,E,k,B4⟩:=c.new;have p0:=iu Q.tt 0;have G5:kd W n=some 98:=by
   let⟨vs,sh,tr,Ss,Y,B7,_⟩:=B4.st;exact iQ B7.ai.ai
  rw[e3] at ks;refine⟨l,_,z,A5,A1,c.same.trans ⟨rfl,rfl,rfl,rfl,λ_ _=>rfl⟩,c.rv,by show(d2.ao.map _).length=_;rw[UM];exact c.len,?_,λi hi=>?_,c.wi,λP t e=>?_,⟨λP t e=>?_,?_⟩,λj hj P t e=>?_,⟨I,E,k,B4.move m (λe=>by omega) (λe=>df ks kt (by decide) (fS e).1) λb e=>df G5 kt (by decide) (fS e).1⟩⟩
  .exact⟨_,UO.2 ⟨Q,f,rfl⟩,by rwa[(V Q f).rb],by rwa[(V Q f).tt],by rwa[(V Q f).sb]⟩
  .let⟨P,t,e3,e4⟩:=c.row i hi;have D0:=UQ t;exact⟨_,by show(d2.ao.map _)[i]? =_;rw[UK,t];rfl,by rwa[(V P D0).rb],by rwa[(V P D0).tt]⟩
  .obtain⟨S,Z,rfl⟩:=UO.1 t;rw[(V S Z).sb] at e;rw[(V S Z).rb];exact c.out S Z e
  .let⟨S,Z,k1,k2⟩:=c.all.1 P t e;exact⟨_,UO.2 ⟨S,Z,rfl⟩,by rwa[B2 S Z],by rwa[(V S Z).sb]⟩
  .let⟨S,Z,k1,k2⟩:=c.all.2;exact⟨_,UO.2 ⟨S,Z,rfl⟩,by rwa[B2 S Z],by rwa[(V S Z).sb]⟩
  have t:(d2.ao.map _)[j]? =some P:=t;rw[UK] at t;cases hj2:d2.ao[j]? with
  |none=>rw[hj2] at t;cases t
  |some S=>rw[hj2] at t;cases t;have C3:=UQ hj2;rw[(V S C3).sb] at e;exact .inl (G4 S C3 (c.tt C3 e))
 .rintro n a' M RB TT W⟨l,d2,z,c⟩;let⟨I,E,k,B4⟩:=c.new;exact(tH B4).mono λe w'⟨⟨r',h1,_,Y,_,hY,ht,_⟩,h2⟩=>⟨by rw[h1,ht,hY],_,d2,c.end_.idle ((hcut h2).j9 _),c.cn,c.same⟩
 rintro e w'⟨h1,h2⟩;exact⟨h1,h2.out⟩
def Ns(w:World)(q rb N R J cs:Nat)(G H:Option Addr)(k x y z:Int)(s t V B:yB)(hN:N<4000000000)(Z:Bool->Prop) (A9:yH (Z true)) (i C Q:World->Prop) (F:Nat->World->Prop) (X:Nat->Nat->World->Prop) (O:Option Addr->Nat->Nat->World->Prop)(C9:yH (i (w.alloc (.cells #[i6 k,i6 x,i6 y,i6 z,sV s,sV t] 33))))(C8:yH (w.cell? ⟨q,1,none⟩=some (lV G N R)/\q<w.heap.size))(A0:yH (∀W,i W->(W.cell? ⟨q,1,none⟩=some (lV G N R)/\q<W.heap.size)/\W.cell? ⟨w.heap.size,0,none⟩=some (i6 k)/\W.cell? ⟨w.heap.size,1,none⟩=some (i6 x)/\W.cell? ⟨w.heap.size,4,none⟩=some (sV s)/\W.cell? ⟨w.heap.size,5,none⟩=some (sV t)/\w.heap.size<W.heap.size))(D2:yH (∀W n,i W->i (W.drewN n)))(C0:yH (∀W,i W->yC 9 #[] W λe w'=>∃d,e=rV (pV (qA d))/\F d w'))(C1:yH (∀d W,F d W->yC 10 #[] W λe w'=>e=rV (sV V)/\F d w'))(C4:yH (∀d W,F d W->yC 22 #[pV (qA d),sV V] W λe w'=>∃n,e=rV (tV #[pV (qA n),i6 0])/\X d n w'))(C7:yH (∀d n W,X d n W->W.cell? ⟨q,1,none⟩=some (lV G N R)/\q<W.heap.size))(C6:yH (∀d n W,X d n W->∃a' I f w' v,(Builtin.append_ #[28,28] 28 #[lV G N R,lV (some ⟨W.heap.size+2,0,none⟩) 1 1]).run yP (((W.alloc (.cells #[bV false] 61)).alloc (.cells #[pV (qA d),pV (qA n),lV none 0 0,lV none 0 0,lV none 0 0,pV (qA W.heap.size)] 65)).alloc (.cells #[pV (some ⟨W.heap.size+1,0,none⟩)] 58))=.ok (lV a' I f) w'/\(w'.cell? ⟨q,1,none⟩=some v/\w'.frozen? ⟨q,1,none⟩=false/\q<w'.heap.size)/\Q (w'.setCell ⟨q,1,none⟩ (lV a' I f))))(D4:yH (∀W,i W->N=0->Q W))(C2:yH (∀W,0<N->yC 12 #[i6 x,i6 N] W λe w'=>e=rV (i6 (bW x N))/\w'=W))(D5:yH (∀W,i W->0<N->∃g,G=some ⟨g,0,none⟩/\g<W.heap.size/\W.cell? ⟨g,bW x N,none⟩=some (pV (qA rb))))(C5:yH (∀W,i W->yC 23 #[sV t] W λe w'=>e=rV (sV B)/\i w'))(D8:yH (∀W,i W->0<N->W.cell? ⟨rb,4,none⟩=some (lV H J cs)/\rb<W.heap.size))(D6:yH (∀W,i W->0<N->∃a' u f w',(Builtin.append_ #[63,63] 63 #[lV H J cs,lV (qA W.heap.size) 1 1]).run yP (W.drew.alloc (.cells #[sV s] 9))=.ok (lV a' u f) w'/\((w'.cell? ⟨rb,4,none⟩=some (lV H J cs)/\w'.cell? ⟨w.heap.size,4,none⟩=some (sV s))/\w'.frozen? ⟨rb,4,none⟩=false/\rb<w'.heap.size)/\O a' u f (w'.setCell ⟨rb,4,none⟩ (lV a' u f))))(D0:yH (∀a n c W,O a n c W->W.cell? ⟨rb,4,none⟩=some (lV a n c)/\rb<W.heap.size))(D7:yH (∀a n c W,O a n c W->∃a' u f w' v,(Builtin.append_ #[63,63] 63 #[lV a n c,lV (qA W.heap.size) 1 1]).run yP (W.alloc (.cells #[sV B] 9))=.ok (lV a' u f) w'/\(w'.cell? ⟨rb,4,none⟩=some v/\w'.frozen? ⟨rb,4,none⟩=false/\rb<w'.heap.size)/\C (w'.setCell ⟨rb,4,none⟩ (lV a' u f))))(D1:yH (∀W,C W->W.cell? ⟨w.heap.size,0,none⟩=some (i6 k)/\W.cell? ⟨w.heap.size,1,none⟩=some (i6 x)/\W.cell? ⟨w.heap.size,2,none⟩=some (i6 y)/\W.cell? ⟨w.heap.size,3,none⟩=some (i6 z)/\W.cell? ⟨w.heap.size,4,none⟩=some (sV s)/\W.cell? ⟨w.heap.size,5,none⟩=some (sV t)/\w.heap.size<W.heap.size))(D9:yH (∀W,C W->k=36->yC 24 #[pV (qA rb),sV s,sV B] W λe w'=>kS Z e/\Q w'))(E0:yH (∀W,C W->k=37->yC 25 #[pV (qA q),pV (qA rb)] W λe w'=>kS Z e/\Q w'))(E1:yH (∀W,C W->k=38->yC 26 #[pV (qA rb),i6 y] W λe w'=>kS Z e/\Q w'))(E2:yH (∀W,C W->k=39->yC 27 #[pV (qA rb),sV s,sV B] W λe w'=>kS Z e/\Q w'))(E3:yH (∀W,C W->yC 28 #[pV (qA rb),gV #[i6 k,i6 x,i6 y,i6 z,sV s,sV t]] W λe w'=>kS Z e/\Q w')):yC 8 #[pV (qA q),gV #[i6 k,i6 x,i6 y,i6 z,sV s,sV t]] w λe w'=>kS Z e/\yH (Q w'):=by
 obtain⟨P,S⟩:=yX (w.alloc (.cells #[i6 k,i6 x,i6 y,i6 z,sV s,sV t] 33));have L:yH (i P):=by rw[S];exact C9
 by_cases h30:k=30
 .have B6:=aa (C0.o _ L.o);subst h30;go_enter func8,ntmps8
  go_wp2_with fail
  rw[<-S];clear S;apply B6.m;rintro e w1⟨d,rfl,B3⟩;have B7:=aa (C1.o _ _ B3);clear B3;go_wp2_with fail
  apply B7.m;rintro e w2⟨rfl,B4⟩;have B8:=aa (C4.o _ _ B4);clear B4;go_wp2_with fail
  apply B8.m;rintro e w3⟨n,rfl,A4⟩;obtain⟨c1,B5⟩:=C7.o _ _ _ A4;obtain⟨a',I,f,w',v,D,⟨kv,kf,kw⟩,hQ⟩:=C6.o _ _ _ A4;have M:=aa D;have HQ:=aa hQ;clear D hQ A4;go_wp2_with (at_builtin;refine jN rfl (.tmp 26) (.tmp 33) 28 rfl _ _ (lV a' I f) w' rfl rfl M.o ?_)
  go_ret;exact⟨⟨true,rfl,A9.o⟩,HQ⟩
 have F1:(k == 30)=false:=by simpa using h30
 clear h30;obtain⟨E4,F0⟩:=C8.o;go_enter func8,ntmps8
 go_upto_region 7 with fail
 go_cut [44] (λv wx=>v=bV ((N:Int) == 0)/\wx=P)
 .go_wp2;go_meet;exact⟨rfl,S.symm⟩
 obtain⟨rfl,rfl⟩:=hcut;clear S E4 F0;obtain⟨⟨c1,B5⟩,b0,b1,b4,b5,T⟩:=A0.o _ L.o;by_cases Y:N=0
 .have HQ:=aa (D4.o _ L.o Y);have E6:((N:Int) == 0)=true:=by rw[Y];rfl
  clear Y;go_wp2;go_ret;exact⟨⟨true,rfl,A9.o⟩,HQ⟩
 have E6:((N:Int) == 0)=false:=by simp;omega
 have A3:0<N:=by omega
 have A2:=aa A3;have hj:bW x N<N:=ky x N A3;obtain⟨g,rfl,E8,e0⟩:=D5.o _ L.o A3;have C3:yH (∀W,yC 12 #[i6 x,i6 N] W λe w'=>e=rV (i6 (bW x N))/\w'=W):=λW=>C2.o W A2.o
 generalize bW x N=j at*;have E9:(j:Int)<(N:Int):=by omega
 clear Y;go_upto_region 10 with(go_quiet ((go_at_call 12;refine Calls.quiet_of_same (C3.o _))))
 have A7:=aa (D2.o _ nq L.o);clear c1 B5 b0 b1 b4 b5 T E8 e0 E9 hj;generalize wc.drewN nq=w1 at*;obtain⟨_,b0,b1,b4,b5,T⟩:=A0.o _ A7.o;have B9:=aa (C5.o _ A7.o);go_wp2_with fail
 apply B9.m;rintro e w3⟨rfl,B0⟩;have A1:=aa B0;clear B0 b0 b1 b4 b5 T;obtain⟨_,b0,b1,b4,b5,T⟩:=A0.o _ A1.o;obtain⟨r4,A5⟩:=D8.o _ A1.o A2.o;obtain⟨a',u,f,w',D,⟨⟨kr,kb⟩,kf,kw⟩,B1⟩:=D6.o _ A1.o A2.o;have M:=aa D;have D3:=aa B1;clear D B1;go_upto_region 11 with fail
 go_cut [10] (λr wx=>r=sV B/\yH (O a' u f wx))
 .refine yd 11 (λw'=>w'.cell? ⟨rb,4,none⟩=some (lV H J cs)/\w'.cell? ⟨w.heap.size,4,none⟩=some (sV s)) (by kernel_rfl) (by go_keep) (λE5=>?_);iterate 7 (refine ye (v:=?_) rfl (by kernel_rfl) (λ_ _ _ h=>h) E5 (Or.inl ⟨by rfl,?_⟩) ?_;rotate_left;(intro w E7;(try dsimp only at E7);go_simp;try with_reducible rfl);(try simp only[Act.put,List.setIfInBounds_toArray,List.set_cons_zero,List.set_cons_succ]))
  refine ji rfl (by kernel_rfl) (λK m=>?_);go_simp
  refine m.o _ _ (λ_=>?s7) ?r7;case s7=>((try dsimp only);go_keep)
  clear m K;refine ji rfl (by kernel_rfl) (λK m=>?_);refine yN rfl (.tmp 66) (.tmp 69) 63 rfl (lV H J cs) (lV (qA w3.heap.size) 1 1) (lV a' u f) w' (by simp[Act.eval]) (by simp[Act.eval]) M.o ?_;refine m.o _ _ (λ_=>?s8) ?r8;case s8=>((try dsimp only);go_keep)
  clear m K;refine ji rfl (by kernel_rfl) (λK m=>?_);go_simp
  refine m.o _ _ (λ_=>?s9) ?r9;case s9=>((try dsimp only);go_keep)
  clear m K;refine ji rfl (by kernel_rfl) (λK m=>?_);go_simp
  refine m.o _ _ (λ_=>?s10) ?r10;case s10=>((try dsimp only);go_keep)
  clear m K;refine ji rfl (by kernel_rfl) (λK m=>?_);go_simp
  refine m.o _ _ (λh=>absurd rfl h) ?r11;clear m K;refine yf (by kernel_rfl) ?_ _;go_wp2;go_meet;exact⟨rfl,D3⟩
 obtain⟨rfl,A8⟩:=hcut;clear kr kb kf kw r4 A5 b0 b1 b4 b5 T;generalize wc=w4 at*;obtain⟨r4,A5⟩:=D0.o _ _ _ _ A8.o;obtain⟨a2,n2,c2,w2,v2,D,⟨kv,kf,kw⟩,B2⟩:=D7.o _ _ _ _ A8.o;have M:=aa D;have E:=aa B2;clear D B2;go_upto_region 13 with(at_builtin;refine jN rfl (.tmp 77) (.tmp 79) 63 rfl _ _ (lV a2 n2 c2) w2 rfl rfl M.o ?_)
 obtain⟨w5,A6⟩:=yX (w2.setCell ⟨rb,4,none⟩ (lV a2 n2 c2));rw[<-A6] at E;try rw[<-A6]
 clear A6 kv kf kw r4 A5;obtain⟨b0,b1,b2,b3,b4,b5,U⟩:=D1.o _ E.o;by_cases h36:k=36
 .have A:=aa (D9.o _ E.o h36);subst h36;go_wp2_with fail
  apply A.m;rintro e w9⟨⟨b,rfl,p⟩,o⟩;have l:yH (Z b/\Q w9):=⟨p,o⟩
  clear p o b0 b1 b2 b3 b4 b5 U;go_wp2;go_ret;exact⟨⟨b,rfl,l.o.1⟩,l.o.2⟩
 have F2:(k == 36)=false:=by simpa using h36
 clear h36;by_cases h37:k=37
 .have A:=aa (E0.o _ E.o h37);subst h37;go_wp2_with fail
  apply A.m;rintro e w9⟨⟨b,rfl,p⟩,o⟩;have l:yH (Z b/\Q w9):=⟨p,o⟩
  clear p o b0 b1 b2 b3 b4 b5 U;go_wp2;go_ret;exact⟨⟨b,rfl,l.o.1⟩,l.o.2⟩
 have F3:(k == 37)=false:=by simpa using h37
 clear h37;by_cases h38:k=38
 .have A:=aa (E1.o _ E.o h38);subst h38;go_wp2_with fail
  apply A.m;rintro e w9⟨⟨b,rfl,p⟩,o⟩;have l:yH (Z b/\Q w9):=⟨p,o⟩
  clear p o b0 b1 b2 b3 b4 b5 U;go_wp2;go_ret;exact⟨⟨b,rfl,l.o.1⟩,l.o.2⟩
 have F4:(k == 38)=false:=by simpa using h38
 clear h38;by_cases h39:k=39
 .have A:=aa (E2.o _ E.o h39);subst h39;go_wp2_with fail
  apply A.m;rintro e w9⟨⟨b,rfl,p⟩,o⟩;have l:yH (Z b/\Q w9):=⟨p,o⟩
  clear p o b0 b1 b2 b3 b4 b5 U;go_wp2;go_ret;exact⟨⟨b,rfl,l.o.1⟩,l.o.2⟩
 have F5:(k == 39)=false:=by simpa using h39
 clear h39;have A:=aa (E3.o _ E.o);go_wp2_with fail
 apply A.m;rintro e w9⟨⟨b,rfl,p⟩,o⟩;have l:yH (Z b/\Q w9):=⟨p,o⟩
 clear p o b0 b1 b2 b3 b4 b5 U;go_wp2;go_ret;exact⟨⟨b,rfl,l.o.1⟩,l.o.2⟩
def Wq:Nd->Nd->Prop
 | .nil,F=>F=.nil
 | .unread h,F=>F.some/\h=F.hash/\h≠[]
 | .leaf _ p v,F=>∃h,F=.leaf h p v
 | .ext _ p k,F=>∃h kF,F=.ext h p kF/\Wq k kF/\k.hash=kF.hash/\(k.read->k.hash=[])
 | .branch _ v ks,F=>∃h kFs,F=.branch h v kFs/\∀i,i<16->Wq (ks i) (kFs i)/\(ks i).hash=(kFs i).hash/\((ks i).read->(ks i).hash=[])
def Wr(k a:Nd):Prop:=Wq k a/\k.hash=a.hash/\(k.read->k.hash=[])
def Wq.nil{t F}(h:Wq t F):t.isNil=F.isNil:=by
 cases t with
 |nil=>rw[show F=.nil from h]
 |unread _=>exact((gM F).2 h.1).symm
 |leaf _ _ _=>obtain⟨a,rfl⟩:=h;rfl
 |ext _ _ _=>obtain⟨a,b,rfl,_⟩:=h;rfl
 |branch _ _ _=>obtain⟨a,b,rfl,_⟩:=h;rfl
def Ws(d:Nat):Prop:=∀(F:Nd) (dep:Nat) (bl:Bool),bN d F.item=true->aA F dep->F.read->(bl=true->F.fY)->
 ∃m,a6 d F.item dep bl=some m/\Wq m F/\m.hash=[]
def Wt{d}(o:Ws d)(k:Nd)(dep:Nat)(bl:Bool)(f:bN d k.ref=true)(a:aA k dep)(i:bl=true->k.fY):∃k',jC (a6 d) k.ref dep bl=some k'/\Wr k' k:=by
 by_cases hs:k.some
 .by_cases b:k.hash=[]
  .have c:k.read:=by
    cases k with
    |nil=>exact hs.elim
    |unread x=>have h2:x.length=32:=a.aK;rw[show x=[] from b] at h2;cases h2
    | _=>trivial
   have n:=(a.aK.Hu c).short b;have h6:bN 6 k.item=true:=(a.aK.ow c).1;rw[ml hs b] at f⊢;have l:∀t,k.item≠ak t:=λt e=>by
    let⟨ks,e2⟩:=Ay k;rw[e2] at e;cases e
   let⟨m,h1,h2,h3⟩:=o k dep bl f a c i;refine⟨m,?_,h2,by rw[h3,b],λ_=>h3⟩;rw[xg _ _ _ _ l];have p:(bu 6 k.item).length<32:=n;have g:fH (bu 6 k.item)=true:=by unfold fH;exact Uw (by omega)
   rw[Ui]
   .exact h1
   rintro (h|h)
   .apply h;unfold ff;rw[Uj h6,Uj g]
   unfold ft at h;rw[Uj h6,rG _ g,aN] at h;omega
  have j:k.hash.length=32:=by
   cases k with
   |nil=>exact hs.elim
   |unread x=>exact a.aK
   |leaf _ _ _=>exact a.aK.1.two.resolve_left b
   |ext _ _ _=>exact a.aK.1.two.resolve_left b
   |branch _ _ _=>exact a.aK.1.two.resolve_left b
  have q:=xD k dep hs a.full a.deep;rw[jQ hs b,xe,Ui b,Ui (by rintro (h|h);exact h j;omega)];exact⟨_,rfl,⟨hs,rfl,b⟩,rfl,λh=>h.elim⟩
 have e1:k=.nil:=by cases k<;>first|rfl|exact absurd trivial hs
 subst e1;exact⟨.nil,rfl,rfl,rfl,λh=>h.elim⟩
def Wu:∀d,d<=6->Ws d:=by
 intro d;induction d with
 |zero=>intro _ F dep bl b;let⟨ks,e⟩:=Ay F;rw[e] at b;cases b
 |succ d c=>
  intro w F dep bl b a q m;have c:=c (by omega);cases F with
  |nil=>exact q.elim
  |unread _=>exact q.elim
  |leaf h p v=>
   have g:bl=false:=by cases bl with|false=>rfl|true=>exact(m rfl).elim
   subst g;let⟨f1,f2,f3⟩:=Fa p true a.aK.2.1;refine⟨.leaf [] p v,?_,⟨h,rfl⟩,rfl⟩;show jy (a6 d) (ak (cR p true)) (ak v) dep=_;show(if nx (cR p true)=false\/80<dep+(bm (cR p true)).length then none else if fT (cR p true)=true then(if v=[]\/160<v.length then none else some (Nd.leaf [] (bm (cR p true)) v)) else _)=_;rw[(uC _).2 f1,f2,f3];have h1:dep+p.length<=80:=a.deep;have h2:v≠[]:=a.bB;have h3:v.length<=160:=a.aK.2.2.2;rw[Ui (by rintro (h|h);cases h;omega),Uj rfl,Ui (by rintro (h|h);exact h2 h;omega)]
  |ext h p k=>
   have g:bl=false:=by cases bl with|false=>rfl|true=>exact(m rfl).elim
   subst g;let⟨f1,f2,f3⟩:=Fa p false a.aK.2.1;have j:bN d k.ref=true:=by
    have:bN (d+1) (bJ [ak (cR p false),k.ref])=true:=b;rw[nA,Vr] at this;exact Vy.1 this.2 _ (by simp)
   let⟨k',h1,h2⟩:=Wt c k (dep+p.length) true j (fq a) λ_=>a.bB.2.1
   have hs:k'.isNil=false:=by rw[h2.1.nil];exact(gM _).2 (oq a.bB.2.1)
   refine⟨.ext [] p k',?_,⟨h,k,rfl,h2⟩,rfl⟩;show jy (a6 d) (ak (cR p false)) k.ref dep=_;show(if nx (cR p false)=false\/80<dep+(bm (cR p false)).length then none else if fT (cR p false)=true then _ else match jC (a6 d) k.ref (dep+(bm (cR p false)).length) true with
    |some k=>if k.isNil=true\/bm (cR p false)=[] then none else some (Nd.ext [] (bm (cR p false)) k)
    |none=>none)=_
   rw[(uC _).2 f1,f2,f3,h1];have h3:dep+p.length<=80:=a.deep.1;rw[Ui (by rintro (h|h);cases h;omega),Ui (by decide)];show(if k'.isNil=true\/p=[] then none else some (Nd.ext [] p k'))=_;rw[Ui (by rintro (h|h);rw[hs] at h;cases h;exact a.bB.1 h)]
  |branch h v ks=>
   have o:bN (d+1) (bJ ((List.range 16).map (λi=>(ks i).ref)++[ak v]))=true:=b;rw[nA,Vr] at o;have j:∀i,i<16->bN d (ks i).ref=true:=λi hi=>Vy.1 o.2 _ (UR _ (UO.2 ⟨i,Vq.2 hi,rfl⟩))
   have s:∀i,i<16->((List.range 16).map (λi=>(ks i).ref)++[ak v]).getD i (ak [])=(ks i).ref:=λi hi=>by
    rw[Up,UW (by simp;exact hi),UK,List.getElem?_range hi];rfl
   have f:∀i,i<16->∃k',gW (a6 d) ((List.range 16).map (λi=>(ks i).ref)++[ak v]) dep i=some k'/\Wr k' (ks i):=λi hi=>by
    let⟨k',h1,h2⟩:=Wt c (ks i) (dep+1) false (j i hi) (dA a i hi) λh=>by cases h
    exact⟨k',by unfold gW;rwa[s i hi],h2⟩
   generalize hks:(List.range 16).map (λi=>(ks i).ref)++[ak v]=L at*;have l:L.length=17:=by rw[<-hks];simp
   have h16:L.getD 16 (ak [])=ak v:=by rw[<-hks];rfl
   have u:∀n,n<=16->kD (a6 d) L dep n=true:=λn=>by
    induction n with
    |zero=>intro _;rfl
    |succ n ihn=>intro t;let⟨k',h1,_⟩:=f n (by omega);simp only[kD,ihn (by omega),h1];rfl
   have r:∀n,n<=16->dj v (λi=>(gW (a6 d) L dep i).getD .nil) n=dj v ks n:=λn=>by
    induction n with
    |zero=>intro _;rfl
    |succ n ihn=>intro t;let⟨k',h1,h2⟩:=f n (by omega);simp only[dj,ihn (by omega),h1,Option.getD_some,h2.1.nil]
   refine⟨.branch [] v (λi=>(gW (a6 d) L dep i).getD .nil),?_,⟨h,ks,rfl,λi hi=>?_⟩,rfl⟩
   .show a6 (d+1) (bJ ((List.range 16).map (λi=>(ks i).ref)++[ak v])) dep bl=_;rw[hks];show(if L.length=2/\bl=false then _ else if L.length=17 then iI (a6 d) L dep else none)=_;rw[Ui (by rw[l];rintro ⟨h,_⟩;cases h),Uj l];unfold iI;rw[h16];show(if 160<v.length then none else if kD (a6 d) L dep 16=true/\2<=iH (a6 d) L dep v 16 then _ else none)=_;have:=a.aK.2.1;rw[Ui (by omega),Uj ⟨u 16 (Ug _),by rw[Au,r 16 (Ug _)];exact a.full.1⟩]
   let⟨k',h1,h2⟩:=f i hi;simp only[h1,Option.getD_some];exact h2
def Wv{F dep bl}(a:aA F dep)(c:F.read)(d:bl=true->F.fY)(f:0<dep->32<=F.code.length):∃m,gS (fe F.code) F.code dep bl=.ok m/\Wq m F/\m.read:=by
 let⟨h6,e⟩:=a.aK.ow c;let⟨m,h1,h2,h3⟩:=Wu 6 (Ug _) F dep bl h6 a c d;have b:gS (fe F.code) F.code dep bl=.ok (m.gY (fe F.code)):=by
  unfold gS;rw[Ui (λh=>h rfl),Ui (by rintro ⟨h,g⟩;have:=f h;omega)];have:=IX F.item h6 e;show yy _ dep bl (dC (bu 6 F.item))=_;rw[this];show CY _ (a6 6 F.item dep bl)=_;rw[h1];rfl
 refine⟨_,b,?_,(oT b).2.1⟩;cases m with
 |nil=>exact h2
 |unread x=>exact absurd h3 h2.2.2
 |leaf _ _ _=>exact h2
 |ext _ _ _=>exact h2
 |branch _ _ _=>exact h2
def Ww(n t:Nd)(d:Nat):Prop:=(t=.nil/\n=.nil)\/(t.read/\n=.unread (fe t.code)/\(d=0\/t.hash≠[])/\(0<d->32<=t.code.length))\/(t.read/\n.read/\Wq n t/\d≠0/\t.hash=[])
def Wx{k' k d r}(h:Wr k' k)(e:cW k)(g:dD k r)(f:d≠0):Ww k' k d:=by
 let⟨h1,h2,h3⟩:=h;have b:=h1.nil;by_cases hs:k.some
 .have c:k.read:=by cases k<;>first|exact hs.elim|exact g.elim|trivial
  rw[(gM k).2 hs] at b;by_cases a:k.hash=[]
  .refine .inr (.inr ⟨c,?_,h1,f,a⟩);cases k' with
   |nil=>cases b
   |unread x=>exact absurd (h2.trans a) h1.2.2
   | _=>trivial
  let⟨h4,h5⟩:=e.FQ c a;refine .inr (.inl ⟨c,?_,.inr a,λ_=>h5⟩);cases k' with
  |nil=>cases b
  |unread x=>rw[<-h4];exact congrArg Nd.unread h2
  |leaf _ _ _=>exact absurd (h2.symm.trans (h3 trivial)) a
  |ext _ _ _=>exact absurd (h2.symm.trans (h3 trivial)) a
  |branch _ _ _=>exact absurd (h2.symm.trans (h3 trivial)) a
 have e1:k=.nil:=by cases k<;>first|rfl|exact absurd trivial hs
 refine .inl ⟨e1,?_⟩;rw[e1] at b;cases k'<;>first|rfl|cases b
def Wy(f:Nat)(r)(d:Nat):dS f .nil r d=[]:=by cases f<;>rfl
def Wz:∀(f:Nat) (n t) (r) (d:Nat) (bl:Bool) (V:yL),aA t d->bK t->dD t r->aw r->(t.some->r.length+1<=f)->(bl=true->t.some->t.fY)->Ww n t d->
 jo f n r d bl ((dS f t r d).map ae) V=some (if t.isNil=true then V else aM t r):=by
 intro f;induction f with
 |zero=>
  intro n t r d bl V a b g o l x s;have C:t=.nil:=by cases t<;>first|rfl|exact absurd (l trivial) (Nat.not_succ_le_zero _)
  subst C;rcases s with⟨_,rfl⟩|⟨h,_⟩|⟨h,_⟩
  .rfl
  .exact h.elim
  exact h.elim
 |succ f ih=>
  intro n t r d bl V a b g o l x s;by_cases hs:t.some
  .have z:¬t.isNil=true:=by rw[(gM t).2 hs];simp
   have D:dS (f+1) t r d=dm t d++dS f (ay t r d).1 (ay t r d).2.1 (ay t r d).2.2.1:=Ui z;have key:∃n1,n.isNil=false/\oO n d bl ((dS (f+1) t r d).map ae)=some (n1,(dS f (ay t r d).1 (ay t r d).2.1 (ay t r d).2.2.1).map ae)/\Wq n1 t/\n1.read:=by
    rw[D];rcases s with⟨h,_⟩|⟨h1,rfl,h3,h4⟩|⟨h1,h2,h3,h4,h5⟩
    .subst h;exact hs.elim
    .let⟨m,e1,e2,e3⟩:=Wv a h1 (λh=>x h hs) h4;refine⟨m,rfl,?_,e2,e3⟩;unfold dm;rw[Uj h3];show(match gS (fe t.code) (ae t.code).data.toList d bl with| .error _=>none| .ok n=>some (n,_))=_;rw[nC,e1];rfl
    refine⟨n,?_,?_,h3,h2⟩
    .rw[gM];cases n<;>first|exact h2.elim|trivial
    unfold dm;rw[Ui (by rintro (h|h);exact h4 h;exact h h5),VL];cases n<;>first|exact h2.elim|rfl
   let⟨n1,k0,k1,k2,k3⟩:=key;show(if n.isNil=true then _ else yx _ (oO n d bl _))=_;rw[Ui (by rw[k0];simp),k1,Ui z];show jo f (ay n1 r d).1 (ay n1 r d).2.1 (ay n1 r d).2.2.1 (ay n1 r d).2.2.2 _ (n1.at r)=_;cases n1 with
   |nil=>exact k3.elim
   |unread _=>exact k3.elim
   |leaf h0 p v=>obtain⟨i,rfl⟩:=k2;show jo f .nil [] 0 false ((dS f .nil [] 0).map ae) _=_;rw[Wy,Rv];rfl
   |ext h0 q k'=>
    obtain⟨i,k,rfl,k4⟩:=k2;by_cases e:aF q r=q.length
    .have F:q.length≠0:=λh=>a.bB.1 (UH.1 h)
     have B:=(iN q r).2;rw[e] at B;have A:k.some:=oq a.bB.2.1;have u:=ih k' k (r.drop q.length) (d+q.length) true (Nd.at (.ext h0 q k') r) (fq a) b.loose (g e) (da o _) (λ_=>by have:=l trivial;rw[Uu];omega) (λ_ _=>a.bB.2.1) (Wx k4 b (g e) (by omega));rw[Ui (by rw[(gM k).2 A];simp)] at u;have w1:ay (.ext h0 q k') r d=(k',r.drop q.length,d+q.length,true):=Uj e;have w2:ay (.ext i q k) r d=(k,r.drop q.length,d+q.length,true):=Uj e;rw[w1,w2];refine u.trans ?_;show _=some (if aF q r=q.length then aM k (r.drop q.length) else []);rw[Uj e]
    have w1:ay (.ext h0 q k') r d=(.nil,[],0,false):=Ui e;have w2:ay (.ext i q k) r d=(.nil,[],0,false):=Ui e;rw[w1,w2];show jo f .nil [] 0 false ((dS f .nil [] 0).map ae) _=some (if aF q r=q.length then _ else []);rw[Wy,Rv,Ui e];rfl
   |branch h0 v ks'=>
    obtain⟨i,ks,rfl,k4⟩:=k2;cases r with
    |nil=>show jo f .nil [] 0 false ((dS f .nil [] 0).map ae) _=_;rw[Wy,Rv];rfl
    |cons c r=>
     have j:c.toNat<16:=o c (Uk ..);have u:=ih (ks' c.toNat) (ks c.toNat) r (d+1) false (Nd.at (.branch h0 v ks') (c::r)) (dA a _ j) (b _ j).loose g (λy E=>o y (Ul _ E)) (λ_=>by have:=l trivial;rw[UJ] at this;omega) (λh=>by cases h) (Wx (k4 _ j) (b _ j) g (by omega));refine u.trans ?_;show _=some (aM (ks c.toNat) r);by_cases w:(ks c.toNat).isNil=true
     .rw[Uj w];have:ks c.toNat=.nil:=by generalize ks c.toNat=K at*;cases K<;>first|rfl|cases w
      rw[this];rfl
     rw[Ui w]
  have e1:t=.nil:=by cases t<;>first|rfl|exact absurd trivial hs
  subst e1;rcases s with⟨_,rfl⟩|⟨h,_⟩|⟨h,_⟩
  .rfl
  .exact h.elim
  exact h.elim
def WA:∀(f k n:Nat),n<256 ^ k->(bS f n).length<=k
 | 0,_,_,_=>UD _
 |f+1,k,n,h=>by
  show(if n=0 then [] else bS f (n / 256)++[UInt8.ofNat (n % 256)]).length<=k
  by_cases h0:n=0
  .rw[Uj h0];exact UD _
  rw[Ui h0,Uq,Vm]
  cases k with
  |zero=>have:n<1:=h;omega
  |succ k=>
   have:=WA f k (n / 256) (Nat.div_lt_of_lt_mul (by rwa[Nat.pow_succ,Nat.mul_comm] at h))
   omega
def WB(a n k:Nat)(h:n<256 ^ k)(b:0<k):(cV a n).length<=k+1:=by
 unfold cV;split
 .rw[Vm];omega
 rw[UJ];have:=WA 8 k n h;omega
def WD(b:yL)(h:b.length<65536):(gZ b).length<=b.length+3:=by
 unfold gZ;rw[Uq];have:=WB 192 b.length 2 h (by omega);omega
def WE(t:yL)(h:t.length<256):(cL t).length<=t.length+2:=by
 unfold cL;split
 .omega
 rw[Uq];have:=WB 128 t.length 1 h (by omega);omega
def WG{k}(b:aO k):(bu 5 k.ref).length<=33:=by
 by_cases hs:k.some
 .by_cases a:k.hash=[]
  .have d:k.read:=by
    cases k with
    |nil=>exact hs.elim
    |unread x=>have h2:x.length=32:=b;rw[show x=[] from a] at h2;cases h2
    | _=>trivial
   have e:(bu 6 k.item).length<32:=(b.Hu d).short a;rw[ml hs a];rw[xG 5 _ (lT 4 _ (lT 3 _ (xr k b hs a)))] at e;omega
  have c:k.hash.length=32:=by
   cases k with
   |nil=>exact hs.elim
   |unread x=>exact b
   |leaf _ _ _=>exact b.1.two.resolve_left a
   |ext _ _ _=>exact b.1.two.resolve_left a
   |branch _ _ _=>exact b.1.two.resolve_left a
  rw[jQ hs a,ij,re _ c];exact Ug _
 have e1:k=.nil:=by cases k<;>first|rfl|exact absurd trivial hs
 subst e1;show(bu 5 (ak [])).length<=33;rw[ij];decide
def WH{t}(a:aO t)(b:t.read):t.code.length<=693:=by
 cases t with
 |nil=>exact b.elim
 |unread _=>exact b.elim
 |leaf h p v=>show(bu 6 (Nd.leaf h p v).item).length<=693;rw[SE];have h1:=WE (cR p true) (by rw[rD];have:=a.2.2.1;omega);have h2:=WE v (by have:=a.2.2.2;omega);have h3:=a.2.2.1;have h4:=a.2.2.2;rw[rD] at h1;have h5:=WD (cL (cR p true)++cL v) (by rw[Uq];omega);rw[Uq] at h5;omega
 |ext h p k=>show(bu 6 (Nd.ext h p k).item).length<=693;rw[Je];have h1:=WE (cR p false) (by rw[rD];have:=a.2.2.1;omega);have h2:=WG a.2.2.2.2;have h3:=a.2.2.1;rw[rD] at h1;have h5:=WD (cL (cR p false)++bu 5 k.ref) (by rw[Uq];omega);rw[Uq] at h5;omega
 |branch h v ks=>
  show(bu 6 (Nd.branch h v ks).item).length<=693;rw[Bt];have h2:=WE v (by have:=a.2.1;omega);have h4:=a.2.1;have h1:=Iv ((List.range 16).map (λi=>bu 5 (ks i).ref)) 33 λc d=>by
   obtain⟨i,hi,rfl⟩:=UO.1 d;exact WG (a.2.2 i (Vq.1 hi))
  have h3:(mM 5 v ks).flatten.length<=690:=by
   unfold mM;rw[List.flatten_append,Uq];simp only[List.flatten_cons,List.flatten_nil,UU];rw[UM,List.length_range] at h1;omega
  have h5:=WD (mM 5 v ks).flatten (by omega);omega
def WI:∀(f:Nat) (t) (r) (d:Nat),aA t d->dD t r->aw r->(dS f t r d).length<=r.length+1/\∀c∈dS f t r d,c.length<=693:=by
 intro f;induction f with
 |zero=>intro t r d _ _ _;exact⟨UD _,λc g=>by cases g⟩
 |succ f ih=>
  intro t r d i l j;by_cases hs:t.some
  .have m:t.read:=by cases t<;>first|exact hs.elim|exact l.elim|trivial
   have u:dS (f+1) t r d=dm t d++dS f (ay t r d).1 (ay t r d).2.1 (ay t r d).2.2.1:=Ui (by rw[(gM t).2 hs];simp);have o:(dm t d).length<=1/\∀c∈dm t d,c.length<=693:=by
    unfold dm;split
    .exact⟨Ug _,λc g=>by rw[Uo.1 g];exact WH i.aK m⟩
    exact⟨UD _,λc g=>by cases g⟩
   have n:(dS f (ay t r d).1 (ay t r d).2.1 (ay t r d).2.2.1).length<=r.length/\(∀c∈dS f (ay t r d).1 (ay t r d).2.1 (ay t r d).2.2.1,c.length<=693)->(dS (f+1) t r d).length<=r.length+1/\∀c∈dS (f+1) t r d,c.length<=693:=λ⟨a,b⟩=>by
    rw[u];exact⟨by rw[Uq];omega,λc g=>(UA.1 g).elim (o.2 c) (b c)⟩
   refine n ?_;cases t with
   |nil=>exact hs.elim
   |unread _=>exact m.elim
   |leaf h p v=>show(dS f .nil [] 0).length<=_/\∀c∈dS f .nil [] 0,_;rw[Wy];exact⟨UD _,λc g=>by cases g⟩
   |ext h q k=>
    by_cases e:aF q r=q.length
    .have w2:ay (.ext h q k) r d=(k,r.drop q.length,d+q.length,true):=Uj e;have x:q.length≠0:=λh=>i.bB.1 (UH.1 h)
     have s:=(iN q r).2;rw[e] at s;rw[w2];let⟨a,b⟩:=ih k (r.drop q.length) (d+q.length) (fq i) (l e) (da j _);rw[Uu] at a;exact⟨by show(dS f k (r.drop q.length) (d+q.length)).length<=_;omega,b⟩
    have w2:ay (.ext h q k) r d=(.nil,[],0,false):=Ui e;rw[w2];show(dS f .nil [] 0).length<=_/\∀c∈dS f .nil [] 0,_;rw[Wy];exact⟨UD _,λc g=>by cases g⟩
   |branch h v ks=>
    cases r with
    |nil=>show(dS f .nil [] 0).length<=_/\∀c∈dS f .nil [] 0,_;rw[Wy];exact⟨UD _,λc g=>by cases g⟩
    |cons c r=>have g:c.toNat<16:=j c (Uk ..);exact ih (ks c.toNat) r (d+1) (dA i _ g) l λy w=>j y (Ul _ w)
  have e1:t=.nil:=by cases t<;>first|rfl|exact absurd trivial hs
  subst e1;exact⟨UD _,λc g=>by cases g⟩
def WJ{t key}(a:aA t 0)(d:bK t)(b:dD t (aD key))(g:key.size<=40)(e:t.some->bQ t≠bM):tj (ae (bQ t)) key ((dS 81 t (aD key) 0).map ae)=some (aM t (aD key)):=by
 have f:Ww (bP (bQ t)) t 0:=by
  unfold bP;by_cases hs:t.some
  .have c:t.read:=by cases t<;>first|exact hs.elim|exact b.elim|trivial
   rw[Ui (e hs),El a.aK c];exact .inr (.inl ⟨c,rfl,.inl rfl,λh=>absurd h (Nat.lt_irrefl 0)⟩)
  have e1:t=.nil:=by cases t<;>first|rfl|exact absurd trivial hs
  subst e1;rw[Uj (show bQ .nil=bM from rfl)];exact .inl ⟨rfl,rfl⟩
 have h:=Wz 81 (bP (bQ t)) t (aD key) 0 false [] a d b (b8 key) (λ_=>by rw[g6];omega) (λh=>by cases h) f;unfold tj;rw[nC,h];cases t<;>first|rfl|exact congrArg some (Ui (by simp[Nd.isNil]))
def WM{d key:yB}{c v}(h1:d.size=32)(h2:key.size<=40)(h3:kC c=false)(h:tj d key c=some v):gR d key c=0/\e8 d key c=ae v:=by
 have a:¬d.size≠32:=λk=>k h1
 have b:¬(40<key.size\/kC c=true):=by rw[h3];rintro (k|k);omega;cases k
 unfold gR e8;rw[Ui a,Ui b,Ui a,Ui b,h];exact⟨rfl,rfl⟩
def WN{t key}(d:aA t 0)(f:dD t (aD key))(h:key.size<=40):kC ((dS 81 t (aD key) 0).map ae)=false:=by
 let⟨a,b⟩:=WI 81 t (aD key) 0 d f (b8 key);rw[g6] at a;unfold kC;rw[Bool.or_eq_false_iff];refine⟨Uv (by rw[UM];omega),List.any_eq_false.2 λp g=>?_⟩;obtain⟨c,e,rfl⟩:=UO.1 g;have:=b c e;rw[VJ,aN];omega
def WO{L}(h:cT L)(key):ae (aM (aR L 1) (aD key))=bD L key:=by
 rw[(jV h 1).find _ (b8 key),ql];unfold ae;simp
def WQ{L}(h:cT L){key:yB}(b:key.size<=40)(d:L≠[]->cY L≠ae bM):gR (cY L) key ((aQ bj (aR L 1) key).map ae)=0/\e8 (cY L) key ((aQ bj (aR L 1) key).map ae)=bD L key:=by
 have a:=jV h 1;have c:=nT a.all (b8 key);rw[p8 a.all b,<-WO h key];refine WM (vT h) b (WN a.ok c b) (WJ a.ok a.loose c b λhs e=>?_);refine d (λq=>?_) (by unfold cY;rw[e]);subst q;exact(show ¬(aR [] 1).some by rw[Th];exact id) hs
def WS{L}(h:cT L){key:yB}(b:key.size<=40)(d:L≠[])(e:cY L=ae bM){l}(c:∀x∈(aQ bj (aR L 1) key).map ae,x∈l)(h0:bf∈l):bY l l.length=true:=by
 cases hc:bY l l.length with
 |true=>rfl
 |false=>let⟨f,a⟩:=yt h (jV h 1) d;refine absurd e (a λq=>Jl hc (c _ ?_) h0 q);rw[p8 (xJ _ 1) b];refine UO.2 ⟨_,?_,rfl⟩;show _∈(if(aR L 1).isNil=true then [] else dm _ 0++_);rw[Ui (by rw[(gM _).2 f];simp)];unfold dm;rw[Uj (.inl rfl)];exact UR _ (Uo.2 rfl)
def WU(x:yB):ae x.data.toList=x:=by unfold ae;simp
def WV{m key}(h:∀p∈m,p.2.size<=1073741824):(bD m key).size<=1073741824:=by
 induction m with
 |nil=>show(⟨#[]⟩:yB).size<=_;decide
 |cons p m ih=>
  have b:((ah m key).getD ⟨#[]⟩).size<=1073741824:=ih λq a=>h q (Ul _ a)
  show((ah (p::m) key).getD ⟨#[]⟩).size<=_;unfold ah;split
  .exact h p (Uk ..)
  exact b
structure WW(top slot:yB)(h:aH)(there:Bool)(nu:Nat)(ps qs:List yB)(ac:Acc):Prop where
 c:gR top (ag h.addr) ps=0
 no:there=false->e8 top (ag h.addr) ps=⟨#[]⟩/\nu=0
 ok:there=true->iZ ac/\e8 top (ag h.addr) ps=ir ac
 n:there=true->0<=h.n/\ac.n=h.n.toNat
 aI:there=true->ac.aI=h.aI
 code:there=true->ac.code=h.code
 root:there=true->h.az.length=0->ac.root=ae bM
 sc:there=true->gR ac.root (ag slot) qs=0
 s0:there=true->(bD h.az slot).toList.isEmpty=true->(e8 ac.root (ag slot) qs).toList.isEmpty=true
 s1:there=true->(bD h.az slot).toList.isEmpty=false->e8 ac.root (ag slot) qs=fg (bD h.az slot)
def WX{w a n c b}(h:nE w (lV a n c) b)(d key:yB)(f:key.size<=maxLen)(T:aB w):yC 46 #[sV d,sV key,lV a n c] w λe w'=>e=rV (tV #[sV (e8 d key b),i6 (gR d key b)])/\yW w w':=by
 let⟨a',cap,e,_⟩:=id h.at_;cases e;rw[<-yp];exact BK w d key a c b h.at_ h.len h.small f T
def WY{w}(T:aB w){h}(m:jK w h){t s y v o u j q}(C:nE w (lV t y v) j)(B:nE w (lV s o u) q)(i slot:yB)(hs:slot.size<=1073741824)(k:Bool)(G:Prop)(l:Acc)(d:G->WW i slot h k o j q l)(A:∀p∈h.az,p.2.size<=1073741824):yC 63 #[sV i,gV #[sV h.addr,i6 h.n,sV h.aI,sV h.code,lV h.sa h.az.length h.sc],bV k,sV slot,lV t y v,lV s o u] w λe w'=>kS (λb=>G->b=true) e/\yW w w':=by
 have h32:∀x:yB,(ag x).size<=maxLen:=λx=>by rw[show(ag x).size=32 from dz _];decide
 refine(Ly w i slot h k t s v y u o (λW=>yW w W/\pN W w.heap.size h) m.len G (k=true) (ag h.addr) (ag slot) (e8 i (ag h.addr) j) (ae (bS 8 l.n)) l.root (ae bM) (bD h.az slot) (fg (bD h.az slot)) (gR i (ag h.addr) j) (λr=>e8 r (ag slot) q) (λr=>gR r (ag slot) q)
  ⟨(Un _ _).alloc (Ug _) _,UG w _⟩
  (λW D a z=>⟨a.1.trans (z.mono a.1.size),a.2.below z⟩)
  (λW a=>a.2)
  (λW a=>ja h.addr (by have:=m.addr;unfold maxLen;omega) W (T.below a.1))
  (λW a=>ja slot (by unfold maxLen;omega) W (T.below a.1))
  (λW a=>WX (C.below a.1) _ _ (h32 _) (T.below a.1))
  (λW r a=>WX (B.below a.1) _ _ (h32 _) (T.below a.1))
  (λW a=>?_)
  (λW a=>(Gx W h.n m.n).mono λe w'⟨⟨x,h1,_,h3⟩,h2⟩=>⟨⟨x,h1,λf g=>by
   let⟨n1,n2⟩:=(d g).n f;rw[h3 n1,n2]⟩,h2⟩)
  (λW a=>ph W (T.below a.1))
  (λW a=>og W h.sv h.az slot (m.at_.below a.1) (by have:=m.len;omega))
  (λW a=>Jc W _ (by have:=WV (key:=slot) A;omega))
  (λg=>⟨(d g).c,?_,λf=>((d g).no f).2⟩)
  id
  (λf g=>⟨(d g).root f,(d g).sc f,(d g).s0 f,(d g).s1 f⟩)).mono ?_
 .have:=Sh W (e8 i (ag h.addr) j) (by have:=vu i (ag h.addr) j;unfold maxLen;omega) (k=true/\G) (bS 8 l.n) h.aI.data.toList l.root.data.toList h.code.data.toList λ⟨f,g⟩=>by
   let⟨o1,o2⟩:=(d g).ok f;rw[o2,(tJ o1).2.2];unfold pI;rw[(d g).aI f,(d g).code f]
  rwa[WU,WU,WU] at this
 .cases k with
  |false=>rw[((d g).no rfl).1,(g7 _).mpr rfl];rfl
  |true=>let⟨o1,o2⟩:=(d g).ok rfl;rw[o2];have:=(tJ o1).1;rw[(iv _).mpr (by omega)];rfl
 rintro e w'⟨h1,h2⟩;exact⟨h1,h2.o.1⟩
def WZ{a b x}(h:x∈a):x∈Wn a b:=UR _ (UP _ h)
def all_empty(a b:List yB):bf∈Wn a b:=UR _ (UR _ (Uo.2 rfl))
def W6{l w R s r}(h:dh l w R s r)(d:R.de){addr slot:yB}(h20:addr.size=20)(i:addr∈R.seen){a b}(f:a=(aQ bj (aR (l5 R.m) 1) (ag addr)).map ae)(o:b=(aQ bj (aR (aY (bG R.m) (ag addr)).ss 1) (ag slot)).map ae)(j:bY (Wn a b) (Wn a b).length=false):(gR (cY (l5 R.m)) (ag addr) a=0/\e8 (cY (l5 R.m)) (ag addr) a=bD (l5 R.m) (ag addr))/\gR (cY (aY (bG R.m) (ag addr)).ss) (ag slot) b=0/\e8 (cY (aY (bG R.m) (ag addr)).ss) (ag slot) b=bD (aY (bG R.m) (ag addr)).ss (ag slot):=by
 have hi:=d.inj;have n:=(h.k d).1;have g:=yh hi n;have s32:∀x:yB,(ag x).size<=40:=λx=>by rw[show(ag x).size=32 from dz _];decide
 let⟨f1,f2⟩:=Ij h d h20 i;have p:(aY (bG R.m) (ag addr)).ss=ct (bT R.m addr).1.az:=by rw[<-f2];rfl
 constructor
 .rw[f];refine WQ g (s32 addr) λc e=>?_
  have:=WS g (s32 addr) c e (l:=Wn a b) (λx q=>WZ (by rwa[f])) (all_empty a b);rw[j] at this;cases this
 rw[o,p];exact WQ (f1.map hi) (s32 slot) λc e=>c (by rw[f1.full e];rfl)
def W8(hs:List aH)(y):bD (l5 hs) y=match bG hs y with|none=>⟨#[]⟩|some a=>ir (eo a):=by
 unfold bD;rw[yi];cases bG hs y<;>rfl
def W9{l w R B A}(h:dh l w R B A)(e:R.de){addr slot:yB}(h20:addr.size=20)(o:addr∈R.seen)(h32:slot.size=32)(hs:slot∈R.seen){f j}(u:f=(aQ bj (aR (l5 R.m) 1) (ag addr)).map ae)(v:j=(aQ bj (aR (aY (bG R.m) (ag addr)).ss 1) (ag slot)).map ae)(s:bY (Wn f j) (Wn f j).length=false):(∀a g d,Wf (cY (l5 R.m)) addr f a g d->d=0/\g=(bT R.m addr).2/\(a.n:Int)=(bT R.m addr).1.n/\a.aI=(bT R.m addr).1.aI/\a.code=(bT R.m addr).1.code):=by
 have hi:=e.inj;have p:=(h.k e).1;let⟨⟨v1,v2⟩,_,_⟩:=W6 h e h20 o u v s;let⟨p1,p2,p3,_⟩:=BF h o (.inr ⟨h32,hs⟩) e h20;intro a g d y;have c:=y (vT (yh hi p)) h20 v1;rw[v2,W8] at c;have r:a=eo (aY (bG R.m) (ag addr))/\g=(bG R.m (ag addr)).isSome/\d=0:=by
  unfold aY;cases hm:bG R.m (ag addr) with
  |none=>rw[hm] at c;let⟨q1,q2,q3⟩:=c.1 rfl;exact⟨q1,q2,q3⟩
  |some b=>rw[hm] at c;obtain⟨x,z,_,rfl⟩:=Re hm;have i:=p.each x z;have t:=i.1.fit hi;exact c.2 _ (t.fit λq=>i.2 (i.1.none.1 ((rW _).2 q))) rfl
 let⟨e1,e2,e3⟩:=r;refine⟨e3,e2.trans p2,?_,?_,?_⟩
 .rw[e1,p1];show((bT R.m addr).1.n.toNat:Int)=_;omega
 .rw[e1,p1];rfl
 rw[e1,p1];rfl
def Xa{l w R g f}(h:dh l w R g f)(c:R.de){y a}(d:bG R.m y=some a):Fit (eo a):=by
 obtain⟨x,e,_,rfl⟩:=Re d;have b:=(h.k c).1.each x e;exact(b.1.fit c.inj).fit λq=>b.2 (b.1.none.1 ((rW _).2 q))
def Xb{l w R s r}(h:dh l w R s r)(b:R.de){addr slot:yB}(h20:addr.size=20)(g:addr∈R.seen)(h32:slot.size=32)(hs:slot∈R.seen){d f}(p:d=(aQ bj (aR (l5 R.m) 1) (ag addr)).map ae)(i:f=(aQ bj (aR (aY (bG R.m) (ag addr)).ss 1) (ag slot)).map ae)(n:bY (Wn d f) (Wn d f).length=false)(x)(c:Nat)(q:Wh (cY (l5 R.m)) addr slot d f x c):c=0/\x=bD (bT R.m addr).1.az slot:=by
 have hi:=b.inj;have o:=(h.k b).1;let⟨⟨v1,v2⟩,v3,v4⟩:=W6 h b h20 g p i n;let⟨p1,p2,p3,p4⟩:=BF h g (.inr ⟨h32,hs⟩) b h20;let⟨_,p5⟩:=p4 (by omega);let⟨z1,z2⟩:=q h32 (vT (yh hi o)) h20 v1;rw[v2,W8] at z1 z2;have key:iU (bD (aY (bG R.m) (ag addr)).ss (ag slot)) x c:=by
  cases hm:bG R.m (ag addr) with
  |none=>
   rw[hm] at z1;have e0:(aY (bG R.m) (ag addr)).ss=[]:=by unfold aY;rw[hm];rfl
   let⟨q1,q2⟩:=z1 rfl (by rw[i,e0,Th];unfold aQ;rw[Ui (by rw[show(ag slot).size=32 from dz _];decide)];rfl);rw[e0];exact⟨λ_=>⟨q1,q2⟩,λu e _ h0=>absurd (by have:=congrArg ByteArray.size e;rw[show(bD [] (ag slot)).size=0 from rfl] at this;have h1:=(qG (u:=u) (mH ‹_›)).1;omega) h0⟩
  |some a=>
   rw[hm] at z2;have j:aY (bG R.m) (ag addr)=a:=by unfold aY;rw[hm];rfl
   rw[j] at v3 v4⊢;have:=z2 (eo a) (Xa h b hm) rfl v3;rwa[show(eo a).root=cY a.ss from rfl,v4] at this
 let⟨e1,e2⟩:=p5 x c key;exact⟨e2,e1⟩
def Xc{k u}:∀{t},ah t k=some u->∃p∈t,p.2=u
 | [],h=>by cases h
 |p::t,h=>by
  have h:(if(p.1.toList == k.toList) then some p.2 else ah t k)=some u:=h
  split at h
  .exact⟨p,Uk ..,Option.some.inj h⟩
  let⟨q,h1,h2⟩:=Xc h
  exact⟨q,Ul _ h1,h2⟩
def Xd{l w R x v}(h:dh l w R x v)(d:R.de){addr slot:yB}(h20:addr.size=20)(j:addr∈R.seen)(h32:slot.size=32)(hs:slot∈R.seen){g c}(s:g=(aQ bj (aR (l5 R.m) 1) (ag addr)).map ae)(o:c=(aQ bj (aR (aY (bG R.m) (ag addr)).ss 1) (ag slot)).map ae)(r:bY (Wn g c) (Wn g c).length=false):WW (cY (l5 R.m)) slot (bT R.m addr).1 (bT R.m addr).2 c.length g c (eo (aY (bG R.m) (ag addr))):=by
 have hi:=d.inj;let⟨⟨v1,v2⟩,v3,v4⟩:=W6 h d h20 j s o r;let⟨p1,p2,p3,_⟩:=BF h j (.inr ⟨h32,hs⟩) d h20;let⟨f1,_⟩:=Ij h d h20 j;have i:(bT R.m addr).1.addr=addr:=Ik;have q:(aY (bG R.m) (ag addr)).ss=ct (bT R.m addr).1.az:=by rw[p1];rfl
 have t:(bT R.m addr).2=true->∃a,bG R.m (ag addr)=some a/\aY (bG R.m) (ag addr)=a:=λb=>by
  rw[<-p2] at b;let⟨a,e⟩:=Option.isSome_iff_exists.1 b;exact⟨a,e,by unfold aY;rw[e];rfl⟩
 have n:bD (aY (bG R.m) (ag addr)).ss (ag slot)=((ah (bT R.m addr).1.az slot).map fg).getD ⟨#[]⟩:=by
  rw[q];unfold bD;rw[DN hi hs λp k=>(f1.slot p k).2.1]
 refine⟨by rwa[i],λb=>?_,λb=>?_,λ_=>⟨p3,by rw[p1];rfl⟩,λ_=>by rw[p1];rfl,λ_=>by rw[p1];rfl,λ_ h0=>?_,λ_=>v3,λ_ he=>?_,λ_ he=>?_⟩
 .rw[<-p2] at b;have f:bG R.m (ag addr)=none:=by cases f:bG R.m (ag addr) with
   |none=>rfl
   |some a=>rw[f] at b;cases b
  refine⟨by rw[i,v2,W8,f],?_⟩;have e0:(aY (bG R.m) (ag addr)).ss=[]:=by unfold aY;rw[f];rfl
  rw[o,e0,Th];unfold aQ;rw[Ui (by rw[show(ag slot).size=32 from dz _];decide)];rfl
 .let⟨a,e1,e2⟩:=t b;rw[e2];exact⟨(Xa h d e1).ok,by rw[i,v2,W8,e1]⟩
 .show cY (aY (bG R.m) (ag addr)).ss=_;rw[q,UH.1 h0];exact MZ
 .show(e8 (cY (aY (bG R.m) (ag addr)).ss) (ag slot) c).toList.isEmpty=true;rw[v4,n];unfold bD at he;cases hl:ah (bT R.m addr).1.az slot with
  |none=>exact(g7 _).mpr rfl
  |some u=>rw[hl] at he;obtain⟨p,k,rfl⟩:=Xc hl;exact absurd ((g7 _).mp he) (f1.slot p k).2.2.2
 show e8 (cY (aY (bG R.m) (ag addr)).ss) (ag slot) c=_;rw[v4,n];unfold bD at he⊢;cases hl:ah (bT R.m addr).1.az slot with
 |none=>rw[hl] at he;rw[show((none:Option yB).getD ⟨#[]⟩).toList.isEmpty=true from(g7 _).mpr rfl] at he;cases he
 |some u=>rfl
def gO.Af{base j v cs}(h:gO base j v cs){W:World}(m:∀b∈j,W.heap[b.1]? =some b.2):dE base W v cs/\∀a n c,v=lV a n c->oM W a cs:=by
 have d:=h.own W m;refine⟨nS d,λa n c e=>?_⟩;intro i p l;let⟨a',o,k,_,_,f⟩:=dM d;rw[e] at k;cases k;have hi:=(Ux.1 l).1;rcases f with⟨_,h0,_⟩|⟨g,rfl⟩
 .have:cs.length=0:=h0;omega
 rw[e] at d;exact⟨g,rfl,(d.lt g rfl).2,fc d rfl i _ (by rw[UK,l];rfl)⟩
def gO.slice{base d v cs}(h:gO base d v cs){W:World}(g:∀b∈d,W.heap[b.1]? =some b.2):∃a c,v=lV a cs.length c:=by
 let⟨a',e,f,_⟩:=dM (h.own W g);exact⟨a',e,f⟩
def SC.ai{A P K e a w}(h:SC A P K e a w):∀b∈a,w.heap[b.1]? =some b.2:=by
 let⟨l',f,_,_,_,_,c⟩:=h;exact λb d=>(c b d).1
def Xe(R:aV)(addr slot:yB)(a b:List yB):Prop:=addr.size=20/\(R.de->a=(aQ bj (aR (l5 R.m) 1) (ag addr)).map ae/\b=(aQ bj (aR (aY (bG R.m) (ag addr)).ss 1) (ag slot)).map ae)
def TY(A:fm)(M:Mp)(addr:yB)(F:List yB->List yB->Prop)(s:xU)(W:World):Prop:=F s.ps s.qs/\∃b1 b2,gO A.w.heap.size b1 (lV s.a1 s.ps.length s.c1) s.ps/\gO A.w.heap.size b2 (lV s.a2 s.qs.length s.c2) s.qs/\SC A (λY t=>Wm A M Y t/\Wc A.ps t (ag addr) s.ps) 800 [] (b1++b2) W
def sG(A:fm)(M:Mp)(F:List yB->List yB->Prop)(s:xU)(W:World):Prop:=F s.ps s.qs/\∃b1 b2 b3,gO A.w.heap.size b1 (lV s.a1 s.ps.length s.c1) s.ps/\gO A.w.heap.size b2 (lV s.a2 s.qs.length s.c2) s.qs/\gO A.w.heap.size b3 (lV s.a3 s.os.length s.c3) s.os/\SC A (Wm A M) 1050 [] (b3++(b1++b2)) W
def sG.tx{A M F s W}(h:sG A M F s W):oM W s.a1 s.ps/\oM W s.a3 s.os/\(∃b,dE b W (lV s.a1 s.ps.length s.c1) s.ps)/\(∃b,dE b W (lV s.a2 s.qs.length s.c2) s.qs)/\fh 81 s.ps/\fh 81 s.qs:=by
 let⟨_,b1,b2,b3,h1,h2,h3,d⟩:=h;have c:=d.ai;let⟨t1,k1⟩:=h1.Af λb a=>c b (UP _ (UR _ a))
 let⟨t2,_⟩:=h2.Af λb a=>c b (UP _ (UP _ a))
 let⟨_,k3⟩:=h3.Af λb a=>c b (UR _ a)
 exact⟨k1 _ _ _ rfl,k3 _ _ _ rfl,⟨_,t1⟩,⟨_,t2⟩,⟨h1.len,h1.small⟩,⟨h2.len,h2.small⟩⟩
def tl{b W v cs n}(h:dE b W v cs)(hs:fh n cs)(c:n<=4000000000):nE W v cs:=⟨h.texts,by have:=hs.1;unfold maxLen;omega,λp a=>by have:=hs.2 p a;unfold maxLen;omega⟩
def Mq{l w R I j}(h:dh l w R I j)(addr slot:yB)(ha:addr.size<=1073741824)(hs:slot.size<=1073741824)(hN:R.N+2000<4000000000)(hw:bA R.m<=500000)(h32:slot.size=32)(A1:addr∈R.seen)(A2:slot∈R.seen):yC 27 #[pV (qA R.rb),sV addr,sV slot] w λe w'=>e=rV (bV true)/\eY l w R I j 1050 w':=by
 let⟨am,cm,A5⟩:=h.y.pm.form;let⟨A,G⟩:=yX (R.arg l w I j);have Z:A.sp=R.sp:=by rw[G];rfl
 have B1:A.N=R.N:=by rw[G];rfl
 have A0:SC A (Wm A (bG R.m)) 0 [] [] w:=by rw[G];exact h.start
 have B2:=uv R.m;have L:R.de->A.k.ok:=λt=>by rwa[G]
 have T:(R.yes || bY R.seen R.seen.length)=false->R.de:=λU=>by rwa[Bool.or_eq_false_iff] at U
 have J:∀K W,SC A (Wm A (bG R.m)) K [] [] W->(yc W R.rb 1 (pV (qA R.sp))/\yc W R.rb 2 (lV am R.m.length cm)/\R.rb<W.heap.size)/\gw W R.mv R.m:=λK W i=>by
  rw[G] at i;let⟨⟨_,c1,c2,_⟩,h2,_⟩:=h.cells i;rw[A5] at c2;exact⟨⟨c1,c2,UE _ _ c1⟩,h2⟩
 have C:∀s W,sG A (bG R.m) (Xe R addr slot) s W->SC A (Wm A (bG R.m)) 1050 [] [] W:=λs W d=>by
  let⟨_,b1,b2,b3,_,_,_,i⟩:=d;exact i.drop (λ_ h=>h) λb f=>by cases f
 have B0:∀s W S,sG A (bG R.m) (Xe R addr slot) s W->yW W S->sG A (bG R.m) (Xe R addr slot) s S:=λs W S d f=>by
  let⟨F,b1,b2,b3,h1,h2,h3,i⟩:=d;exact⟨F,b1,b2,b3,h1,h2,h3,i.below f⟩
 refine(Mo w R.rb R.sp am R.m.length cm addr slot (λW=>SC A (Wm A (bG R.m)) 1050 [] [] W) (TY A (bG R.m) addr (Xe R addr slot)) (sG A (bG R.m) (Xe R addr slot)) (bT R.m addr).1 (bT R.m addr).2 (R.yes || bY R.seen R.seen.length) (bD (bT R.m addr).1.az slot) (λj P r=>(R.de->r=cY (l5 R.m))/\Xe R addr slot j P) (λj r x b c Q V=>∃a:Acc,x=(a.n:Int)/\b=a.aI/\c=a.code/\Wf r addr j a Q V) (λj P r x c=>Wh r addr slot j P x c)
  ⟨(J 0 w A0).1.1,(J 0 w A0).1.2.2⟩ (λW o=>(J _ W o).1) (λW S o f=>o.below f) B0
  (λs W hX=>by let⟨_,b1,b2,_,_,i⟩:=hX;exact((i.ev λ_ _ q=>q.1).mono (by omega)).drop (λ_ h=>h) λb f=>by cases f)
  C (λs W d=>d.tx) ?_ ?_ ?_ ?_ ?_ ?_ ?_ ?_ ?_ ?_ ?_ ?_).mono ?_
 .rw[<-Z];refine(EG A0 addr slot (by unfold maxLen;omega) (by unfold maxLen;omega) (by omega)).mono ?_;rintro e w'⟨⟨u,v,c,cs,ds,b1,b2,D,A6,A7,B,i⟩,_⟩;rw[UU] at i;obtain⟨a1,c1,rfl⟩:=A6.slice λb f=>i.ai b (UR _ f)
  obtain⟨a2,c2,rfl⟩:=A7.slice λb f=>i.ai b (UP _ f)
  refine⟨⟨a1,c1,cs,a2,c2,ds,none,0,[]⟩,c,D,B.1,λh20 Y=>?_,λh20 Y=>⟨⟨h20,λt=>?_⟩,b1,b2,A6,A7,i.ev λ_ _ q=>⟨q.1,q.2 Y⟩⟩,((i.ev λ_ _ q=>q.1).mono (by omega)).drop (λ_ h=>h) λb f=>by cases f⟩
  .cases U:(R.yes || bY R.seen R.seen.length) with
   |true=>rfl
   |false=>exact absurd (B.2 h20 h32 (L (T U))).1 Y
  let⟨_,z1,z2⟩:=B.2 h20 h32 (L t);exact⟨z1 _ (Kw t.inj (h.k t).1),z2⟩
 .rintro s W⟨F,b1,b2,h1,h2,i⟩;rw[<-Z];refine(We addr i F.1).mono ?_;rintro e w'⟨⟨v,br,D,hr,A3⟩,_⟩;obtain⟨a3,c3,rfl⟩:=hr.slice λb f=>A3.ai b (UR _ f)
  exact⟨a3,c3,_,0,D,⟨rfl,rfl⟩,F,b1,b2,br,h1,h2,hr,A3⟩
 .intro s W d;have o:=C s W d;let⟨l',D',_,_,_,hx,_⟩:=o;rw[<-Z];refine(tH hx).mono ?_;rintro e w'⟨⟨r,h1,h3,X,_,hP,_,B⟩,h2⟩;refine⟨⟨r,h1,λt=>?_,d.1⟩,h2⟩;have A8:=Kw t.inj (h.k t).1;rw[(B (L t)).1];exact Nb (B (L t)).2 A8.1 λk=>((hP (L t)).dJ k).trans (A8.2 k).symm
 .intro s W d;have o:=C s W d;have H:=(J _ W o).2;rw[<-A5];refine(GH W R.mv R.m addr H (by omega) o.bz).mono ?_;rintro e w'⟨D,f⟩;exact⟨D,f⟩
 .intro s W r d;let⟨_,_,⟨b,t1⟩,_,s1,_⟩:=d.tx;refine(Cx (tl t1 s1 (by decide)) r addr (by unfold maxLen;omega) (C s W d).bz).mono ?_;rintro e w'⟨⟨a,Q,c,D,_,_,B⟩,f⟩;exact⟨⟨_,_,_,_,Q,c,D,a,rfl,rfl,rfl,B⟩,f⟩
 .intro s W r d;let⟨_,_,⟨b,t1⟩,⟨b2,t2⟩,s1,s2⟩:=d.tx;refine(La (tl t1 s1 (by decide)) (tl t2 s2 (by decide)) r addr slot (by unfold maxLen;omega) (by unfold maxLen;omega) (C s W d).bz).mono ?_;rintro e w'⟨⟨x,c,D,_,B⟩,f⟩;exact⟨⟨x,c,D,B⟩,f⟩
 .intro s W d;have H:=qy (addr:=addr) (J _ W (C s W d)).2 ha;exact(og W (bT R.m addr).1.sv (bT R.m addr).1.az slot H.at_ (by have:=H.len;omega))
 .intro s W r d E;have H:=qy (addr:=addr) (J _ W (C s W d)).2 ha;let⟨_,_,⟨b,t1⟩,⟨b2,t2⟩,s1,s2⟩:=d.tx;refine WY (C s W d).bz H (tl t1 s1 (by decide)) (tl t2 s2 (by decide)) r slot hs _ _ (eo (aY (bG R.m) (ag addr))) (λg=>?_) λp M=>(H.small p M).2
  have z:=T g.1;let⟨e1,e2⟩:=E.2.2 z;rw[E.1 z];exact Xd h z E.2.1 A1 h32 A2 e1 e2 g.2
 .intro s W v cs b d E A4;exact(pk W v cs E.texts (by have:=A4.1;omega) (λp M=>by have:=A4.2 p M;unfold maxLen;omega) (C s W d).bz)
 .intro W o;have A9:SC (R.arg l w I j) (Wm (R.arg l w I j) (bG R.m)) 1050 [] [] W:=by rwa[<-G]
  let⟨⟨_,_,_,_,c4,c5,d0⟩,_,_,M⟩:=h.cells A9;exact(zg c5 c4 d0 M h.y.ns h.y.sm o.bz)
 .rintro j P r x b c Q V g⟨E,h20,F⟩ ⟨a,rfl,rfl,rfl,O⟩;have z:=T g.1;let⟨e1,e2⟩:=F z;rw[E z] at O;exact W9 h z h20 A1 h32 A2 e1 e2 g.2 a Q V O
 .rintro j P r x c g⟨E,h20,F⟩ O;have z:=T g.1;let⟨e1,e2⟩:=F z;rw[E z] at O;exact Xb h z h20 A1 h32 A2 e1 e2 g.2 x c O
 rintro e w'⟨h1,h2⟩;have h3:SC (R.arg l w I j) (Wm (R.arg l w I j) (bG R.m)) 1050 [] [] w':=by rw[<-G];exact h2.o
 exact⟨h1,h.done h3 (Ug _) λ_ _ h=>h⟩
end Go.Proofs.YteaodagofkcgbaaGreatDoor
