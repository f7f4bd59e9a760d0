import Derived.Test.YteaodagofkcgbaaGreatDoorE
open Go.Proofs.Tryz
open Go.Proofs.Tryz renaming prog→yP
open Go.Value renaming string→sV,pointer→pV,int→iV,slice→lV,bool→bV,tuple→tV,agg→gV
open Go.Ending renaming returned→rV
namespace Go.Proofs.YteaodagofkcgbaaGreatDoor
open Go.RowKit
set_option maxRecDepth 100000
set_option maxHeartbeats 0
set_option linter.all false
def CF:List Nat:=[0,1,62,28,27,36,44,6,55,20,3,10,43,25,39,41,45,15,21,8,18,2,61,56,14]
def FR:List Nat:=[0,10,20,5,15,16,1,11,21,6,7,17,2,12,22,23,8,18,3,13,14,24,9,19,4]
def yg:List Nat:=[1,32898,9223372036854808714,9223372039002292224,32907,2147483649,9223372039002292353,9223372036854808585,138,136,2147516425,2147483658,2147516555,9223372036854775947,9223372036854808713,9223372036854808579,9223372036854808578,9223372036854775936,32778,9223372039002259466,9223372039002292353,9223372036854808704,2147483649,9223372039002292232]
def nK(i:Nat):Nat:=CF.getD i 0
def my(i:Nat):Nat:=FR.getD i 0
def qW(i:Nat):Nat:=yg.getD i 0
def Lm(i:Nat)(h:i<25):nK i<64:=by
 have:∀i:Fin 25,nK i<64:=by decide
 exact this ⟨i,h⟩
def PT(i:Nat)(h:i<25):my i<25:=by
 have:∀i:Fin 25,my i<25:=by decide
 exact this ⟨i,h⟩
structure aB(w:World):Prop where
 size:3<=w.heap.size
 words:∀j,j<24->w.cell? ⟨0,j,none⟩=some (iV .u64 (qW j))
 turns:∀j,j<25->w.cell? ⟨1,j,none⟩=some (iV .u64 (nK j))
 ud:∀j,j<25->w.cell? ⟨2,j,none⟩=some (iV .i64 (my j))
def aB.kept{w w' b}(h:aB w)(k:Kept b w w')(c:3<=b):aB w':=
 ⟨Ut h.size k.size,
  λj a=>(Uz (w:=w) (k.block 0 (by have:=h.size;omega) (by omega))).trans (h.words j a),
  λj a=>(Uz (w:=w) (k.block 1 (by have:=h.size;omega) (by omega))).trans (h.turns j a),
  λj a=>(Uz (w:=w) (k.block 2 (by have:=h.size;omega) (by omega))).trans (h.ud j a)⟩
def nR(a:Nat->Int):Array Value:=((List.range 25).map (λi=>Value.int .u64 (a i))).toArray
def zm(a:Nat->Int):(nR a).size=25:=by simp[nR]
def vY(a:Nat->Int)(j:Nat)(h:j<25):(nR a)[j]? =some (iV .u64 (a j)):=by
 unfold nR;rw[Vu];simp[h]
def Nw(c:Nat->Int)(i:Nat)(v:Int)(h:i<25):(nR c).setIfInBounds i (iV .u64 v)=nR (cC c i v):=by
 apply Vw;intro j;rw[Vi];by_cases a:i=j
 .subst a;rw[Uj rfl,Uj (by rw[zm];omega),vY _ _ h];simp[cC]
 rw[Ui a];by_cases b:j<25
 .rw[vY _ _ b,vY _ _ b];simp[cC,Ne.symm a]
 rw[UF (by rw[zm];omega),UF (by rw[zm];omega)]
structure kL(w:World)(b:Nat)(vs:Nat->Int):Prop where
 block:w.heap[b]? =some (.cells (nR vs) 145 (0,0))
namespace kL
variable {w : World} {b : Nat} {vs : Nat → Int}
def at_(h:kL w b vs)(j:Nat)(a:j<25):w.cell? ⟨b,j,none⟩=some (iV .u64 (vs j)):=by
 rw[Ur w b j _ _ _ h.block,vY _ _ a]
def free(h:kL w b vs)(j:Nat):w.frozen? ⟨b,j,none⟩=false:=US w b j _ _ h.block
def set(h:kL w b vs)(i:Nat)(v:Int)(hi:i<25):kL (w.setCell ⟨b,i,none⟩ (iV .u64 v)) b (cC vs i v):=
 ⟨by rw[Vo w b i _ _ _ h.block,Nw _ _ _ hi]⟩
def drew(h:kL w b vs):kL w.drew b vs:=⟨h.block⟩
def drewN(h:kL w b vs)(n:Nat):kL (w.drewN n) b vs:=⟨h.block⟩
def other(h:kL w b vs)(c i:Nat)(v)(a:b≠c):kL (w.setCell ⟨c,i,none⟩ v) b vs:=⟨by rw[Uy w ⟨c,i,none⟩ b v a];exact h.block⟩
end kL
def cU.other{w b}{a:Nat->Int}{t:Int}(h:cU w b a t)(c i:Nat)(v)(d:b≠c):cU (w.setCell ⟨c,i,none⟩ v) b a t:=⟨by rw[Uy w ⟨c,i,none⟩ b v d];exact h.block⟩
def Kept.new{b w w'}(h:Kept b w w')(g i:Nat)(v)(d:w.heap.size<=g):Kept b w (w'.setCell ⟨g,i,none⟩ v):=
 ⟨h.os,h.tape,h.output,by simpa [World.setCell] using h.size,λk a c=>(Uy w' ⟨g,i,none⟩ k v (by show k≠g;omega)).trans (h.block k a c)⟩
def nJ(a:Nat->Int):Nat->Nat->Int
 | 0=>λ_=>0
 |k+1=>cC (nJ a k) (my k) (fs (a k) (nK k))
def oy(a:Nat->Int)(j:Nat):Int:=xo (a j) (an (a (j / 5*5+(j+2) % 5)) (a (j / 5*5+(j+1) % 5)))
def lx(b a:Nat->Int)(k:Nat):Nat->Int:=λj=>if j<k then oy a j else b j
def SU(h f:Nat->Int)(k:Nat)(a b c d e:Int)(h5:k % 5=0)(i:f k=a)(l:f (k+1)=b)(m:f (k+2)=c)(n:f (k+3)=d)(o:f (k+4)=e)(j:Nat):cC (cC (cC (cC (cC (lx h f k) k (xo a (an c b))) (k+1) (xo b (an d c))) (k+2) (xo c (an e d))) (k+3) (xo d (an a e))) (k+4) (xo e (an b a)) j=lx h f (k+5) j:=by
 subst i l m n o;unfold cC;by_cases j4:j=k+4
 .subst j4;rw[Uj rfl];simp only[lx,Uj (show k+4<k+5 by omega),oy,show(k+4) / 5*5+(k+4+2) % 5=k+1 by omega,show(k+4) / 5*5+(k+4+1) % 5=k by omega]
 rw[Ui j4];by_cases j3:j=k+3
 .subst j3;rw[Uj rfl];simp only[lx,Uj (show k+3<k+5 by omega),oy,show(k+3) / 5*5+(k+3+2) % 5=k by omega,show(k+3) / 5*5+(k+3+1) % 5=k+4 by omega]
 rw[Ui j3];by_cases j2:j=k+2
 .subst j2;rw[Uj rfl];simp only[lx,Uj (show k+2<k+5 by omega),oy,show(k+2) / 5*5+(k+2+2) % 5=k+4 by omega,show(k+2) / 5*5+(k+2+1) % 5=k+3 by omega]
 rw[Ui j2];by_cases j1:j=k+1
 .subst j1;rw[Uj rfl];simp only[lx,Uj (show k+1<k+5 by omega),oy,show(k+1) / 5*5+(k+1+2) % 5=k+3 by omega,show(k+1) / 5*5+(k+1+1) % 5=k+2 by omega]
 rw[Ui j1];by_cases j0:j=k
 .subst j0;rw[Uj rfl];simp only[lx,Uj (show j<j+5 by omega),oy,show j / 5*5+(j+2) % 5=j+2 by omega,show j / 5*5+(j+1) % 5=j+1 by omega]
 rw[Ui j0];unfold lx;by_cases g:j<k
 .rw[Uj g,Uj (by omega)]
 rw[Ui g,Ui (by omega)]
def SV(b a:Nat->Int)(j:Nat)(h:j<25):lx b a 25 j=oy a j:=by simp[lx,h]
def SS(a b:Nat->Int)(j:Nat):lx a b 0 j=a j:=by simp[lx]
def PU(c:Nat->Int)(t:Int)(w)(b:Nat)(H:cU w b c t)(T:aB w)(K:3<=b):Calls Tryz.prog 121 #[pV (some ⟨b,0,none⟩)] w λe w'=>e=rV (tV #[])/\cU w' b (oy (nJ c 25)) t/\Kept b w w':=by
 have M:=H.lt;go_enter Tryz.func121,Tryz.ntmps121
 go_wp2_with fail
 obtain⟨v,o⟩:=yX w.heap.size;have x:=aa o;rw[<-o];go_loopg [3] 25 (λg r wr=>∃k:Nat,g=25 - k/\k<=25/\r=iV .i64 k/\kL wr v (nJ c k)/\cU wr b c t/\Kept b w wr)
 .have J:(w.alloc (.cells (nR (nJ c 0)) 145)).heap[w.heap.size]? =some (.cells (nR (nJ c 0)) 145 (0,0)):=UG _ _;exact⟨0,rfl,by omega,rfl,⟨by rw[o];exact J⟩,H.kept ((Kept.refl (b+1) w).alloc _) (by omega),(Kept.refl b w).alloc _⟩
 obtain⟨k,l,L,rfl,d,a,f⟩:=hrel;have p:=aa l;clear l o;by_cases h:k<25
 .have T':=T.kept f K;have m1:=T'.ud k h;have m2:=T'.turns k h;have l1:=PT k h;have l2:=Lm k h;have c1:=a.at_ k h;have c2:=d.at_ (my k) l1;have c3:=d.free (my k);have i:=aa d;have s:=aa a;have u:=aa f;have B:yH (cC (nJ c k) (my k) (fs (c k) (nK k))=nJ c (k+1)):=rfl;clear d a f T' H T;generalize my k=m at*;generalize nK k=tu at*;go_wp2_with fail
  go_region_with (go_at_call 141;refine(qY _ _ (by assumption) _).mono ?_;rintro e w'⟨rfl,rfl⟩)
  all_goals
   go_wp2_with fail
   go_roundg (25 - (k+1))
   .exact⟨k+1,rfl,by omega,by go_num,by rw[<-B.o];exact(i.o.set _ _ (by omega)).drew,(s.o.other _ _ _ (by have:=x.o;omega)).drew,(u.o.new _ _ _ (by have:=x.o;omega)).drew⟩
   have:=p.o;omega
 have:k=25:=by omega
 subst this;generalize hvt:nJ c 25=vs at*;have C:=aa hvt;have i:=aa d;clear hvt d;go_wp2_with fail
 go_loopg [4,5,6,7,8,9] 5 (λg r _ _ _ _ _ y=>∃k:Nat,g=5 - k / 5/\k<=25/\yH (k % 5=0)/\r=iV .i64 k/\kL y v vs/\cU y b (lx c vs k) t/\Kept b w y)
 .exact⟨0,rfl,by omega,rfl,rfl,i.o,a.congr (λj _=>(SS c vs j).symm),f⟩
 clear a f H T;obtain⟨k,l,L,h5,rfl,d,a,f⟩:=hrel;have p:=aa l;clear l;by_cases h:k<25
 .have h20:k<=20:=by have:=h5.o;omega
  have r0:=d.at_ k (by omega);have r1:=d.at_ (k+1) (by omega);have r2:=d.at_ (k+2) (by omega);have r3:=d.at_ (k+3) (by omega);have r4:=d.at_ (k+4) (by omega);generalize hva:vs k=va at r0;generalize hvb:vs (k+1)=vb at r1;generalize hvc:vs (k+2)=vc at r2;generalize hvd:vs (k+3)=vd at r3;generalize hve:vs (k+4)=ve at r4;have z:yH (vs k=va/\vs (k+1)=vb/\vs (k+2)=vc/\vs (k+3)=vd/\vs (k+4)=ve):=⟨hva,hvb,hvc,hvd,hve⟩
  clear hva hvb hvc hvd hve;obtain⟨q0,d0⟩:∃q,wr.cell? ⟨b,k,none⟩=some q:=⟨_,a.at_ k (by omega)⟩
  obtain⟨q1,d1⟩:∃q,wr.cell? ⟨b,k+1,none⟩=some q:=⟨_,a.at_ (k+1) (by omega)⟩
  obtain⟨q2,d2⟩:∃q,wr.cell? ⟨b,k+2,none⟩=some q:=⟨_,a.at_ (k+2) (by omega)⟩
  obtain⟨q3,d3⟩:∃q,wr.cell? ⟨b,k+3,none⟩=some q:=⟨_,a.at_ (k+3) (by omega)⟩
  obtain⟨q4,d4⟩:∃q,wr.cell? ⟨b,k+4,none⟩=some q:=⟨_,a.at_ (k+4) (by omega)⟩
  have f0:=a.free k;have f1:=a.free (k+1);have f2:=a.free (k+2);have f3:=a.free (k+3);have f4:=a.free (k+4);have i:=aa d;have s:=aa a;have u:=aa f;clear d a f;go_wp2;go_roundg (5 - (k+5) / 5)
  case measure=>have:=p.o;omega
  case rel=>
   obtain⟨D,E,F,G,I⟩:=z.o;have n:v≠b:=by have:=x.o;omega
   have A:=(((((s.o.set k (xo va (an vc vb)) (by omega)).set (k+1) (xo vb (an vd vc)) (by omega)).set (k+2) (xo vc (an ve vd)) (by omega)).set (k+3) (xo vd (an va ve)) (by omega)).set (k+4) (xo ve (an vb va)) (by omega)).congr (λj _=>SU c vs k va vb vc vd ve h5.o D E F G I j);exact⟨k+5,rfl,by omega,(by have:=h5.o;show(k+5) % 5=0;omega),by go_num,((((i.o.other _ _ _ n).other _ _ _ n).other _ _ _ n).other _ _ _ n).other _ _ _ n,A,((((u.o.set _ _).set _ _).set _ _).set _ _).set _ _⟩
 have:k=25:=by omega
 subst this;go_wp2_with fail
 go_end0;exact⟨rfl,by rw[C.o];exact a.congr (SV c vs),f⟩
def ya:Nat->Int:=λ_=>0
def Q6:(yP.info? 145).map (·.size)=some 25:=by kernel_rfl
def PE(w:World):Calls yP 48 #[] w λe w'=>e=rV (pV (qA w.heap.size))/\w'=w.alloc (.cells (jR ya 0) 147):=by
 go_enter func48,ntmps48
 go_wp2;go_ret;exact⟨rfl,rfl⟩
def So(a:Nat->Int)(t:Int)(w)(b:Nat)(H:cU w b a t):Calls yP 91 #[pV (qA b)] w λe w'=>e=rV (pV (qA w.heap.size))/\w'=(w.alloc (.cells (jR a t) 147)).drew:=by
 have c1:=H.taken;have g:w.rangeAt b 0 [Value.int .u64 (a 0),Value.int .u64 (a 1),Value.int .u64 (a 2),Value.int .u64 (a 3),Value.int .u64 (a 4),Value.int .u64 (a 5),Value.int .u64 (a 6),Value.int .u64 (a 7),Value.int .u64 (a 8),Value.int .u64 (a 9),Value.int .u64 (a 10),Value.int .u64 (a 11),Value.int .u64 (a 12),Value.int .u64 (a 13),Value.int .u64 (a 14),Value.int .u64 (a 15),Value.int .u64 (a 16),Value.int .u64 (a 17),Value.int .u64 (a 18),Value.int .u64 (a 19),Value.int .u64 (a 20),Value.int .u64 (a 21),Value.int .u64 (a 22),Value.int .u64 (a 23),Value.int .u64 (a 24)]:=by
  intro j v c;have d:j<25:=by have:=(Ux.1 c).1;simpa using this
  have e:[Value.int .u64 (a 0),Value.int .u64 (a 1),Value.int .u64 (a 2),Value.int .u64 (a 3),Value.int .u64 (a 4),Value.int .u64 (a 5),Value.int .u64 (a 6),Value.int .u64 (a 7),Value.int .u64 (a 8),Value.int .u64 (a 9),Value.int .u64 (a 10),Value.int .u64 (a 11),Value.int .u64 (a 12),Value.int .u64 (a 13),Value.int .u64 (a 14),Value.int .u64 (a 15),Value.int .u64 (a 16),Value.int .u64 (a 17),Value.int .u64 (a 18),Value.int .u64 (a 19),Value.int .u64 (a 20),Value.int .u64 (a 21),Value.int .u64 (a 22),Value.int .u64 (a 23),Value.int .u64 (a 24)]=(List.range 25).map (λi=>Value.int .u64 (a i)):=rfl;rw[Vj,H.at_ j d,<-c,e];simp[d]
 have l:[Value.int .u64 (a 0),Value.int .u64 (a 1),Value.int .u64 (a 2),Value.int .u64 (a 3),Value.int .u64 (a 4),Value.int .u64 (a 5),Value.int .u64 (a 6),Value.int .u64 (a 7),Value.int .u64 (a 8),Value.int .u64 (a 9),Value.int .u64 (a 10),Value.int .u64 (a 11),Value.int .u64 (a 12),Value.int .u64 (a 13),Value.int .u64 (a 14),Value.int .u64 (a 15),Value.int .u64 (a 16),Value.int .u64 (a 17),Value.int .u64 (a 18),Value.int .u64 (a 19),Value.int .u64 (a 20),Value.int .u64 (a 21),Value.int .u64 (a 22),Value.int .u64 (a 23),Value.int .u64 (a 24)].length=25:=rfl;have k:=Q6;have m:∀v∈[Value.int .u64 (a 0),Value.int .u64 (a 1),Value.int .u64 (a 2),Value.int .u64 (a 3),Value.int .u64 (a 4),Value.int .u64 (a 5),Value.int .u64 (a 6),Value.int .u64 (a 7),Value.int .u64 (a 8),Value.int .u64 (a 9),Value.int .u64 (a 10),Value.int .u64 (a 11),Value.int .u64 (a 12),Value.int .u64 (a 13),Value.int .u64 (a 14),Value.int .u64 (a 15),Value.int .u64 (a 16),Value.int .u64 (a 17),Value.int .u64 (a 18),Value.int .u64 (a 19),Value.int .u64 (a 20),Value.int .u64 (a 21),Value.int .u64 (a 22),Value.int .u64 (a 23),Value.int .u64 (a 24)],v.oneCell'=true:=by
  have e:[Value.int .u64 (a 0),Value.int .u64 (a 1),Value.int .u64 (a 2),Value.int .u64 (a 3),Value.int .u64 (a 4),Value.int .u64 (a 5),Value.int .u64 (a 6),Value.int .u64 (a 7),Value.int .u64 (a 8),Value.int .u64 (a 9),Value.int .u64 (a 10),Value.int .u64 (a 11),Value.int .u64 (a 12),Value.int .u64 (a 13),Value.int .u64 (a 14),Value.int .u64 (a 15),Value.int .u64 (a 16),Value.int .u64 (a 17),Value.int .u64 (a 18),Value.int .u64 (a 19),Value.int .u64 (a 20),Value.int .u64 (a 21),Value.int .u64 (a 22),Value.int .u64 (a 23),Value.int .u64 (a 24)]=(List.range 25).map (λi=>Value.int .u64 (a i)):=rfl;rw[e];intro v c;simp at c;obtain⟨i,_,rfl⟩:=c;rfl
 have f:=H.lt;have h:∀o,(w.alloc o).cell? ⟨b,25,none⟩=some (iV .i64 t):=λo=>(World.cell?_alloc_lt _ _ _ f).trans c1
 have n:=λo=>World.rangeAt_alloc g o
 clear H;have p:=underlying145;go_enter func91,ntmps91
 go_wp2;go_region_held2 (λw'=>w'.rangeAt b 0 [Value.int .u64 (a 0),Value.int .u64 (a 1),Value.int .u64 (a 2),Value.int .u64 (a 3),Value.int .u64 (a 4),Value.int .u64 (a 5),Value.int .u64 (a 6),Value.int .u64 (a 7),Value.int .u64 (a 8),Value.int .u64 (a 9),Value.int .u64 (a 10),Value.int .u64 (a 11),Value.int .u64 (a 12),Value.int .u64 (a 13),Value.int .u64 (a 14),Value.int .u64 (a 15),Value.int .u64 (a 16),Value.int .u64 (a 17),Value.int .u64 (a 18),Value.int .u64 (a 19),Value.int .u64 (a 20),Value.int .u64 (a 21),Value.int .u64 (a 22),Value.int .u64 (a 23),Value.int .u64 (a 24)]/\w'.cell? ⟨b,25,none⟩=some (iV .i64 t)) (first| (simp[*];done) |go_keep_ranges) (fail)
 all_goals go_wp2
 all_goals go_ret
 all_goals exact⟨rfl,rfl⟩
def uz(a:Nat->Int)(i:Nat):Int:=IntKind.u8.wrap (a (i / 8) / 2 ^ (i % 8*8))
def uy(a:Nat->Int):yB:=strOfNums ((List.range 32).map (uz a))
def Rk(a:Nat->Int):(uy a).size=32:=by unfold uy;rw[strOfNums_size];simp
def pq(a:Nat->Int)(k:Nat)(i:Nat):Int:=if i<k then uz a i else 0
def pG(f:Nat->Int):Array Value:=((List.range 32).map (λi=>Value.int .u8 (f i))).toArray
def BE(f:Nat->Int):(pG f).size=32:=by simp[pG]
def uQ(f:Nat->Int)(j:Nat)(h:j<32):(pG f)[j]? =some (iV .u8 (f j)):=by
 unfold pG;rw[Vu];simp[h]
def TD(f:Nat->Int)(i:Nat)(v:Int)(h:i<32):(pG f).setIfInBounds i (iV .u8 v)=pG (cC f i v):=by
 apply Vw;intro j;rw[Vi];by_cases a:i=j
 .subst a;rw[Uj rfl,Uj (by rw[BE];omega),uQ _ _ h];simp[cC]
 rw[Ui a];by_cases b:j<32
 .rw[uQ _ _ b,uQ _ _ b];simp[cC,Ne.symm a]
 rw[UF (by rw[BE];omega),UF (by rw[BE];omega)]
def Rj(a:Nat->Int)(k:Nat):cC (pq a k) k (uz a k)=pq a (k+1):=by
 funext j
 unfold cC pq;by_cases h:j=k
 .subst h;rw[Uj rfl,Uj (by omega)]
 rw[Ui h];by_cases h2:j<k
 .rw[Uj h2,Uj (by omega)]
 rw[Ui h2,Ui (by omega)]
def P8(w):(Instr.makeSlice 143 (iV .i64 32) (iV .i64 32)).run yP w=.ok (lV (qA w.heap.size) 32 32) (w.alloc (.cells (pG λ_=>0) 5)):=by kernel_rfl
def Ri(a:Nat->Int)(t:Int)(w)(b:Nat)(H:cU w b a t):Calls yP 92 #[pV (qA b)] w λe w'=>e=rV (sV (uy a))/\Below w.heap.size w w':=by
 have u:=P8;have v:=H.lt;go_enter func92,ntmps92
 go_wp2_with fail
 obtain⟨g,c⟩:=yX w.heap.size;have l:=aa c;rw[<-c];clear u;go_loopg [4] 32 (λn r wr=>∃k:Nat,n=32 - k/\k<=32/\r=iV .i64 k/\wr.heap[g]? =some (.cells (pG (pq a k)) 5 (0,0))/\cU wr b a t/\Below g w wr)
 .refine⟨0,rfl,by omega,rfl,by rw[c];exact UG _ _,H.kept ((Kept.refl (b+1) w).alloc _) (by omega),?_⟩;rw[c];exact(Un _ _).alloc (Ug _) _
 obtain⟨k,o,y,rfl,j,d,m⟩:=hrel;have q:=aa o;have f:=aa j;have s:=aa d;have h:=aa m;clear o c j m H;by_cases p:k<32
 .have c0:=d.at_ (k / 8) (by omega);have c1:wr.cell? ⟨g,k,none⟩=some (iV .u8 (pq a k k)):=by rw[Ur wr g k _ _ _ f.o,uQ _ _ p]
  have f1:wr.frozen? ⟨g,k,none⟩=false:=US wr g k _ _ f.o;have A:min (k % 8*8) 64=k % 8*8:=by omega
  generalize pq a k k=z at c1;clear d;go_wp2_with fail
  go_roundg (32 - (k+1))
  case measure=>have:=q.o;omega
  case rel=>
   refine⟨k+1,rfl,by omega,by go_num,?_,s.o.kept ((Kept.refl g _).set _ _) (by have:=l.o;omega),h.o.setCell (Ug _) _⟩;rw[Vo _ _ _ _ _ _ f.o,<-Rj,<-TD _ _ _ p];rfl
 have:k=32:=by omega
 subst this;have B:pq a 32=λi=>if i<32 then uz a i else 0:=rfl
 have x:=VA (P:=yP) wr 143 5 underlying143 underlying5 g 0 32 32 ((List.range 32).map (uz a)) (by simp) (λi hi=>by
  rw[Vj,Ur wr g i _ _ _ f.o,uQ _ _ hi];simp[pq,hi]) 9 underlying9
 clear d;go_wp2_with fail
 go_ret;exact⟨rfl,by rw[<-l.o];exact h.o⟩
end Go.Proofs.YteaodagofkcgbaaGreatDoor
