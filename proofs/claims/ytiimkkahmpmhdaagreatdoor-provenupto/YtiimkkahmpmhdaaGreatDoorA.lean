import Derived.Test.YtiimkkahmpmhdaaGreatDoorHd
open Go.Proofs.Tryz
open Go.Proofs.Tryz renaming prog→yP
open Go.Value renaming string→sV,pointer→pV,int→iV,slice→lV,bool→bV,tuple→tV,agg→gV
open Go.Ending renaming returned→rV
namespace Go.Proofs.YtiimkkahmpmhdaaGreatDoor
open Go.RowKit
set_option maxRecDepth 100000
set_option maxHeartbeats 0
set_option linter.all false
def eH(a:Int)(n:Nat):Int:=bits .or .u64 (IntKind.u64.wrap (a*2 ^ n)) (a / 2 ^ ((64 - n) % 64))
def xo(a b:Int):Int:=bits .xor .u64 a b
def an(a b:Int):Int:=bits .andNot .u64 a b
def il(a:Nat->Int)(x:Nat):Int:=xo (xo (xo (xo (a x) (a (x+5))) (a (x+10))) (a (x+15))) (a (x+20))
def mh(a:Nat->Int)(j:Nat):Int:=xo (a j) (xo (il a ((j+4) % 5)) (eH (il a ((j+1) % 5)) 1))
def bT(a:Nat->Int)(i:Nat)(v:Int):Nat->Int:=fun j=>if j=i then v else a j
def jx(a:Nat->Int)(t:Int):Array Value:=((List.range 25).map (fun i=>Value.int .u64 (a i))++[Value.int .i64 t]).toArray
structure cF(w:World)(b:Nat)(ws:Nat->Int)(t:Int):Prop where
 block:w.heap[b]? =some (.cells (jx ws t) 147 (0,0))
structure Kept(b:Nat)(w w':World):Prop where
 os:w'.os=w.os
 tape:w'.tape=w.tape
 output:w'.output=w.output
 size:w.heap.size<=w'.heap.size
 block:∀i,i<w.heap.size->i≠b->w'.heap[i]? =w.heap[i]?
theorem ou(a:Nat->Int)(t:Int)(j:Nat)(h:j<25):(jx a t)[j]? =some (iV .u64 (a j)):=by
 unfold jx;rw[Sl,RA (by simpa using h)];simp[h]
theorem qR(a:Nat->Int)(t:Int):(jx a t)[25]? =some (iV .i64 t):=by
 unfold jx;rw[Sl,RY (by simp)];simp
theorem ot(a:Nat->Int)(t:Int):(jx a t).size=26:=by simp[jx]
theorem Og(c:Nat->Int)(t:Int)(i:Nat)(v:Int)(h:i<25):(jx c t).setIfInBounds i (iV .u64 v)=jx (bT c i v) t:=by
 apply Sn;intro j;rw[R4];by_cases a:i=j
 ·subst a;rw[QX rfl,QX (by rw[ot];omega),ou _ _ _ h];simp[bT]
 ·rw[QW a];by_cases b:j<25
  ·rw[ou _ _ _ b,ou _ _ _ b];simp[bT,Ne.symm a]
  ·by_cases d:j=25
   ·subst d;rw[qR,qR]
   ·rw[Rk (by rw[ot];omega),Rk (by rw[ot];omega)]
theorem Oe(c:Nat->Int)(t u:Int):(jx c t).setIfInBounds 25 (iV .i64 u)=jx c u:=by
 apply Sn;intro j;rw[R4];by_cases a:25=j
 ·subst a;rw[QX rfl,QX (by rw[ot];omega),qR]
 ·rw[QW a];by_cases b:j<25
  ·rw[ou _ _ _ b,ou _ _ _ b]
  ·rw[Rk (by rw[ot];omega),Rk (by rw[ot];omega)]
theorem Oh{c b:Nat->Int}(t:Int)(h:∀j,j<25->c j=b j):jx c t=jx b t:=by
 apply Sn;intro j;by_cases a:j<25
 ·rw[ou _ _ _ a,ou _ _ _ a,h j a]
 ·by_cases d:j=25
  ·subst d;rw[qR,qR]
  ·rw[Rk (by rw[ot];omega),Rk (by rw[ot];omega)]
namespace cF
variable {w : World} {b : Nat} {ws : Nat → Int} {t : Int}
theorem at_(h:cF w b ws t)(j:Nat)(a:j<25):w.cell? ⟨b,j,none⟩=some (iV .u64 (ws j)):=by
 rw[Q5 w b j _ _ _ h.block,ou _ _ _ a]
theorem taken(h:cF w b ws t):w.cell? ⟨b,25,none⟩=some (iV .i64 t):=by
 rw[Q5 w b 25 _ _ _ h.block,qR]
theorem free(h:cF w b ws t)(j:Nat):w.frozen? ⟨b,j,none⟩=false:=Rx w b j _ _ h.block
theorem lt(h:cF w b ws t):b<w.heap.size:=by
 have:=h.block;rcases Nat.lt_or_ge b w.heap.size with h1|h1
 ·exact h1
 ·rw[Rk h1] at this;cases this
theorem set(h:cF w b ws t)(i:Nat)(v:Int)(hi:i<25):cF (w.setCell ⟨b,i,none⟩ (iV .u64 v)) b (bT ws i v) t:=
 ⟨by rw[Se w b i _ _ _ h.block,Og _ _ _ _ hi]⟩
theorem xF(h:cF w b ws t)(u:Int):cF (w.setCell ⟨b,25,none⟩ (iV .i64 u)) b ws u:=
 ⟨by rw[Se w b 25 _ _ _ h.block,Oe]⟩
theorem drew(h:cF w b ws t):cF w.drew b ws t:=⟨h.block⟩
theorem drewN(h:cF w b ws t)(n:Nat):cF (w.drewN n) b ws t:=⟨h.block⟩
theorem congr(h:cF w b ws t){a:Nat->Int}(e:∀j,j<25->ws j=a j):cF w b a t:=⟨by rw[<-Oh t e];exact h.block⟩
theorem kept{w' c}(h:cF w b ws t)(k:Kept c w w')(a:b≠c):cF w' b ws t:=⟨by rw[k.block b h.lt a];exact h.block⟩
end cF
namespace Kept
variable {b : Nat} {w w' w'' : World}
theorem refl(b:Nat)(w):Kept b w w:=⟨rfl,rfl,rfl,QU _,fun _ _ _=>rfl⟩
theorem trans(h:Kept b w w')(k:Kept b w' w''):Kept b w w'':=
 ⟨k.os.trans h.os,k.tape.trans h.tape,k.output.trans h.output,Q7 h.size k.size,fun i hi a=>(k.block i (Q6 hi h.size) a).trans (h.block i hi a)⟩
theorem drew(h:Kept b w w'):Kept b w w'.drew:=⟨h.os,h.tape,h.output,h.size,h.block⟩
theorem drewN(h:Kept b w w')(n:Nat):Kept b w (w'.drewN n):=⟨h.os,h.tape,h.output,h.size,h.block⟩
theorem set(h:Kept b w w')(i:Nat)(v):Kept b w (w'.setCell ⟨b,i,none⟩ v):=
 ⟨h.os,h.tape,h.output,by simpa [World.setCell] using h.size,fun k c a=>(Rc w' ⟨b,i,none⟩ k v a).trans (h.block k c a)⟩
theorem alloc(h:Kept b w w')(o:Obj):Kept b w (w'.alloc o):=
 ⟨h.os,h.tape,h.output,by have:(w'.alloc o).heap.size=w'.heap.size+1:=(by show(w'.heap.push o).size=_;simp);rw[this];exact Nat.le_succ_of_le h.size,fun k a c=>(RL w' o k (Q6 a h.size)).trans (h.block k a c)⟩
theorem below(h:Kept b w w')(c:w.heap.size<=b):yW w w':=⟨h.os,h.tape,h.output,h.size,fun k a=>h.block k a (by omega)⟩
theorem gj(h:yW w w')(b:Nat):Kept b w w':=⟨h.os,h.tape,h.output,h.size,fun k a _=>h.block k a⟩
end Kept
theorem Gz(b:Nat)(a:b<=64):bits .and .u64 (b:Int) 63=((b % 64:Nat):Int):=by
 have:=u64_and_nat b 63 (by omega) (by omega);rw[nat_mask6] at this;exact this
theorem pY(a:Int)(n:Nat)(b:n<64)(w:World):
 Calls yP 142 #[iV .u64 a,iV .u64 n] w fun e w'=>e=rV (iV .u64 (eH a n))/\w'=w:=by
 have h1:bits .and .u64 (n:Int) 63=(n:Int):=by rw[Gz n (by omega),Sz b]
 have h2:bits .and .u64 (64 - (n:Int)) 63=(((64 - n) % 64:Nat):Int):=by rw[<-Gz (64 - n) (by omega)];congr 1;omega
 have h3:min n 64=n:=by omega
 have h4:min ((64 - n) % 64) 64=(64 - n) % 64:=by omega
 go_enter func142,ntmps142
 go_wp2
 go_ret
 exact⟨by simp[eH],rfl⟩
theorem Fo(i:Nat)(c:Nat)(d:c<256)(v:Int)(w:World)(b:Nat)(hi:i<136)
 (a:w.cell? ⟨b,i / 8,none⟩=some (iV .u64 v)) (f:w.frozen? ⟨b,i / 8,none⟩=false):
 Calls yP 90 #[pV (qA b),iV .i64 i,iV .u8 c] w fun e w'=>e=rV (tV #[])/\w'=(w.setCell ⟨b,i / 8,none⟩ (iV .u64 (xo v (IntKind.u64.wrap (c*2 ^ (i % 8*8)))))).drew:=by
 have g:IntKind.u64.wrap (c:Int)=(c:Int):=by rw[IntKind.wrap_u64];omega
 go_enter func90,ntmps90
 go_wp2
 go_region
 all_goals go_end0
 all_goals exact⟨rfl,by simp[xo]⟩
theorem tl(x:Nat)(c:x<5)(a:Nat->Int)(t:Int)(w)(b:Nat)(H:cF w b a t):
 Calls yP 141 #[pV (qA b),iV .i64 x] w fun e w'=>e=rV (iV .u64 (il a x))/\∃n,w'=w.drewN n:=by
 have g0:=H.at_ x (by omega);have g1:=H.at_ (x+5) (by omega);have g2:=H.at_ (x+10) (by omega);have g3:=H.at_ (x+15) (by omega);have g4:=H.at_ (x+20) (by omega);clear H;go_enter func141,ntmps141
 go_wp2_with fail
 go_quiet (fail)
 go_wp2
 go_ret
 exact⟨by simp[il,xo],nq,rfl⟩
def AI:List Nat:=[0,1,62,28,27,36,44,6,55,20,3,10,43,25,39,41,45,15,21,8,18,2,61,56,14]
def Dz:List Nat:=[0,10,20,5,15,16,1,11,21,6,7,17,2,12,22,23,8,18,3,13,14,24,9,19,4]
def wJ:List Nat:=[1,32898,9223372036854808714,9223372039002292224,32907,2147483649,9223372039002292353,9223372036854808585,138,136,2147516425,2147483658,2147516555,9223372036854775947,9223372036854808713,9223372036854808579,9223372036854808578,9223372036854775936,32778,9223372039002259466,9223372039002292353,9223372036854808704,2147483649,9223372039002292232]
def mJ(i:Nat):Nat:=AI.getD i 0
def lA(i:Nat):Nat:=Dz.getD i 0
def pT(i:Nat):Nat:=wJ.getD i 0
theorem Ix(i:Nat)(h:i<25):mJ i<64:=by
 have:∀i:Fin 25,mJ i<64:=by decide
 exact this ⟨i,h⟩
theorem MC(i:Nat)(h:i<25):lA i<25:=by
 have:∀i:Fin 25,lA i<25:=by decide
 exact this ⟨i,h⟩
structure az(w:World):Prop where
 size:3<=w.heap.size
 words:∀j,j<24->w.cell? ⟨0,j,none⟩=some (iV .u64 (pT j))
 turns:∀j,j<25->w.cell? ⟨1,j,none⟩=some (iV .u64 (mJ j))
 sE:∀j,j<25->w.cell? ⟨2,j,none⟩=some (iV .i64 (lA j))
theorem az.kept{w w' b}(h:az w)(k:Kept b w w')(c:3<=b):az w':=
 ⟨Q7 h.size k.size,
  fun j a=>(Rd (w:=w) (k.block 0 (by have:=h.size;omega) (by omega))).trans (h.words j a),
  fun j a=>(Rd (w:=w) (k.block 1 (by have:=h.size;omega) (by omega))).trans (h.turns j a),
  fun j a=>(Rd (w:=w) (k.block 2 (by have:=h.size;omega) (by omega))).trans (h.sE j a)⟩
def mO(a:Nat->Int):Array Value:=((List.range 25).map (fun i=>Value.int .u64 (a i))).toArray
theorem xQ(a:Nat->Int):(mO a).size=25:=by simp[mO]
theorem uH(a:Nat->Int)(j:Nat)(h:j<25):(mO a)[j]? =some (iV .u64 (a j)):=by
 unfold mO;rw[Sl];simp[h]
theorem Kp(c:Nat->Int)(i:Nat)(v:Int)(h:i<25):(mO c).setIfInBounds i (iV .u64 v)=mO (bT c i v):=by
 apply Sn;intro j;rw[R4];by_cases a:i=j
 ·subst a;rw[QX rfl,QX (by rw[xQ];omega),uH _ _ h];simp[bT]
 ·rw[QW a];by_cases b:j<25
  ·rw[uH _ _ b,uH _ _ b];simp[bT,Ne.symm a]
  ·rw[Rk (by rw[xQ];omega),Rk (by rw[xQ];omega)]
structure j8(w:World)(b:Nat)(vs:Nat->Int):Prop where
 block:w.heap[b]? =some (.cells (mO vs) 145 (0,0))
namespace j8
variable {w : World} {b : Nat} {vs : Nat → Int}
theorem at_(h:j8 w b vs)(j:Nat)(a:j<25):w.cell? ⟨b,j,none⟩=some (iV .u64 (vs j)):=by
 rw[Q5 w b j _ _ _ h.block,uH _ _ a]
theorem free(h:j8 w b vs)(j:Nat):w.frozen? ⟨b,j,none⟩=false:=Rx w b j _ _ h.block
theorem set(h:j8 w b vs)(i:Nat)(v:Int)(hi:i<25):j8 (w.setCell ⟨b,i,none⟩ (iV .u64 v)) b (bT vs i v):=
 ⟨by rw[Se w b i _ _ _ h.block,Kp _ _ _ hi]⟩
theorem drew(h:j8 w b vs):j8 w.drew b vs:=⟨h.block⟩
theorem drewN(h:j8 w b vs)(n:Nat):j8 (w.drewN n) b vs:=⟨h.block⟩
theorem other(h:j8 w b vs)(c i:Nat)(v)(a:b≠c):j8 (w.setCell ⟨c,i,none⟩ v) b vs:=⟨by rw[Rc w ⟨c,i,none⟩ b v a];exact h.block⟩
end j8
theorem cF.other{w b}{a:Nat->Int}{t:Int}(h:cF w b a t)(c i:Nat)(v)(d:b≠c):cF (w.setCell ⟨c,i,none⟩ v) b a t:=⟨by rw[Rc w ⟨c,i,none⟩ b v d];exact h.block⟩
theorem Kept.new{b w w'}(h:Kept b w w')(g i:Nat)(v)(d:w.heap.size<=g):Kept b w (w'.setCell ⟨g,i,none⟩ v):=
 ⟨h.os,h.tape,h.output,by simpa [World.setCell] using h.size,fun k a c=>(Rc w' ⟨g,i,none⟩ k v (by show k≠g;omega)).trans (h.block k a c)⟩
def mI(a:Nat->Int):Nat->Nat->Int
 | 0=>fun _=>0
 |k+1=>bT (mI a k) (lA k) (eH (a k) (mJ k))
def nx(a:Nat->Int)(j:Nat):Int:=xo (a j) (an (a (j / 5*5+(j+2) % 5)) (a (j / 5*5+(j+1) % 5)))
def kM(b a:Nat->Int)(k:Nat):Nat->Int:=fun j=>if j<k then nx a j else b j
theorem Px(h f:Nat->Int)(k:Nat)(a b c d e:Int)(h5:k % 5=0)(i:f k=a)(l:f (k+1)=b)(m:f (k+2)=c)(n:f (k+3)=d)(o:f (k+4)=e)(j:Nat):
 bT (bT (bT (bT (bT (kM h f k) k (xo a (an c b))) (k+1) (xo b (an d c))) (k+2) (xo c (an e d))) (k+3) (xo d (an a e))) (k+4) (xo e (an b a)) j=kM h f (k+5) j:=by
 subst i l m n o;unfold bT;by_cases j4:j=k+4
 ·subst j4;rw[QX rfl];simp only[kM,QX (show k+4<k+5 by omega),nx,show(k+4) / 5*5+(k+4+2) % 5=k+1 by omega,show(k+4) / 5*5+(k+4+1) % 5=k by omega]
 rw[QW j4];by_cases j3:j=k+3
 ·subst j3;rw[QX rfl];simp only[kM,QX (show k+3<k+5 by omega),nx,show(k+3) / 5*5+(k+3+2) % 5=k by omega,show(k+3) / 5*5+(k+3+1) % 5=k+4 by omega]
 rw[QW j3];by_cases j2:j=k+2
 ·subst j2;rw[QX rfl];simp only[kM,QX (show k+2<k+5 by omega),nx,show(k+2) / 5*5+(k+2+2) % 5=k+4 by omega,show(k+2) / 5*5+(k+2+1) % 5=k+3 by omega]
 rw[QW j2];by_cases j1:j=k+1
 ·subst j1;rw[QX rfl];simp only[kM,QX (show k+1<k+5 by omega),nx,show(k+1) / 5*5+(k+1+2) % 5=k+3 by omega,show(k+1) / 5*5+(k+1+1) % 5=k+2 by omega]
 rw[QW j1];by_cases j0:j=k
 ·subst j0;rw[QX rfl];simp only[kM,QX (show j<j+5 by omega),nx,show j / 5*5+(j+2) % 5=j+2 by omega,show j / 5*5+(j+1) % 5=j+1 by omega]
 rw[QW j0];unfold kM;by_cases g:j<k
 ·rw[QX g,QX (by omega)]
 ·rw[QW g,QW (by omega)]
theorem Py(b a:Nat->Int)(j:Nat)(h:j<25):kM b a 25 j=nx a j:=by simp[kM,h]
theorem Pw(a b:Nat->Int)(j:Nat):kM a b 0 j=a j:=by simp[kM]
end Go.Proofs.YtiimkkahmpmhdaaGreatDoor
