import Derived.Test.YteaodagofkcgbaaGreatDoorHd
open Go.Proofs.Tryz
open Go.Proofs.Tryz renaming prog→yP
open Go.Value renaming string→sV,pointer→pV,int→iV,slice→lV,bool→bV,tuple→tV,agg→gV
open Go.Ending renaming returned→rV
namespace Go.Proofs.YteaodagofkcgbaaGreatDoor
open Go.RowKit
set_option maxRecDepth 100000
set_option maxHeartbeats 0
set_option linter.all false
def fs(a:Int)(n:Nat):Int:=bits .or .u64 (IntKind.u64.wrap (a*2 ^ n)) (a / 2 ^ ((64 - n) % 64))
def xo(a b:Int):Int:=bits .xor .u64 a b
def an(a b:Int):Int:=bits .andNot .u64 a b
def iS(a:Nat->Int)(x:Nat):Int:=xo (xo (xo (xo (a x) (a (x+5))) (a (x+10))) (a (x+15))) (a (x+20))
def nr(a:Nat->Int)(j:Nat):Int:=xo (a j) (xo (iS a ((j+4) % 5)) (fs (iS a ((j+1) % 5)) 1))
def cC(a:Nat->Int)(i:Nat)(v:Int):Nat->Int:=λj=>if j=i then v else a j
def jR(a:Nat->Int)(t:Int):Array Value:=((List.range 25).map (λi=>Value.int .u64 (a i))++[Value.int .i64 t]).toArray
structure cU(w:World)(b:Nat)(ws:Nat->Int)(t:Int):Prop where
 block:w.heap[b]? =some (.cells (jR ws t) 147 (0,0))
structure Kept(b:Nat)(w w':World):Prop where
 os:w'.os=w.os
 tape:w'.tape=w.tape
 output:w'.output=w.output
 size:w.heap.size<=w'.heap.size
 block:∀i,i<w.heap.size->i≠b->w'.heap[i]? =w.heap[i]?
def pv(a:Nat->Int)(t:Int)(j:Nat)(h:j<25):(jR a t)[j]? =some (iV .u64 (a j)):=by
 unfold jR;rw[Vu,UW (by simpa using h)];simp[h]
def rY(a:Nat->Int)(t:Int):(jR a t)[25]? =some (iV .i64 t):=by
 unfold jR;rw[Vu,Vf (by simp)];simp
def pt(a:Nat->Int)(t:Int):(jR a t).size=26:=by simp[jR]
def Rm(c:Nat->Int)(t:Int)(i:Nat)(v:Int)(h:i<25):(jR c t).setIfInBounds i (iV .u64 v)=jR (cC c i v) t:=by
 apply Vw;intro j;rw[Vi];by_cases a:i=j
 .subst a;rw[Uj rfl,Uj (by rw[pt];omega),pv _ _ _ h];simp[cC]
 rw[Ui a];by_cases b:j<25
 .rw[pv _ _ _ b,pv _ _ _ b];simp[cC,Ne.symm a]
 by_cases d:j=25
 .subst d;rw[rY,rY]
 rw[UF (by rw[pt];omega),UF (by rw[pt];omega)]
def Rl(c:Nat->Int)(t u:Int):(jR c t).setIfInBounds 25 (iV .i64 u)=jR c u:=by
 apply Vw;intro j;rw[Vi];by_cases a:25=j
 .subst a;rw[Uj rfl,Uj (by rw[pt];omega),rY]
 rw[Ui a];by_cases b:j<25
 .rw[pv _ _ _ b,pv _ _ _ b]
 rw[UF (by rw[pt];omega),UF (by rw[pt];omega)]
def Rn{c b:Nat->Int}(t:Int)(h:∀j,j<25->c j=b j):jR c t=jR b t:=by
 apply Vw;intro j;by_cases a:j<25
 .rw[pv _ _ _ a,pv _ _ _ a,h j a]
 by_cases d:j=25
 .subst d;rw[rY,rY]
 rw[UF (by rw[pt];omega),UF (by rw[pt];omega)]
namespace cU
variable {w : World} {b : Nat} {ws : Nat → Int} {t : Int}
def at_(h:cU w b ws t)(j:Nat)(a:j<25):w.cell? ⟨b,j,none⟩=some (iV .u64 (ws j)):=by
 rw[Ur w b j _ _ _ h.block,pv _ _ _ a]
def taken(h:cU w b ws t):w.cell? ⟨b,25,none⟩=some (iV .i64 t):=by
 rw[Ur w b 25 _ _ _ h.block,rY]
def free(h:cU w b ws t)(j:Nat):w.frozen? ⟨b,j,none⟩=false:=US w b j _ _ h.block
def lt(h:cU w b ws t):b<w.heap.size:=by
 have:=h.block;rcases Nat.lt_or_ge b w.heap.size with h1|h1
 .exact h1
 rw[UF h1] at this;cases this
def set(h:cU w b ws t)(i:Nat)(v:Int)(hi:i<25):cU (w.setCell ⟨b,i,none⟩ (iV .u64 v)) b (cC ws i v) t:=
 ⟨by rw[Vo w b i _ _ _ h.block,Rm _ _ _ _ hi]⟩
def yZ(h:cU w b ws t)(u:Int):cU (w.setCell ⟨b,25,none⟩ (iV .i64 u)) b ws u:=
 ⟨by rw[Vo w b 25 _ _ _ h.block,Rl]⟩
def drew(h:cU w b ws t):cU w.drew b ws t:=⟨h.block⟩
def drewN(h:cU w b ws t)(n:Nat):cU (w.drewN n) b ws t:=⟨h.block⟩
def congr(h:cU w b ws t){a:Nat->Int}(e:∀j,j<25->ws j=a j):cU w b a t:=⟨by rw[<-Rn t e];exact h.block⟩
def kept{w' c}(h:cU w b ws t)(k:Kept c w w')(a:b≠c):cU w' b ws t:=⟨by rw[k.block b h.lt a];exact h.block⟩
end cU
namespace Kept
variable {b : Nat} {w w' w'' : World}
def refl(b:Nat)(w):Kept b w w:=⟨rfl,rfl,rfl,Ug _,λ_ _ _=>rfl⟩
def trans(h:Kept b w w')(k:Kept b w' w''):Kept b w w'':=
 ⟨k.os.trans h.os,k.tape.trans h.tape,k.output.trans h.output,Ut h.size k.size,λi hi a=>(k.block i (Us hi h.size) a).trans (h.block i hi a)⟩
def drew(h:Kept b w w'):Kept b w w'.drew:=⟨h.os,h.tape,h.output,h.size,h.block⟩
def drewN(h:Kept b w w')(n:Nat):Kept b w (w'.drewN n):=⟨h.os,h.tape,h.output,h.size,h.block⟩
def set(h:Kept b w w')(i:Nat)(v):Kept b w (w'.setCell ⟨b,i,none⟩ v):=
 ⟨h.os,h.tape,h.output,by simpa [World.setCell] using h.size,λk c a=>(Uy w' ⟨b,i,none⟩ k v a).trans (h.block k c a)⟩
def alloc(h:Kept b w w')(o:Obj):Kept b w (w'.alloc o):=
 ⟨h.os,h.tape,h.output,by have:(w'.alloc o).heap.size=w'.heap.size+1:=(by show(w'.heap.push o).size=_;simp);rw[this];exact Nat.le_succ_of_le h.size,λk a c=>(U6 w' o k (Us a h.size)).trans (h.block k a c)⟩
def below(h:Kept b w w')(c:w.heap.size<=b):yW w w':=⟨h.os,h.tape,h.output,h.size,λk a=>h.block k a (by omega)⟩
def iP(h:yW w w')(b:Nat):Kept b w w':=⟨h.os,h.tape,h.output,h.size,λk a _=>h.block k a⟩
end Kept
def JB(b:Nat)(a:b<=64):bits .and .u64 (b:Int) 63=((b % 64:Nat):Int):=by
 have:=u64_and_nat b 63 (by omega) (by omega);rwa[nat_mask6] at this
def qY(a:Int)(n:Nat)(b:n<64)(w:World):Calls yP 141 #[iV .u64 a,iV .u64 n] w λe w'=>e=rV (iV .u64 (fs a n))/\w'=w:=by
 have h1:bits .and .u64 (n:Int) 63=(n:Int):=by rw[JB n (by omega),VH b]
 have h2:bits .and .u64 (64 - (n:Int)) 63=(((64 - n) % 64:Nat):Int):=by rw[<-JB (64 - n) (by omega)];congr 1;omega
 have h3:min n 64=n:=by omega
 have h4:min ((64 - n) % 64) 64=(64 - n) % 64:=by omega
 go_enter func141,ntmps141
 go_wp2;go_ret;exact⟨by simp[fs],rfl⟩
def Iu(i:Nat)(c:Nat)(d:c<256)(v:Int)(w:World)(b:Nat)(hi:i<136)(a:w.cell? ⟨b,i / 8,none⟩=some (iV .u64 v)) (f:w.frozen? ⟨b,i / 8,none⟩=false):Calls yP 89 #[pV (qA b),iV .i64 i,iV .u8 c] w λe w'=>e=rV (tV #[])/\w'=(w.setCell ⟨b,i / 8,none⟩ (iV .u64 (xo v (IntKind.u64.wrap (c*2 ^ (i % 8*8)))))).drew:=by
 have g:IntKind.u64.wrap (c:Int)=(c:Int):=by rw[IntKind.wrap_u64];omega
 go_enter func89,ntmps89
 go_wp2;go_region
 all_goals go_end0
 all_goals exact⟨rfl,by simp[xo]⟩
def uM(x:Nat)(c:x<5)(a:Nat->Int)(t:Int)(w)(b:Nat)(H:cU w b a t):Calls yP 140 #[pV (qA b),iV .i64 x] w λe w'=>e=rV (iV .u64 (iS a x))/\∃n,w'=w.drewN n:=by
 have g0:=H.at_ x (by omega);have g1:=H.at_ (x+5) (by omega);have g2:=H.at_ (x+10) (by omega);have g3:=H.at_ (x+15) (by omega);have g4:=H.at_ (x+20) (by omega);clear H;go_enter func140,ntmps140
 go_wp2_with fail
 go_quiet (fail)
 go_wp2;go_ret;exact⟨by simp[iS,xo],nq,rfl⟩
end Go.Proofs.YteaodagofkcgbaaGreatDoor
