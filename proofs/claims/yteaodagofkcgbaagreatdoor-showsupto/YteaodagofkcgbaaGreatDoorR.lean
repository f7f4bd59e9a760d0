import Derived.Test.YteaodagofkcgbaaGreatDoorP
import Derived.Test.YteaodagofkcgbaaGreatDoorQ
open Go.Proofs.Tryz
open Go.Proofs.Tryz renaming prog→yP
open Go.Value renaming string→sV,pointer→pV,int→iV,slice→lV,bool→bV,tuple→tV,agg→gV
open Go.Ending renaming returned→rV
namespace Go.Proofs.YteaodagofkcgbaaGreatDoor
open Go.RowKit
set_option maxRecDepth 100000
set_option maxHeartbeats 0
set_option linter.all false
def CY(h:yL):Option Nd->Except Nat Nd
 |none=>.error 11
 |some n=>.ok (n.gY h)
def yy(h:yL)(dep:Nat)(bl:Bool):Except Nat Tree->Except Nat Nd
 | .error _=>.error 11
 | .ok x=>CY h (a6 6 x dep bl)
def gS(h t:yL)(dep:Nat)(bl:Bool):Except Nat Nd:=
 if fe t≠h then .error 10
 else if 0<dep/\t.length<32 then .error 11
 else yy h dep bl (dC t)
def qO(w:World)(b:Nat)(r:Except Nat Nd)(e:Ending)(w':World):Prop:=match r with
 | .error c=>e=rV (iV .i64 (c:Int))/\yW w w'
 | .ok n=>e=rV (iV .i64 0)/\At w' n (λx=>x=b\/w.heap.size<=x) (ptr b)/\Kept b w w'
def TE{w t S p}(hA:At w t S p)(hs:t.some):∃(b:Nat)(k:Option Addr)(U:Nat->Option Addr),p=ptr b/\S b/\bU w b t (pV k) (λi=>pV (U i))/\
 ∀(w':World) (b':Nat) (h:yL),¬S b'->bU w' b' (t.gY h) (pV k) (λi=>pV (U i))->(∀x,S x->x≠b->x<w.heap.size->w'.heap[x]? =w.heap[x]?)->At w' (t.gY h) (λx=>x=b'\/S x) (ptr b'):=by
 cases t with
 |nil=>exact hs.elim
 |unread h0=>obtain⟨b,rfl,hb,B⟩:=hA;exact⟨b,none,λ_=>none,rfl,hb,B,λw' b' h _ B' _=>⟨b',rfl,.inl rfl,B'⟩⟩
 |leaf h0 q v=>obtain⟨b,rfl,hb,B⟩:=hA;exact⟨b,none,λ_=>none,rfl,hb,B,λw' b' h _ B' _=>⟨b',rfl,.inl rfl,B'⟩⟩
 |ext h0 q k=>obtain⟨b,kp,S',rfl,hb,B,A0,hk⟩:=hA;obtain⟨u,rfl⟩:=hk.ptr;refine⟨b,u,λ_=>none,rfl,hb,B,λw' b' h hn B' hw=>⟨b',_,S',rfl,.inl rfl,B',λx hx=>⟨.inr (A0 x hx).1,λe=>hn (e▸(A0 x hx).1)⟩,hk.kept λx hx hl=>hw x (A0 x hx).1 (A0 x hx).2 hl⟩⟩
 |branch h0 v ks=>
  obtain⟨b,A2,Ss,rfl,hb,B,A0,A1,hK⟩:=hA;have hp:∀i,∃u,i<16->A2 i=pV u:=λi=>by
   by_cases hi:i<16
   .let⟨u,hu⟩:=(hK i hi).ptr;exact⟨u,λ_=>hu⟩
   exact⟨none,λh=>absurd h hi⟩
  let⟨U,hU⟩:=Classical.axiomOfChoice hp;refine⟨b,none,U,rfl,hb,?_,λw' b' h hn B' hw=>⟨b',λi=>pV (U i),Ss,rfl,.inl rfl,B',λi x hi hx=>⟨.inr (A0 i x hi hx).1,λe=>hn (e▸(A0 i x hi hx).1)⟩,A1,λi hi=>?_⟩⟩
  .unfold bU at B⊢;rw[B,FE _ _ _ _ _ _ _ hU];rfl
  have:=(hK i hi).kept (w':=w') λx hx hl=>hw x (A0 i x hi hx).1 (A0 i x hi hx).2 hl
  rwa[hU i hi] at this
def Mm:(yP.info? 167).map (·.size)=some 21:=by kernel_rfl
def PG(k:Int)(h p v b)(U:Nat->Option Addr):(fG k h p v (pV b) (λi=>pV (U i))).all (·.oneCell')=true:=by
 refine Array.all_eq_true_iff_forall_mem.2 λx a=>?_
 unfold fG at a;rw[List.mem_toArray,UA] at a;rcases a with a|a
 .simp only[UC,Vs,or_false] at a;rcases a with rfl|rfl|rfl|rfl|rfl<;>rfl
 obtain⟨i,_,rfl⟩:=UO.1 a;rfl
def QD(h)(t:Nd):(t.gY h).kind=t.kind:=by cases t<;>rfl
def Od(h)(t:Nd):(t.gY h).path=t.path:=by cases t<;>rfl
def Lb(h)(t:Nd):(t.gY h).value=t.value:=by cases t<;>rfl
def AP(h)(t:Nd)(hs:t.some):(t.gY h).hash=h:=by cases t<;>first|exact hs.elim|rfl
def Eu(w h)(b:Nat)(t:yB)(dep:Nat)(bl:Bool)(B:bU w b (.unread h) cN (λ_=>cN))(G:t.size<=maxLen)(A8:dep<=4000)(T:aB w):yC 119 #[ptr b,sV t,i6 (dep:Int),bV bl] w (qO w b (gS h t.data.toList dep bl)):=by
 have c1:yc w b 1 (sV (ae h)):=B.c1;have V:=B.lt;obtain⟨R,J⟩:=yX (gS h t.data.toList dep bl);rw[<-J];have L:=aa J;have Z:=aa B;have HT:=aa T;have HS:yH (∀W,yW w W->yC 23 #[sV t] W λe w'=>e=rV (sV (ae (fe t.data.toList)))/\yc w' b 1 (sV (ae h))/\yH (yW w w')):=λW r=>by
  have:=ja t G W (T.below r);have e1:ae (fe t.data.toList)=ag t:=by
   have:=mX t.data.toList;rw[gA] at this;exact this
  rw[e1];apply this.mono;rintro e w'⟨h1,h2⟩;have P:=r.trans (h2.mono r.size);exact⟨h1,(P.cell (p:=⟨b,1,none⟩) V).trans c1,P⟩
 clear J B T;unfold ptr;go_enter func119,ntmps119
 go_upto_region 1 with fail
 go_cut [18] (λv wx=>v=bV (!decide (fe t.data.toList=h))/\yH (yW w wx))
 .go_region_with (go_at_call 23;refine(HS.o _ (by first|exact Un _ _ |exact(Un _ _).drew)).mono ?_;rintro e1 w1⟨rfl,d1,d⟩)
  all_goals
   go_wp2;go_meet;exact⟨by rw[pX],d⟩
 obtain⟨rfl,d⟩:=hcut;by_cases q:fe t.data.toList=h
 .have y:(!decide (fe t.data.toList=h))=false:=by simp[q]
  rw[y];have j:yH (R=if 0<dep/\t.data.toList.length<32 then .error 11 else yy h dep bl (dC t.data.toList)):=by
   show _=_;rw[L.o];unfold gS;rw[Ui (λh=>h q)]
  have S:t.data.toList.length=t.size:=by simp
  have HD:yH (∀W:World,yC 99 #[sV t] W λe w'=>Cl W (dC t.data.toList) e w'/\yW W w'):=λW=>xE W t G
  have B3:(t.size:Int)<=9223372036854775807:=by unfold maxLen at G;omega
  rw[S] at j;clear q y G S;by_cases hs:0<dep/\t.size<32
  .rw[Uj hs] at j;have h0:(0:Int)<(dep:Int):=by omega
   have h32:(t.size:Int)<32:=by omega
   clear hs;go_wp2;go_ret;rw[j.o];exact⟨rfl,d.o⟩
  rw[Ui hs] at j;have B2:(¬(0:Int)<(dep:Int))\/((0:Int)<(dep:Int)/\¬(t.size:Int)<32):=by
   by_cases h0:0<dep
   .have:¬t.size<32:=λh=>hs ⟨h0,h⟩
    exact .inr ⟨by omega,by omega⟩
   exact .inl (by omega)
  clear hs;generalize dC t.data.toList=DR at*;go_wp2_with fail
  all_goals
   refine(HD.o _).mono ?_;cases DR with
   |error c=>
    rintro e w2⟨⟨rfl,hc⟩,z⟩;have A7:((c:Int) != 0)=true:=by simp;omega
    have a:=aa (d.o.trans (z.mono d.o.size));clear z hc;go_wp2;go_ret;rw[j.o];exact⟨rfl,a.o.alloc a.o.size _⟩
   |ok x=>
    rintro e w2⟨⟨l,ti,ia,im,ic,rfl,Q⟩,z⟩;have a:=aa (d.o.trans (z.mono d.o.size));have HN:yH (∀W,yW w2 W->yC 139 #[gV #[bV l,sV ti,lV ia im ic],i6 (dep:Int),bV bl] W λe w1=>∃u,e=rV (pV u)/\yH (u7 w2 (a6 6 x dep bl) u w1)):=λW r=>(Pp 6 (by omega) W _ _ _ _ x dep bl (Q.below r) (by omega)).mono λe w1 h=>zL r h
    have M:yH (R=CY h (a6 6 x dep bl)):=j.o;clear z Q;generalize a6 6 x dep bl=NR at*;go_wp2_with fail
    refine(HN.o _ ((Un _ _).alloc (Ug _) _)).mono ?_;rintro e w3⟨u,rfl,E⟩;cases NR with
    |none=>obtain⟨rfl,A⟩:=E.o;have f:yH (yW w w3):=a.o.trans (A.mono a.o.size);clear A E;go_wp2;go_ret;rw[M.o];exact⟨rfl,f.o⟩
    |some n=>
     obtain⟨g,rfl,F,A⟩:=E.o;have f:yH (yW w w3):=a.o.trans (A.mono a.o.size);have HA:=aa F;have Y:n.some:=by
      cases n with
      |nil=>exact absurd (F.none.2 rfl) (by intro h;cases h)
      | _=>trivial
     obtain⟨g',k,U,hg,O,m,X⟩:=TE F Y;cases hg;have d1:=m.c1;have A6:=aa m;have B0:=m.lt;have B1:w.heap.size<=g:=Ut a.o.size O;have H:bU w3 b (.unread h) cN (λ_=>cN):=(f.o.block b V).trans Z.o;have b1:=H.c1;have A9:w3.frozen? ⟨g,1,none⟩=false:=by simp[World.frozen?,show w3.heap[g]? =_ from m]
     obtain⟨C,o⟩:=yX (fG n.kind (ae h) (ae n.path) (ae n.value) (pV k) (λi=>pV (U i)));obtain⟨s,I⟩:=yX (fG (Nd.unread h).kind (ae (Nd.unread h).hash) (ae (Nd.unread h).path) (ae (Nd.unread h).value) cN (λ_=>cN));have A2:b≠g:=by omega
     have HL:yH ((w3.setCell ⟨g,1,none⟩ (sV (ae h))).heap[g]? =some (.cells C 167 (0,0))):=by
      show _=_;rw[Vo w3 g 1 _ _ _ m,FD,o]
     have K:yH ((w3.setCell ⟨g,1,none⟩ (sV (ae h))).heap[b]? =some (.cells s 167 (0,0))):=by
      show _=_;rw[Uy _ _ _ _ A2,I];exact H
     have N:(yP.info? 167).map (·.size)=some C.size:=by rw[o,rK];exact Mm
     have hz:s.size=C.size:=by rw[o,I,rK,rK]
     have A0:C.all (·.oneCell')=true:=by rw[o];exact PG _ _ _ _ _ _
     have HF:yH (qO w b R (rV (i6 0)) ((w3.setCell ⟨g,1,none⟩ (sV (ae h))).setRow b C)):=by
      show qO _ _ _ _ _;rw[M.o];have A1:bU ((w3.setCell ⟨g,1,none⟩ (sV (ae h))).setRow b C) b (n.gY h) (pV k) (λi=>pV (U i)):=by
       unfold bU;rw[Vk _ _ _ _ _ _ K.o,o,QD,Od,Lb,AP _ _ Y]
      have A3:¬w2.heap.size<=b:=by have:=a.o.size;omega
      refine⟨rfl,(X _ b h A3 A1 λx D A5 B4=>?_).mono ?_,?_⟩
      .have:w2.heap.size<=x:=D;rw[setRow_other _ _ _ _ (by omega),Uy _ _ _ _ A5]
      .intro x D;exact D.imp id λh=>Ut a.o.size h
      refine⟨f.o.os,f.o.tape,f.o.output,?_,λx D A4=>?_⟩
      .simp;exact f.o.size
      rw[setRow_other _ _ _ _ A4,Uy _ _ _ _ (by show x≠g;omega)];exact f.o.block x D
     clear A E F O m X c1 H o I;go_wp2_with (first|refine wpList_load_row rfl 167 (.tmp 48) rfl g rfl 167 C (0,0) _ HL.o underlying167 rfl N ?_|refine wpList_store_row rfl 167 (.tmp 50) (.tmp 49) rfl b C rfl rfl 167 s K.o N hz A0 ?_)
     go_ret;exact HF.o
 have y:(!decide (fe t.data.toList=h))=true:=by simp[q]
 rw[y];have j:yH (R=.error 10):=by show _=_;rw[L.o];unfold gS;rw[Uj q]
 clear q y;go_wp2;go_ret;rw[j.o];exact⟨rfl,d.o⟩
def pO:Nat->Nd->Prop
 | _,.nil=>True
 |dep,.unread _=>dep<=80
 |dep,.leaf _ p _=>dep+p.length<=80
 |dep,.ext _ p k=>dep+p.length<=80/\pO (dep+p.length) k
 |dep,.branch _ _ ks=>∀i,i<16->pO (dep+1) (ks i)
def dj(v:yL)(ks:Nat->Nd):Nat->Nat
 | 0=>if v=[] then 0 else 1
 |i+1=>dj v ks i+(if(ks i).isNil=true then 0 else 1)
def sW:Nd->Prop
 | .ext _ _ k=>sW k
 | .branch _ v ks=>2<=dj v ks 16/\∀i,i<16->sW (ks i)
 | _=>True
structure BX(n:Nd)(dep:Nat):Prop where
 hash:n.hash=[]
 read:n.read
 bB:mP n
 full:sW n
 deep:pO dep n
 aK:∀h,js (n.gY h)->aO (n.gY h)
structure aA(k:Nd)(dep:Nat):Prop where
 bB:mP k
 full:sW k
 deep:pO dep k
 aK:aO k
def Ee(n:Nd)(h:n.hash=[]):n.gY []=n:=by
 cases n with
 |nil=>rfl
 |unread _=>exact congrArg Nd.unread h.symm
 |leaf _ _ _=>show Nd.leaf [] _ _=_;rw[<-show _=[] from h];rfl
 |ext _ _ _=>show Nd.ext [] _ _=_;rw[<-show _=[] from h];rfl
 |branch _ _ _=>show Nd.branch [] _ _=_;rw[<-show _=[] from h];rfl
def sH(a:Tree->Nat->Bool->Option Nd):Prop:=∀x dep bl n,bN 6 x=true->a x dep bl=some n->n.item=x/\BX n dep/\(bl=true->n.fY)
def xg(a:Tree->Nat->Bool->Option Nd)(x:Tree)(dep:Nat)(bl:Bool)(b:∀t,x≠ak t):jC a x dep bl=if ff x≠0\/32<=(ft x).size then none else a x dep bl:=by
 unfold jC;split
 .next t=>exact absurd rfl (b t)
 rfl
def xe(a:Tree->Nat->Bool->Option Nd)(t)(dep:Nat)(bl:Bool):jC a (ak t) dep bl=if t=[] then some .nil else if t.length≠32\/80<dep then none else some (.unread t):=rfl
def xf(f:Tree->Nat->Bool->Option Nd)(H:sH f)(x:Tree)(dep:Nat)(bl:Bool)(k)(h:jC f x dep bl=some k):k.ref=x/\aA k dep/\(k=.nil\/(bl=true->k.fY)):=by
 by_cases g:∃t,x=ak t
 .obtain⟨t,rfl⟩:=g;rw[xe] at h;by_cases h0:t=[]
  .rw[Uj h0] at h;cases h;subst h0;exact⟨rfl,⟨trivial,trivial,trivial,trivial⟩,.inl rfl⟩
  rw[Ui h0] at h;by_cases h1:t.length≠32\/80<dep
  .rw[Uj h1] at h;cases h
  rw[Ui h1] at h;cases h;refine⟨?_,⟨trivial,trivial,?_,?_⟩,.inr λ_=>trivial⟩
  .show ko (.unread t) _=_;show(if t=[] then _ else ak t)=_;rw[Ui h0]
  .show dep<=80;exact Nat.le_of_not_lt λh=>h1 (.inr h)
  show t.length=32;exact Va λh=>h1 (.inl h)
 rw[xg f x dep bl (λt e=>g ⟨t,e⟩)] at h;by_cases c:ff x≠0\/32<=(ft x).size
 .rw[Uj c] at h;cases h
 rw[Ui c] at h;have h0:ff x=0:=Va λh=>c (.inl h)
 have h32:¬32<=(ft x).size:=λh=>c (.inr h)
 have d:bN 6 x=true:=by
  unfold ff at h0;by_cases b:bN 6 x=true
  .exact b
  rw[Ui b] at h0;cases h0
 have i:fH (bu 6 x)=true:=by
  unfold ff at h0;rw[Uj d] at h0;by_cases b:fH (bu 6 x)=true
  .exact b
  rw[Ui b] at h0;cases h0
 unfold ft at h32;rw[Uj d,rG _ i,aN] at h32;let⟨hi,a,j⟩:=H x dep bl k d h;have l:k.some:=by have:=a.read;cases k<;>first|exact this.elim|trivial
 refine⟨?_,⟨a.bB,a.full,a.deep,?_⟩,.inr j⟩
 .rw[ml l a.hash,hi]
 have:=a.aK [] (.inl ?_)
 .rwa[Ee k a.hash] at this
 rw[Ee k a.hash,a.hash];unfold fX Nd.code;rw[hi,Ui h32]
def Oo(d:Tree->Nat->Bool->Option Nd)(H:sH d)(x y:Tree)(dep:Nat)(n)(h:jy d x y dep=some n):n.item=bJ [x,y]/\BX n dep:=by
 unfold jy at h;split at h
 .next t=>
  by_cases a:nx t=false\/80<dep+(bm t).length
  .rw[Uj a] at h;cases h
  rw[Ui a] at h;have j:jT t:=(uC t).1 (by
   cases hq:nx t with
   |true=>rfl
   |false=>exact absurd (.inl hq) a)
  have i:dep+(bm t).length<=80:=Nat.le_of_not_lt λh=>a (.inr h)
  have m:=Oe t;by_cases c:fT t=true
  .rw[Uj c] at h;split at h
   .next v=>
    by_cases g:v=[]\/160<v.length
    .rw[Uj g] at h;cases h
    rw[Ui g] at h;cases h;refine⟨?_,rfl,trivial,λe=>g (.inl e),trivial,i,λh f=>⟨f,m,by omega,by omega⟩⟩;show bJ [ak (cR (bm t) true),ak v]=_;have:=Il t j;rw[c] at this;rw[this];rfl
   cases h
  rw[Ui c] at h;cases hk:jC d y (dep+(bm t).length) true with
  |none=>rw[hk] at h;cases h
  |some k=>
   rw[hk] at h;simp only at h;by_cases b:k.isNil=true\/bm t=[]
   .rw[Uj b] at h;cases h
   rw[Ui b] at h;cases h;let⟨h1,h2,h3⟩:=xf d H y _ true k hk;have l:k.fY:=h3.elim (λe=>absurd (.inl (by rw[e];rfl)) b) (λh=>h rfl);refine⟨?_,rfl,trivial,⟨λe=>b (.inr e),l,h2.bB⟩,h2.full,⟨i,h2.deep⟩,λh f=>⟨f,m,by omega,l,h2.aK⟩⟩;show bJ [ak (cR (bm t) false),k.ref]=_;have:=Il t j;rw[show fT t=false from by cases hq:fT t with|true=>exact absurd hq c|false=>rfl] at this;rw[this,h1];rfl
 cases h
def xd(a:Tree->Nat->Bool->Option Nd)(ks:List Tree)(dep:Nat):∀n,kD a ks dep n=true->∀i,i<n->∃k,gW a ks dep i=some k
 | 0,_,i,hi=>by omega
 |n+1,h,i,hi=>by
  simp only[kD,Vr] at h
  by_cases e:i=n
  .subst e;exact Option.isSome_iff_exists.1 h.2
  exact xd a ks dep n h.1 i (by omega)
def Au(a:Tree->Nat->Bool->Option Nd)(ks:List Tree)(dep:Nat)(v):∀n,iH a ks dep v n=dj v (λi=>(gW a ks dep i).getD .nil) n
 | 0=>rfl
 |n+1=>by simp only[iH,dj,Au a ks dep v n]
def Tm(a:Tree->Nat->Bool->Option Nd)(H:sH a)(ks:List Tree)(g:ks.length=17)(dep:Nat)(n)(h:iI a ks dep=some n):n.item=bJ ks/\BX n dep/\n.fY:=by
 unfold iI at h;split at h
 .next v hv=>
  by_cases d:160<v.length
  .rw[Uj d] at h;cases h
  rw[Ui d] at h;by_cases c:kD a ks dep 16=true/\2<=iH a ks dep v 16
  .rw[Uj c] at h;cases h;have b:∀i,i<16->((gW a ks dep i).getD .nil).ref=ks.getD i (ak [])/\aA ((gW a ks dep i).getD .nil) (dep+1):=λi hi=>by
    let⟨k,b⟩:=xd a ks dep 16 c.1 i hi;rw[b];let⟨h1,h2,_⟩:=xf a H _ _ _ k b;exact⟨h1,h2⟩
   refine⟨?_,⟨rfl,trivial,λi hi=>(b i hi).2.bB,⟨by rw[<-Au];exact c.2,λi hi=>(b i hi).2.full⟩,λi hi=>(b i hi).2.deep,λh e=>⟨e,by omega,λi hi=>(b i hi).2.aK⟩⟩,trivial⟩;show bJ ((List.range 16).map (λi=>((gW a ks dep i).getD .nil).ref)++[ak v])=bJ ks;congr 1;apply VQ;intro i;by_cases hi:i<16
   .rw[UW (by simp;exact hi),UK,List.getElem?_range hi];show some ((gW a ks dep i).getD .nil).ref=_;rw[(b i hi).1,Up,Uh (by omega)];rfl
   rw[Vf (by simp;omega)];simp only[UM,List.length_range];by_cases f:i=16
   .subst f;rw[Up,Uh (by omega)] at hv;rw[Uh (show 16<ks.length by omega)];exact congrArg some hv.symm
   rw[U9 (by simp;omega),U9 (by omega)]
  rw[Ui c] at h;cases h
 cases h
def Rz{x ks a}(h:x=.slice ks a)(b:bN 6 x=true):x=bJ ks:=by
 subst h;cases a with
 |nil=>rfl
 |cons _ _=>cases b
def wK:∀d,sH (a6 d):=by
 intro d;induction d with
 |zero=>intro x dep bl n _ h;cases h
 |succ d ih=>
  intro x dep bl n g h;cases x with
  |slice ks es=>
   have c:=Rz rfl g;have f:a6 (d+1) (.slice ks es) dep bl=if ks.length=2/\bl=false then jy (a6 d) (ks.getD 0 (ak [])) (ks.getD 1 (ak [])) dep else if ks.length=17 then iI (a6 d) ks dep else none:=rfl;rw[f] at h;by_cases h2:ks.length=2/\bl=false
   .rw[Uj h2] at h;let⟨h1,h3⟩:=Oo _ ih _ _ dep n h;refine⟨?_,h3,λe=>by rw[h2.2] at e;cases e⟩;rw[h1,c];have:=h2.1;match ks,this with
    | [a,b],_=>rfl
   rw[Ui h2] at h;by_cases h17:ks.length=17
   .rw[Uj h17] at h;let⟨h1,h3,h4⟩:=Tm _ ih ks h17 dep n h;exact⟨by rw[h1,c],h3,λ_=>h4⟩
   rw[Ui h17] at h;cases h
  | _=>cases h
def oT{h t dep bl n}(hr:gS h t dep bl=.ok n):aA n dep/\n.read/\n.hash=h/\n.code=t/\fe t=h/\(bl=true->n.fY):=by
 unfold gS at hr;by_cases h1:fe t≠h
 .rw[Uj h1] at hr;cases hr
 rw[Ui h1] at hr;by_cases h2:0<dep/\t.length<32
 .rw[Uj h2] at hr;cases hr
 rw[Ui h2] at hr;cases hd:dC t with
 |error c=>rw[hd] at hr;cases hr
 |ok x=>
  rw[hd] at hr;let⟨hc,hf,_⟩:=Br t x hd;have A0:CY h (a6 6 x dep bl)=.ok n:=hr;cases hn:a6 6 x dep bl with
  |none=>rw[hn] at A0;cases A0
  |some m=>
   rw[hn] at A0;cases A0;let⟨hi,ho,hk⟩:=wK 6 x dep bl m hf hn;have A1:(m.gY h).hash=h:=AP h m (by have:=ho.read;cases m<;>first|exact this.elim|trivial);have hF:=ho.aK h (.inr (by rw[A1,Jd];unfold Nd.code;rw[hi,hc];exact(Va h1).symm));refine⟨⟨?_,?_,?_,hF⟩,?_,A1,?_,Va h1,?_⟩
   .have:=ho.bB;cases m<;>exact this
   .have:=ho.full;cases m<;>exact this
   .have:=ho.deep;cases m<;>exact this
   .have:=ho.read;cases m<;>exact this
   .rw[Jd];unfold Nd.code;rwa[hi]
   intro e;have:=hk e;cases m<;>exact this
def j5(M:Nat->Prop)(w:World)(a:Option Addr)(G:yB->Option yB):Prop:=∀(W:World) (h:yB),h.size=32->(∀x,M x->W.heap[x]? =w.heap[x]?)->
 yC 118 #[pV a,sV h] W λe w'=>e=rV (tV #[sV ((G h).getD ⟨#[]⟩),iV .i64 (if(G h).isSome=true then 0 else 9)])/\∃n,w'=W.drewN n
def iC(G:yB->Option yB)(h:yL)(dep:Nat)(bl:Bool):Except Nat Nd:=match G (ae h) with
 |none=>.error 9
 |some t=>gS h t.data.toList dep bl
def Lr(M:Nat->Prop)(w:World)(i b:Nat)(g u)(G:yB->Option yB)(h:yL)(dep:Nat)(bl:Bool)(o:w.heap[i]? =some (.cells #[.pointer g,.pointer u] 75 (0,0)))(B:bU w b (.unread h) cN (λ_=>cN)) (E:h.length=32) (l:j5 M w g G) (hs:∀k t,G k=some t->t.size<=maxLen) (D:dep<=4000) (T:aB w):yC 111 #[.pointer (qA i),.pointer (qA b),.int .i64 (dep:Int),.bool bl] w (qO w b (iC G h dep bl)):=by
 have c0:=B.c0;have c1:=B.c1;have t0:w.cell? ⟨i,0,none⟩=some (.pointer g):=by rw[Ur w i 0 _ _ _ o];rfl
 have d:yH (∀W:World,W.heap=w.heap->yC 118 #[.pointer g,.string (ae h)] W λe w'=>e=.returned (.tuple #[.string ((G (ae h)).getD ⟨#[]⟩),.int .i64 (if(G (ae h)).isSome=true then 0 else 9)])/\∃n,w'=W.drewN n):=λW j=>l W (ae h) (by rw[aN];exact E) (λ_ _=>by rw[j])
 have q:(Nd.unread h).kind=0:=rfl;have p:(Nd.unread h).hash=h:=rfl;rw[q] at c0;rw[p] at c1;have x:=aa B;have z:=aa T;clear l o B q p T;cases hg:G (ae h) with
 |none=>
  have f:yH (iC G h dep bl=.error 9):=by show _=_;unfold iC;rw[hg]
  rw[hg] at d;simp only[Option.getD_none,Option.isSome_none,Bool.false_eq_true,UT] at d;generalize iC G h dep bl=R at*;clear hs hg;go_enter func111,ntmps111
  go_wp2;go_quiet ((go_at_call 118;refine Calls.quiet_of (d.o _ rfl)))
  go_wp2;go_ret;rw[f.o];exact⟨rfl,Below.drewN (Un _ _) _⟩
 |some t=>
  have r:=hs _ _ hg;have f:yH (∀W:World,(∃n,W=w.drewN n)->yC 119 #[.pointer (qA b),.string t,.int .i64 (dep:Int),.bool bl] W λe w'=>e=.returned (match iC G h dep bl with| .error c=>.int .i64 (c:Int) | .ok _=>.int .i64 0)/\qO w b (iC G h dep bl) e w'):=λW j=>by
   obtain⟨n,rfl⟩:=j;have A:iC G h dep bl=gS h t.data.toList dep bl:=by unfold iC;rw[hg]
   rw[A];refine(Eu (w.drewN n) h b t dep bl x.o r D (z.o.below (Below.drewN (Un _ _) _))).mono λe w' a=>?_
   cases hq2:gS h t.data.toList dep bl with
   |error c=>rw[hq2] at a;exact⟨a.1,a.1,(Below.drewN (Un _ w) n).trans a.2⟩
   |ok m=>rw[hq2] at a;exact⟨a.1,a.1,a.2.1,⟨a.2.2.os,a.2.2.tape,a.2.2.output,a.2.2.size,a.2.2.block⟩⟩
  rw[hg] at d;simp only[Option.getD_some,Option.isSome_some,U5] at d;generalize iC G h dep bl=R at*;have C:∃v:Int,(match R with| .error c=>Value.int .i64 (c:Int) | .ok _=>.int .i64 0)=.int .i64 v:=by cases R<;>exact⟨_,rfl⟩
  obtain⟨v,s⟩:=C;rw[s] at f;clear hs hg s r;go_enter func111,ntmps111
  go_wp2;go_quiet ((go_at_call 118;refine Calls.quiet_of (d.o _ rfl)))
  go_wp2_with fail
  refine(f.o _ ⟨_,rfl⟩).mono ?_;rintro e w2⟨rfl,a⟩;have y:=aa a;clear a;go_wp2;go_ret;exact y.o
def dG(G:yB->Option yB)(t:Nd)(dep:Nat)(bl:Bool):Except Nat Nd:=match t with
 | .unread h=>iC G h dep bl
 |t=>.ok t
def gj(a:Nd->yL->Nat->Bool->Nd×Nat)(t:Nd)(p:yL)(dep:Nat):Nd×Nat:=match t with
 | .ext h q k=>if aF q p=q.length then(.ext h q (a k (p.drop q.length) (dep+q.length) true).1,(a k (p.drop q.length) (dep+q.length) true).2) else(.ext h q k,0)
 | .branch h v ks=>match p with
  | []=>(.branch h v ks,0)
  |c::r=>(.branch h v (aJ ks c.toNat (a (ks c.toNat) r (dep+1) false).1),(a (ks c.toNat) r (dep+1) false).2)
 |t=>(t,0)
def lG(t:Nd)(f:Nd->Nd×Nat):Except Nat Nd->Nd×Nat
 | .error c=>(t,c)
 | .ok t1=>f t1
def dc(G:yB->Option yB):Nat->Nd->yL->Nat->Bool->Nd×Nat
 | 0,t,_,_,_=>(t,0)
 |f+1,t,p,dep,bl=>lG t (λt1=>gj (dc G f) t1 p dep) (dG G t dep bl)
def tT(G:yB->Option yB)(f:Nat)(p)(dep:Nat)(bl:Bool):dc G f .nil p dep bl=(.nil,0):=by cases f<;>rfl
def nf{G t t1 dep bl}(hK:aA t dep)(h:dG G t dep bl=.ok t1):aA t1 dep/\t1.ref=t.ref/\t1.isNil=t.isNil/\(bl=true->t.fY->t1.fY)/\(t1=.nil\/t1.read):=by
 cases t with
 |unread h0=>
  have hh:h0.length=32:=hK.aK;have h':iC G h0 dep bl=.ok t1:=h;unfold iC at h';split at h'
  .cases h'
  next t _=>
  let⟨h1,h2,h3,_,_,h6⟩:=oT h';have A0:t1.hash≠[]:=λe=>by rw[h3] at e;rw[e] at hh;cases hh
  have hs:t1.some:=by cases t1<;>first|exact h2.elim|trivial
  refine⟨h1,?_,?_,λe _=>h6 e,.inr h2⟩
  .rw[jQ hs A0,h3,jQ (t:=.unread h0) trivial (by rw[h3] at A0;exact A0)];rfl
  cases t1<;>first|exact h2.elim|rfl
 |nil=>cases h;exact⟨hK,rfl,rfl,λ_ h=>h,.inl rfl⟩
 |leaf _ _ _=>cases h;exact⟨hK,rfl,rfl,λ_ h=>h,.inr trivial⟩
 |ext _ _ _=>cases h;exact⟨hK,rfl,rfl,λ_ h=>h,.inr trivial⟩
 |branch _ _ _=>cases h;exact⟨hK,rfl,rfl,λ_ h=>h,.inr trivial⟩
structure uZ(t t':Nd)(dep:Nat)(bl:Bool):Prop where
 ok:aA t' dep
 ref:t'.ref=t.ref
 nil:t'.isNil=t.isNil
 fork:bl=true->t.fY->t'.fY
def xh(v)(ks:Nat->Nd)(c:Nat)(k:Nd)(h:k.isNil=(ks c).isNil):∀n,dj v (aJ ks c k) n=dj v ks n
 | 0=>rfl
 |n+1=>by
  simp only[dj,xh v ks c k h n]
  by_cases e:n=c
  .subst e;rw[dK,h]
  rw[e9 _ _ _ _ e]
def Az(h p)(k k':Nd)(e:k'.ref=k.ref):(Nd.ext h p k').item=(Nd.ext h p k).item:=by
 show bJ [_,k'.ref]=bJ [_,k.ref];rw[e]
def AA(h v)(ks:Nat->Nd)(c:Nat)(k':Nd)(e:k'.ref=(ks c).ref):(Nd.branch h v (aJ ks c k')).item=(Nd.branch h v ks).item:=by
 show bJ ((List.range 16).map (λi=>(aJ ks c k' i).ref)++_)=bJ ((List.range 16).map (λi=>(ks i).ref)++_);congr 2;apply Vz;intro i _;by_cases hi:i=c
 .subst hi;rw[dK,e]
 rw[e9 _ _ _ _ hi]
def Ht{t a:Nd}(hi:a.item=t.item)(b:a.hash=t.hash)(h:js t):js a:=by
 unfold js Nd.code at*;rwa[hi,b]
def Er{t a:Nd}(hi:a.item=t.item)(b:a.hash=t.hash)(h1:t.some)(h2:a.some):a.ref=t.ref:=by
 by_cases h0:t.hash=[]
 .rw[ml h1 h0,ml h2 (by rw[b];exact h0),hi]
 rw[jQ h1 h0,jQ h2 (by rw[b];exact h0),b]
def RO{h q k k' dep}(a:aA (.ext h q k) dep)(b:uZ k k' (dep+q.length) true):aA (.ext h q k') dep:=by
 have c:=b.fork rfl a.bB.2.1;exact⟨⟨a.bB.1,c,b.ok.bB⟩,b.ok.full,⟨a.deep.1,b.ok.deep⟩,⟨Ht (Az h q k k' b.ref) rfl a.aK.1,a.aK.2.1,a.aK.2.2.1,c,b.ok.aK⟩⟩
def Tk{h v ks k' c dep}(a:aA (.branch h v ks) dep)(b:uZ (ks c) k' (dep+1) false):aA (.branch h v (aJ ks c k')) dep:=by
 have d:∀{P:Nd->Prop},(∀i,i<16->P (ks i))->P k'->∀i,i<16->P (aJ ks c k' i):=λh1 h2 i hi=>by
  by_cases e:i=c
  .subst e;rwa[dK]
  rw[e9 _ _ _ _ e];exact h1 i hi
 exact⟨d a.bB b.ok.bB,⟨by rw[xh v ks c k' b.nil];exact a.full.1,d a.full.2 b.ok.full⟩,d a.deep b.ok.deep,⟨Ht (AA h v ks c k' b.ref) rfl a.aK.1,a.aK.2.1,d a.aK.2.2 b.ok.aK⟩⟩
def fq{h q k dep}(a:aA (.ext h q k) dep):aA k (dep+q.length):=⟨a.bB.2.2,a.full,a.deep.2,a.aK.2.2.2.2⟩
def dA{h v ks dep}(a:aA (.branch h v ks) dep)(c:Nat)(b:c<16):aA (ks c) (dep+1):=⟨a.bB c b,a.full.2 c b,a.deep c b,a.aK.2.2 c b⟩
def wG(G:yB->Option yB):∀(f:Nat) (t) (p) (dep:Nat) (bl:Bool),aA t dep->aw p->uZ t (dc G f t p dep bl).1 dep bl:=by
 intro f;induction f with
 |zero=>intro t p dep bl b _;exact⟨b,rfl,rfl,λ_ h=>h⟩
 |succ f ih=>
  intro t p dep bl b d;show uZ t (lG t _ (dG G t dep bl)).1 dep bl;cases hr:dG G t dep bl with
  |error c=>exact⟨b,rfl,rfl,λ_ h=>h⟩
  |ok t1=>
   let⟨h1,h2,h3,h4,_⟩:=nf b hr;suffices hs:uZ t1 (gj (dc G f) t1 p dep).1 dep bl from⟨hs.ok,hs.ref.trans h2,hs.nil.trans h3,λe i=>hs.fork e (h4 e i)⟩
   cases t1 with
   |nil=>exact⟨h1,rfl,rfl,λ_ h=>h⟩
   |unread _=>exact⟨h1,rfl,rfl,λ_ h=>h⟩
   |leaf _ _ _=>exact⟨h1,rfl,rfl,λ_ h=>h⟩
   |ext h q k=>
    simp only[gj];by_cases e:aF q p=q.length
    .rw[Uj e];have a:=ih k (p.drop q.length) (dep+q.length) true (fq h1) (da d _);exact⟨RO h1 a,Er (Az h q k _ a.ref) rfl trivial trivial,rfl,λ_ h=>h⟩
    rw[Ui e];exact⟨h1,rfl,rfl,λ_ h=>h⟩
   |branch h v ks=>
    cases p with
    |nil=>exact⟨h1,rfl,rfl,λ_ h=>h⟩
    |cons c r=>have g:=d c (Uk ..);have a:=ih (ks c.toNat) r (dep+1) false (dA h1 _ g) (λy j=>d y (Ul _ j));exact⟨Tk h1 a,Er (AA h v ks _ _ a.ref) rfl trivial trivial,rfl,λ_ _=>trivial⟩
def Ex{h t dep bl c}(hr:gS h t dep bl=.error c):c=10\/c=11:=by
 unfold gS at hr;split at hr
 .cases hr;exact .inl rfl
 split at hr
 .cases hr;exact .inr rfl
 right;cases hd:dC t with
 |error _=>rw[hd] at hr;cases hr;rfl
 |ok x=>
  rw[hd] at hr;have A0:CY h (a6 6 x dep bl)=.error c:=hr;cases hn:a6 6 x dep bl with
  |none=>rw[hn] at A0;cases A0;rfl
  |some _=>rw[hn] at A0;cases A0
def vX{G t dep bl c}(h:dG G t dep bl=.error c):c=9\/c=10\/c=11:=by
 cases t with
 |unread h0=>
  have h':iC G h0 dep bl=.error c:=h;unfold iC at h';split at h'
  .cases h';exact .inl rfl
  exact .inr (Ex h')
 | _=>cases h
def OZ(G:yB->Option yB):∀(f:Nat) (t) (p) (dep:Nat) (bl:Bool),aA t dep->aw p->p.length+1<=f->(dc G f t p dep bl).2=0->dD (dc G f t p dep bl).1 p:=by
 intro f;induction f with
 |zero=>intro t p dep bl _ _ h;omega
 |succ f ih=>
  intro t p dep bl hK hp hf h0;have A0:(lG t (λt1=>gj (dc G f) t1 p dep) (dG G t dep bl)).2=0:=h0;show dD (lG t (λt1=>gj (dc G f) t1 p dep) (dG G t dep bl)).1 p;cases hr:dG G t dep bl with
  |error c=>rw[hr] at A0;have:c=0:=A0;have:=vX hr;omega
  |ok t1=>
   rw[hr] at A0;let⟨h1,_,_,_,h5⟩:=nf hK hr;have h0:(gj (dc G f) t1 p dep).2=0:=A0;show dD (gj (dc G f) t1 p dep).1 p;cases t1 with
   |nil=>trivial
   |unread _=>exact(h5.elim (λh=>by cases h) (λh=>h.elim))
   |leaf _ _ _=>trivial
   |ext h q k=>
    simp only[gj] at h0⊢;by_cases e:aF q p=q.length
    .rw[Uj e] at h0⊢;intro _;have hq:0<q.length:=Vt.2 h1.bB.1;have A1:=(iN q p).2;exact ih k (p.drop q.length) (dep+q.length) true (fq h1) (da hp _) (by rw[Uu];omega) h0
    rw[Ui e];intro e2;exact absurd e2 e
   |branch h v ks=>
    cases p with
    |nil=>trivial
    |cons c r=>have hc:c.toNat<16:=hp c (Uk ..);show dD (aJ ks c.toNat _ c.toNat) r;rw[dK];exact ih (ks c.toNat) r (dep+1) false (dA h1 _ hc) (λy hy=>hp y (Ul _ hy)) (by simp at hf;omega) h0
def fZ(w:World)(S:Nat->Prop)(p:Value)(d:Nd->Nd)(a:Nat->Prop)(c:Value):Prop:=
 (∀x,a x->S x)/\∀(w':World) (b:Nd) (F:Nat->Prop),(∀x,S x->¬a x->w'.heap[x]? =w.heap[x]?)->At w' b F c->(∀x,F x->a x\/¬S x)->At w' (d b) (λx=>S x\/F x) p
def fZ.refl(w S p):fZ w S p (λt=>t) S p:=⟨λ_ h=>h,λ_ _ _ _ h _=>h.mono λ_ hx=>.inr hx⟩
def fZ.trans{w S c f p j k l e}(h1:fZ w S p l c j)(h2:fZ w c j e f k):fZ w S p (λt=>l (e t)) f k:=
 ⟨λx a=>h1.1 x (h2.1 x a),λw' m F i n g=>
  (h1.2 w' (e m) (λx=>c x\/F x) (λx a b=>i x a λo=>b (h2.1 x o))
   (h2.2 w' m F (λx a b=>i x (h1.1 x a) b) n (λx a=>(g x a).imp id λb d=>b (h1.1 x d)))
   (λx a=>a.elim .inl λq=>(g x q).imp (h2.1 x) id)).mono λx a=>a.elim .inl λh=>h.elim (λd=>.inl (h1.1 x d)) .inr⟩
def fZ.step{w w2:World}{S c d p e f}(h:fZ w S p f c e)(m:∀x,S x->¬c x->w2.heap[x]? =w.heap[x]?)(hs:∀x,d x->c x\/¬S x):fZ w2 (λx=>S x\/d x) p f d e:=
 ⟨λ_ a=>.inr a,λw' n F h1 g i=>(h.2 w' n F (λx a b=>(h1 x (.inl a) λk=>(hs x k).elim b λl=>l a).trans (m x a b)) g
  (λx a=>(i x a).elim (hs x) λb=>.inr λj=>b (.inl j))).mono λ_ a=>a.elim (λh=>.inl (.inl h)) .inr⟩
def fZ.kept{w w2:World}{S a p d e}(h:fZ w S p e a d)(i:∀x,S x->¬a x->w2.heap[x]? =w.heap[x]?):fZ w2 S p e a d:=
 ⟨h.1,λw' j F h1 f g=>h.2 w' j F (λx c b=>(h1 x c b).trans (i x c b)) f g⟩
def fZ.fill{w S a p c d t}(h:fZ w S p d a c)(e:At w t a c):At w (d t) S p:=
 (h.2 w t a (λ_ _ _=>rfl) e λ_ b=>.inl b).mono λx b=>b.elim id (h.1 x)
def fZ.none{w S p t}(b:At w t S p):fZ w S p (λ_=>t) (λ_=>False) (pV none):=
 ⟨λ_ h=>h.elim,λ_ _ _ hw _ _=>(b.kept λx a _=>hw x a λh=>h).mono λ_ a=>.inl a⟩
def fZ.ext{w S h q k b u S'}(c:S b)(B:bU w b (.ext h q k) (pV u) (λ_=>cN))(hs:∀x,S' x->S x/\x≠b):fZ w S (ptr b) (λk'=>.ext h q k') S' (pV u):=
 ⟨λx a=>(hs x a).1,λw' j F i d f=>⟨b,_,F,rfl,.inl c,(i b c λh=>(hs b h).2 rfl).trans B,λx a=>⟨.inr a,λe=>by subst e;exact(f x a).elim (λh=>(hs x h).2 rfl) λg=>g c⟩,d⟩⟩
def fZ.branch{w S h v ks b U k}(l:S b)(B:bU w b (.branch h v ks) cN (λi=>pV (U i)))(d:Kids w ks (λx=>S x/\x≠b) U k)(c:Nat)(f:c<16):fZ w S (ptr b) (λk'=>.branch h v (aJ ks c k')) (k c) (pV (U c)):=
 ⟨λx a=>(d.sub c x f a).1,λw' s F o p n=>by
  refine⟨b,λi=>pV (U i),fQ k c F,rfl,.inl l,(o b l λh=>(d.sub c b f h).2 rfl).trans B,λi x hi a=>?_,λi j x hi g h1 h2=>?_,λi hi=>?_⟩
  .unfold fQ at a
   by_cases e:i=c
   .rw[Uj e] at a
    exact⟨.inr a,λe2=>by subst e2;exact(n x a).elim (λh=>(d.sub c x f h).2 rfl) λm=>m l⟩
   rw[Ui e] at a
   exact⟨.inl (d.sub i x hi a).1,(d.sub i x hi a).2⟩
  .unfold fQ at h1 h2
   have key:∀j,j<16->j≠c->F x->k j x->False:=λj g r q hs=>(n x q).elim (λh=>r (d.jf j c x g f hs h)) λm=>m (d.sub j x g hs).1
   by_cases e1:i=c
   .rw[Uj e1] at h1
    by_cases e2:j=c
    .omega
    rw[Ui e2] at h2;exact(key j g e2 h1 h2).elim
   rw[Ui e1] at h1
   by_cases e2:j=c
   .rw[Uj e2] at h2;exact(key i hi e1 h2 h1).elim
   rw[Ui e2] at h2;exact d.jf i j x hi g h1 h2
  by_cases e:i=c
  .subst e;simp only[aJ,fQ,U5];exact p
  simp only[aJ,fQ,e,UT]
  exact(d.at_ i hi).kept λx a _=>o x (d.sub i x hi a).1 λh=>e (d.jf i c x hi f a h)⟩
structure BY(w:World)(S:Nat->Prop)(b:Nat)(t:Nd)(r:yL)(d:Nat)(pl:Nd->Nd)(k:Nd)(u:Option Addr)(r':yL)(d':Nat)(bl':Bool)(S':Nat->Prop):Prop where
 at_:At w k S' (pV u)
 hole:fZ w S (ptr b) pl S' (pV u)
 ok:aA k d'
 fork:bl'=true->k.fY
 mx:aw r'
 deep:d'+r'.length<=80
 less:k≠.nil->r'.length+1<=r.length
 same:∀G f,gj (dc G f) t r d=(pl (dc G f k r' d' bl').1,(dc G f k r' d' bl').2)
 last:k=.nil->t.at r=aM (pl .nil) r
 more:k≠.nil->∀k',aM (pl k') r=aM k' r'
def JX(W:World)(S:Nat->Prop)(b:Nat)(t:Nd)(r:yL)(d:Nat)(e:Ending)(w':World):Prop:=
 ∃pl k u r' d' bl' S',e=rV (cz (pV u) (ae r') d' bl')/\BY W S b t r d pl k u r' d' bl' S'/\yW W w'
def mE(d:Nat):aA .nil d:=⟨trivial,trivial,trivial,trivial⟩
def zS{W S b t r d}(a:At W t S (ptr b))(h1:∀G f,gj (dc G f) t r d=(t,0))(h2:t.at r=aM t r):BY W S b t r d (λ_=>t) .nil none [] 0 false (λ_=>False):=
 ⟨rfl,fZ.none a,mE 0,λh=>(by cases h),λ_ h=>(Vs h).elim,by decide,λh=>(h rfl).elim,λG f=>by rw[h1 G f,tT],λ_=>h2,λh=>(h rfl).elim⟩
def PC(W S t)(b:Nat)(r)(d:Nat)(bl:Bool)(i:At W t S (pV (qA b)))(g:aA t d)(p:aw r)(D:d+r.length<=80)(hs:t.read):yC 112 #[cz (pV (qA b)) (ae r) d bl] W (JX W S b t r d):=by
 have n:=i;have u:=g.aK;cases t with
 |nil=>exact hs.elim
 |unread _=>exact hs.elim
 |leaf h q v=>let⟨l,a,_,B⟩:=i;cases a;exact(zP b h q v _ _ r (by have:=u.2.2.1;omega) d bl W B).mono λe w'⟨h1,h2⟩=>⟨_,_,_,_,_,_,_,h1,zS n (λ_ _=>rfl) rfl,h2⟩
 |ext h q k=>
  let⟨l,L,C,a,o,B,F,w⟩:=i;cases a;obtain⟨A,rfl⟩:=w.ptr;have K:=u.2.2.1;by_cases e:aF q r=q.length
  .have m:aF r q=q.length:=by rwa[oP]
   have E:=(iN q r).2;rw[e] at E;have J:=Vt.2 g.bB.1;refine(wM b h q k A _ r (by omega) (by omega) m d (by omega) bl W B).mono λen w'⟨h1,h2⟩=>⟨λk'=>.ext h q k',k,A,r.drop q.length,d+q.length,true,C,h1,⟨w,fZ.ext o B F,fq g,λ_=>g.bB.2.1,da p _,by rw[Uu];omega,?_,?_,?_,?_⟩,h2⟩
   .intro _;rw[Uu];omega
   .intro G f;simp only[gj,Uj e]
   .intro z;have:=g.bB.2.1;rw[z] at this;exact this.elim
   intro _ k';simp only[aM,Uj e]
  have m:aF r q≠q.length:=by rwa[oP]
  exact(zQ b h q k _ _ r (by omega) (by omega) m d bl W B).mono λen w'⟨h1,h2⟩=>⟨_,_,_,_,_,_,_,h1,zS n (λ_ _=>by simp only[gj,Ui e]) (by simp only[aM,Ui e];rfl),h2⟩
 |branch h v ks=>
  cases r with
  |nil=>let⟨l,M,s,a,_,B,_⟩:=i;cases a;exact(zR b h v ks _ _ d bl W B).mono λen w'⟨h1,h2⟩=>⟨_,_,_,_,_,_,_,h1,zS n (λ_ _=>rfl) (by simp[Nd.at,aM,Nd.kind,Nd.path,Nd.value]),h2⟩
  |cons c r=>
   let⟨l,U,s,a,o,B,x⟩:=i.kids;cases a;have j:=p c (Uk ..);have I:r.length+1+d<=80:=by simp at D;omega
   refine(wN b h v ks _ _ c r j (U c.toNat) rfl (by omega) d (by omega) bl W B).mono λen w'⟨h1,h2⟩=>⟨λk'=>.branch h v (aJ ks c.toNat k'),ks c.toNat,U c.toNat,r,d+1,false,s c.toNat,h1,⟨x.at_ _ j,fZ.branch o B x c.toNat j,dA g _ j,(λh=>by cases h),λy H=>p y (Ul _ H),by omega,?_,?_,?_,?_⟩,h2⟩
   .intro _;simp
   .intro G f;rfl
   .intro z;show _=aM (aJ ks c.toNat .nil c.toNat) r;rw[dK];simp[Nd.at,aM,Nd.path]
   intro _ k';show aM (aJ ks c.toNat k' c.toNat) r=_;rw[dK]
structure bO(T:Nat->Prop)(w w':World):Prop where
 os:w'.os=w.os
 tape:w'.tape=w.tape
 output:w'.output=w.output
 size:w.heap.size<=w'.heap.size
 block:∀k,k<w.heap.size->¬T k->w'.heap[k]? =w.heap[k]?
namespace bO
variable {T T' : Nat → Prop} {w w1 w2 : World}
def refl(T w):bO T w w:=⟨rfl,rfl,rfl,Ug _,λ_ _ _=>rfl⟩
def iP(h:yW w w1):bO T w w1:=⟨h.os,h.tape,h.output,h.size,λk a _=>h.block k a⟩
def trans(h:bO T w w1)(k:bO T' w1 w2)(c:∀x,T' x->T x\/w.heap.size<=x):bO T w w2:=
 ⟨k.os.trans h.os,k.tape.trans h.tape,k.output.trans h.output,Ut h.size k.size,λx b a=>(k.block x (Us b h.size) λd=>(c x d).elim a λe=>by omega).trans (h.block x b a)⟩
def kU(h:bO T w w1)(k:yW w1 w2):bO T w w2:=h.trans (T':=λ_=>False) (iP k) λ_ h=>h.elim
def Fl{b}(k:Kept b w w1):bO (λx=>x=b) w w1:=⟨k.os,k.tape,k.output,k.size,λx c a=>k.block x c a⟩
def mono(h:bO T w w1)(c:∀x,T x->T' x):bO T' w w1:=⟨h.os,h.tape,h.output,h.size,λx d b=>h.block x d λa=>b (c x a)⟩
def set(h:bO T w w1)(g i:Nat)(v)(c:w.heap.size<=g):bO T w (w1.setCell ⟨g,i,none⟩ v):=
 ⟨h.os,h.tape,h.output,by simpa using h.size,λk a b=>by rw[Uy _ _ _ _ (by show k≠g;omega)];exact h.block k a b⟩
def cJ(h:bO T w w1)(g:Nat)(e:w.heap.size<=g)(a b c d):bO T w ((((w1.setCell ⟨g,0,none⟩ a).setCell ⟨g,1,none⟩ b).setCell ⟨g,2,none⟩ c).setCell ⟨g,3,none⟩ d):=(((h.set g 0 a e).set g 1 b e).set g 2 c e).set g 3 d e
end bO
def aB.nL{T w w'}(h:aB w)(k:bO T w w')(c:∀x,T x->3<=x):aB w':=by
 have h3:=h.size;have b:∀x,x<3->w'.heap[x]? =w.heap[x]? :=λx e=>k.block x (by omega) λd=>by have:=c x d;omega
 exact⟨Ut h.size k.size,λj a=>(Uz (w:=w) (b 0 (by omega))).trans (h.words j a),λj a=>(Uz (w:=w) (b 1 (by omega))).trans (h.turns j a),λj a=>(Uz (w:=w) (b 2 (by omega))).trans (h.ud j a)⟩
def xY(w:World)(S:Nat->Prop)(b:Nat)(r:Except Nat Nd)(e:Ending)(w':World):Prop:=match r with
 | .error c=>e=rV (iV .i64 (c:Int))/\yW w w'
 | .ok n=>e=rV (iV .i64 0)/\At w' n (λx=>S x\/w.heap.size<=x) (ptr b)/\bO S w w'
def Ev(M:Nat->Prop)(w)(i b:Nat)(l u)(G:yB->Option yB)(t:Nd)(S:Nat->Prop)(dep:Nat)(bl:Bool)(s:fF w i l u)(g:At w t S (pV (qA b))) (q:aA t dep) (p:j5 M w l G) (hs:∀k t,G k=some t->t.size<=maxLen) (v:dep<=4000) (T:aB w):yC 111 #[pV (qA i),pV (qA b),i6 (dep:Int),bV bl] w (xY w S b (dG G t dep bl)):=by
 by_cases d:t.read
 .let⟨o,y,z,j,_,B⟩:=g.ai (by cases t<;>first|exact d.elim|trivial);cases j;have r:dG G t dep bl=.ok t:=by cases t<;>first|exact d.elim|rfl
  rw[r];exact(Nu w i b t y z dep bl B d).mono λe w'⟨h1,h2⟩=>by subst h2;exact⟨h1,g.mono λ_ f=>.inl f,bO.refl _ _⟩
 cases t with
 |nil=>have h:Value.pointer (qA b)=pV none:=g;cases h
 |unread h=>
  let⟨o,j,m,B⟩:=g;cases j;refine(Lr M w i b l u G h dep bl s B q.aK p hs v T).mono λe w' a=>?_
  show xY w S b (iC G h dep bl) e w';cases hR:iC G h dep bl with
  |error c=>rwa[hR] at a
  |ok n=>rw[hR] at a;exact⟨a.1,a.2.1.mono λx f=>f.imp (λe=>by rwa[e]) id,(bO.Fl a.2.2).mono λx f=>by rwa[f]⟩
 |leaf _ _ _=>exact absurd trivial d
 |ext _ _ _=>exact absurd trivial d
 |branch _ _ _=>exact absurd trivial d
structure xR(G:yB->Option yB)(w0:World)(S0:Nat->Prop)(ga gl gr:Nat)(u0:Option Addr)(T:Nd)(E:Nat)(V:yL)(g:Nat)(wr:World)(pl:Nd->Nd)(t:Nd)(S Sc:Nat->Prop)(u:Option Addr)(r:yL)(d:Nat)(bl:Bool)(ul:Option Addr)(rl:yL)(dl:Nat)(bll:Bool):Prop where
 here:db wr ga u (ae r) d bl
 last:db wr gl ul (ae rl) dl bll
 res:db wr gr none ⟨#[]⟩ 0 false
 root:fZ wr S (pV u0) pl Sc (pV u)
 at_:At wr t Sc (pV u)
 sub:∀x,S x->(S0 x\/w0.heap.size<=x)/\x<wr.heap.size/\x≠ga/\x≠gl/\x≠gr
 ok:aA t d
 mx:aw r
 deep:d+r.length<=80
 fuel:t≠.nil->r.length+1<=g
 tree:T=pl (dc G g t r d bl).1
 err:E=(dc G g t r d bl).2
 more:t≠.nil->E=0->aM (dc G g t r d bl).1 r=V
 done:t=.nil->E=0->sM wr wr.heap.size ul rl V
 wrote:bO S0 w0 wr
def cJ(w:World)(g:Nat)(u:Option Addr)(r:yL)(d:Nat)(bl:Bool):World:=(((w.setCell ⟨g,0,none⟩ (pV u)).setCell ⟨g,1,none⟩ (sV (ae r))).setCell ⟨g,2,none⟩ (iV .i64 (d:Int))).setCell ⟨g,3,none⟩ (bV bl)
def mZ(w)(g:Nat)(u r)(d:Nat)(bl:Bool)(x:Nat)(h:x≠g):(cJ w g u r d bl).heap[x]? =w.heap[x]? :=by
 unfold cJ;rw[Uy _ _ _ _ h,Uy _ _ _ _ h,Uy _ _ _ _ h,Uy _ _ _ _ h]
def tG(w)(g:Nat)(u r)(d:Nat)(bl:Bool):(cJ w g u r d bl).heap.size=w.heap.size:=by unfold cJ;simp
def Ez{G t t1 dep bl}(a:aA t dep)(h:dG G t dep bl=.ok t1)(b:t≠.nil):t1.read:=by
 let⟨_,_,h3,_,h5⟩:=nf a h;rcases h5 with e|e
 .rw[e] at h3;cases t<;>first|exact absurd rfl b|cases h3
 exact e
def kJ(wr w2:World)(a:Nat->Prop):Nat->Prop:=λx=>a x\/(wr.heap.size<=x/\x<w2.heap.size)
def Ds{G:yB->Option yB}{w0:World}{f:Nat->Prop}{j e k:Nat}{u0:Option Addr}{T:Nd}{E:Nat}{V:yL}{g:Nat}{wr:World}{n:Nd->Nd}{t:Nd}{S a:Nat->Prop}{b:Nat}{r:yL}{d:Nat}{bl:Bool}{p:Option Addr}{o:yL}{i:Nat}{h:Bool}(c:xR G w0 f j e k u0 T E V g wr n t S a (qA b) r d bl p o i h) {t1:Nd} {w2:World} (l:At w2 t1 (λx=>a x\/wr.heap.size<=x) (ptr b)):At (cJ w2 e (qA b) r d bl) t1 (kJ wr w2 a) (ptr b):=by
 have q:=c.last.lt;refine(l.cut.mono (S':=kJ wr w2 a) ?_).kept ?_
 .rintro x⟨h1|h1,h2⟩
  .exact .inl h1
  exact .inr ⟨h1,h2⟩
 rintro x m _;refine mZ _ _ _ _ _ _ _ ?_;rcases m with h1|⟨h1,_⟩
 .exact(c.sub x (c.root.1 x h1)).2.2.2.1
 omega
def LX{G:yB->Option yB}{w0:World}{v:Nat->Prop}{f e j:Nat}{u0:Option Addr}{T:Nd}{E:Nat}{V:yL}{g:Nat}{wr:World}{F:Nd->Nd}{t:Nd}{S i:Nat->Prop}{b:Nat}{r:yL}{d:Nat}{bl:Bool}{ul:Option Addr}{rl:yL}{M:Nat}{L:Bool}(c:xR G w0 v f e j u0 T E V (g+1) wr F t S i (qA b) r d bl ul rl M L) (m:t≠.nil) (h1:f≠e) (h2:f≠j) (h3:e≠j) (p1:w0.heap.size<=f) (p2:w0.heap.size<=e){t1:Nd} (I:dG G t d bl=.ok t1) {w2:World} (N:At w2 t1 (λx=>i x\/wr.heap.size<=x) (ptr b)) (C:bO i wr w2){w4:World} {H:Nd->Nd} {k:Nd} {u:Option Addr} {p:yL} {o:Nat} {n:Bool} {S':Nat->Prop} (l:BY (cJ w2 e (qA b) r d bl) (kJ wr w2 i) b t1 r d H k u p o n S') (q:Below (cJ w2 e (qA b) r d bl).heap.size (cJ w2 e (qA b) r d bl) w4):db w4 f (qA b) (ae r) d bl/\xR G w0 v f e j u0 T E V g (cJ w4 f u p o n) (λx=>F (H x)) k (λx=>S x\/kJ wr w2 i x) S' u p o n (qA b) r d bl:=by
 have U:=c.here.lt;have W:=c.last.lt;have X:=c.res.lt;have hz:=C.size;have B0:=tG w2 e (qA b) r d bl;have B1:=q.size;have B2:=tG w4 f u p o n;have D:∀x,i x->x<wr.heap.size/\x≠f/\x≠e/\x≠j:=λx a=>(c.sub x (c.root.1 x a)).2
 have w:∀x,(S x\/kJ wr w2 i x)->(v x\/w0.heap.size<=x)/\x<w2.heap.size/\x≠f/\x≠e/\x≠j:=λx a=>by
  rcases a with a|a|⟨a,A1⟩
  .have:=c.sub x a;exact⟨this.1,by omega,this.2.2⟩
  .have:=c.sub x (c.root.1 x a);exact⟨this.1,by omega,this.2.2⟩
  have:=c.wrote.size;exact⟨.inr (by omega),A1,by omega,by omega,by omega⟩
 have b24:∀x,x<w2.heap.size->x≠e->w4.heap[x]? =w2.heap[x]? :=λx a m=>(q.block x (by omega)).trans (mZ _ _ _ _ _ _ _ m)
 have b45:∀x,x≠f->(cJ w4 f u p o n).heap[x]? =w4.heap[x]? :=λx m=>mZ _ _ _ _ _ _ _ m
 have y:∀x,x<wr.heap.size->¬i x->w2.heap[x]? =wr.heap[x]? :=λx a m=>C.block x a m
 have A4:¬i f:=λh=>(D f h).2.1 rfl
 have A5:¬i e:=λh=>(D e h).2.2.1 rfl
 have A6:¬i j:=λh=>(D j h).2.2.2 rfl
 have A7:=c.here.kept (y f U A4);have K:db w4 f (qA b) (ae r) d bl:=A7.kept (b24 f (by omega) h1);have A8:db w4 e (qA b) (ae r) d bl:=by
  have:db (cJ w2 e (qA b) r d bl) e (qA b) (ae r) d bl:=(c.last.kept (y e W A5)).set _ _ _ _;exact this.kept (q.block e (by omega))
 have A9:db w4 j none ⟨#[]⟩ 0 false:=(c.res.kept (y j X A6)).kept (b24 j (by omega) (Ne.symm h3));refine⟨K,?_⟩;have z:dc G (g+1) t r d bl=(H (dc G g k p o n).1,(dc G g k p o n).2):=by
  show lG t (λt1=>gj (dc G g) t1 r d) (dG G t d bl)=_;rw[I];exact l.same G g
 have P:=l.hole.1;have A0:t1.some:=by have:=Ez c.ok I m;cases t1<;>first|exact this.elim|trivial
 let⟨b',A2,A3,hu,J,B⟩:=(Ds c N).ai A0;cases hu;have R:(cJ w4 f u p o n).heap[b]? =(cJ w2 e (qA b) r d bl).heap[b]? :=by
  have:=w b (.inr J);rw[b45 b this.2.2.1];exact q.block b (by omega)
 refine⟨K.set _ _ _ _,A8.kept (b45 e (Ne.symm h1)),A9.kept (b45 j (Ne.symm h2)),?_,?_,?_,l.ok,l.mx,l.deep,?_,?_,?_,?_,?_,?_⟩
 .have Y:fZ (cJ w2 e (qA b) r d bl) (λx=>S x\/kJ wr w2 i x) (pV u0) F (kJ wr w2 i) (ptr b):=by
   refine c.root.step (λx a Z=>?_) λx a=>?_
   .have:=c.sub x a;rw[mZ _ _ _ _ _ _ _ this.2.2.2.1];exact y x this.2.1 Z
   rcases a with a|⟨a,_⟩
   .exact .inl a
   exact .inr λO=>by have:=(c.sub x O).2.1;omega
  refine(Y.trans l.hole).kept λx a _=>?_
  have:=w x a;rw[b45 x this.2.2.1];exact q.block x (by omega)
 .refine l.at_.kept λx a _=>?_
  have:=w x (.inr (P x a));rw[b45 x this.2.2.1];exact q.block x (by omega)
 .intro x a;have:=w x a;exact⟨this.1,by omega,this.2.2⟩
 .intro s;have:=l.less s;have:=c.fuel m;omega
 .rw[c.tree,z]
 .rw[c.err,z]
 .intro s A;have:=c.more m A;rw[z] at this;rw[<-l.more s];exact this
 .intro s A;have:=c.more m A;rw[z,s,tT] at this;refine .inr ⟨b,t1,A2,A3,rfl,?_,R.trans B,(l.last s).trans this⟩;have:=w b (.inr J);omega
 have Q:bO v w0 w2:=c.wrote.trans C λx a=>(c.sub x (c.root.1 x a)).1
 have h3:bO v w0 (cJ w2 e (qA b) r d bl):=Q.cJ e p2 _ _ _ _;exact(h3.kU q).cJ f p1 _ _ _ _
def BJ(w:World)(S:Nat->Prop)(u:Option Addr)(T:Nd)(E:Nat)(V:yL)(e:Ending)(w':World):Prop:=
 (∃S',At w' T S' (pV u)/\∀x,S' x->S x\/w.heap.size<=x)/\bO S w w'/\
  ((E=0/\∃ul rl dl bl,e=rV (tV #[cz (pV ul) (ae rl) dl bl,iV .i64 0])/\sM w' w'.heap.size ul rl V)\/
   (E≠0/\e=rV (tV #[cz (pV none) ⟨#[]⟩ 0 false,iV .i64 (E:Int)])))
def KZ(M:Nat->Prop)(w)(m:Nat)(z:Option Addr)(u t S)(G:yB->Option yB)(key:yB)(hk:key.size<=40)(hA:At w t S (pV u))(hK:aA t 0)(N:fF w m z u) (hG:j5 M w z G) (hs:∀k t,G k=some t->t.size<=maxLen) (TB:aB w) (C2:∀x,S x->3<=x/\x≠m/\¬M x) (hM:∀x,M x->x<w.heap.size):yC 76 #[pV (qA m),sV key] w (BJ w S u (dc G 81 t (ch key.data.toList) 0 false).1 (dc G 81 t (ch key.data.toList) 0 false).2 (aM (dc G 81 t (ch key.data.toList) 0 false).1 (ch key.data.toList))):=by
 have t1:w.cell? ⟨m,1,none⟩=some (pV u):=by rw[Ur w m 1 _ _ _ N];rfl
 have F8:m<w.heap.size:=(Um.1 N).1;have HS:yH (∀W:World,yC 79 #[pV u,sV key] W λe w'=>e=rV (cz (pV u) (ae (ch key.data.toList)) 0 false)/\yW W w'):=λW=>vJ u key (by omega) W
 have HA:=aa hA.cut;have HK:=aa hK;have D9:=aa N;have HG:yH (j5 M w z G/\∀k t,G k=some t->t.size<=maxLen):=⟨hG,hs⟩
 have D8:=aa TB;have Z:=aa C2;have HM:=aa hM;have HL:yH ((ch key.data.toList).length<=80):=by show _<=80;rw[py];have:key.data.toList.length=key.size:=(by simp);omega
 have HN:yH (aw (ch key.data.toList)):=xx _;obtain⟨T,O⟩:=yX ((dc G 81 t (ch key.data.toList) 0 false).1);obtain⟨E,A3⟩:=yX ((dc G 81 t (ch key.data.toList) 0 false).2);obtain⟨V,P⟩:=yX (aM (dc G 81 t (ch key.data.toList) 0 false).1 (ch key.data.toList));rw[<-O,<-A3];rw[<-O] at P;rw[<-P];have A0:=aa O;have D5:=aa A3;have B3:=aa P;clear N hk hA hK hG hs TB C2 hM O A3 P;generalize ch key.data.toList=K0 at*;unfold cz at*;go_enter func76,ntmps76
 go_wp2_with fail
 refine(HS.o _).mono ?_;rintro e w1⟨rfl,Q⟩;obtain⟨⟨c0,c1,c2,c3⟩,⟨f0,f1,f2,f3⟩,C6⟩:=Cq Q;have G4:w.heap.size<w1.heap.size:=by have:=Q.size;simp at this;omega
 have C9:db w1 w.heap.size none ⟨#[]⟩ 0 false:=(Q.block _ (by simp)).trans (UG _ _);have D3:=aa C6;have D6:=aa C9;clear Q C6 C9 c0 c1 c2 c3 f0 f1 f2 f3 t1;go_wp2;go_loopg [8] 81 (λg ee wr=>∃H l C n U r d bl A y F D,xR G w (λx=>S x/\x<w.heap.size) w1.heap.size (w1.heap.size+1) w.heap.size u T E V g wr H l C n U r d bl A y F D)
 .have F7:∀{W:World},yW w W->At W t (λx=>S x/\x<w.heap.size) (pV u):=λhW=>HA.o.below hW
  have C5:=(D3.o.alloc (o:=.cells #[pV u,sV (ae K0),i6 0,bV false] 127) (by omega)).alloc (o:=.cells #[pV u,sV (ae K0),i6 0,bV false] 127) (by simp;omega);refine⟨λx=>x,t,_,_,u,K0,0,false,u,K0,0,false,⟨?_,?_,?_,fZ.refl _ _ _,F7 C5,λx i=>⟨.inl i,by simp;omega,by omega,by omega,by omega⟩,HK.o,HN.o,by have:=HL.o;omega,λ_=>by have:=HL.o;omega,A0.o,D5.o,λ_ _=>?_,λh _=>.inl ?_,bO.iP C5⟩⟩
  .unfold db;rw[U6 _ _ _ (by simp)];exact UG _ _
  .exact xO _ _ _ (by simp)
  .unfold db;rw[U6 _ _ _ (by simp;omega),U6 _ _ _ G4];exact D6.o
  .rw[B3.o,A0.o]
  subst h;have h1:Value.pointer u=pV none:=HA.o;cases h1;refine⟨rfl,?_⟩;rw[B3.o,A0.o,tT];rfl
 obtain⟨H,l,C,n,U,r,d,bl,A,y,F,D,f⟩:=hrel;have j:=aa f;by_cases hs:l.some
 .obtain⟨b,D1,D2,hu,G3,B⟩:=f.at_.ai hs;cases hu;have A7:l≠.nil:=λe=>by rw[e] at hs;exact hs
  obtain⟨J,C7⟩:∃J,gk=J+1:=⟨gk - 1,by have:=f.fuel A7;omega⟩
  have A8:∀x,x<w.heap.size->¬S x->wr.heap[x]? =w.heap[x]? :=λx i hn=>f.wrote.block x i λh=>hn h.1
  have C4:fF wr m z u:=D9.o.kept (A8 m F8 λh=>(Z.o m h).2.1 rfl);have C0:j5 M wr z G:=λW h h32 hW=>HG.o.1 W h h32 λx i=>(hW x i).trans (A8 x (HM.o x i) λh=>(Z.o x h).2.2 i)
  have C3:aB wr:=D8.o.nL f.wrote λx i=>(Z.o x i.1).1
  have L:=aa (Ev M wr m b z u G l n d bl C4 f.at_ f.ok C0 HG.o.2 (by have:=f.deep;omega) C3);obtain⟨a0,a1,a2,a3⟩:=f.here.cells;have A5:=f.here.lt;have A6:=f.last.lt;have F9:w1.heap.size≠w.heap.size:=by omega
  have G0:w1.heap.size+1≠w.heap.size:=by omega
  have B2:=aa A7;have X:=aa C7;clear C4 C0 C3 A8 A7 C7 B G3;cases hR:dG G l d bl with
  |error c=>
   rw[hR] at L;have hc:=vX hR;have G7:((c:Int) != 0)=true:=by simp;omega
   have hO:dc G gk l r d bl=(l,c):=by rw[X.o];show lG l _ (dG G l d bl)=_;rw[hR];rfl
   have I:yH (T=H l/\E=c):=⟨by rw[f.tree,hO],by rw[f.err,hO]⟩
   have HC:yH (c≠0):=by show c≠0;omega
   obtain⟨r0,r1,r2,r3⟩:=f.res.cells;obtain⟨B4,B5,B6,B7⟩:=f.res.free;have s:=f.res.lt;clear f hR hO hc;go_wp2_with fail
   apply L.m;rintro e w2⟨rfl,q⟩;have G5:=q.size;have s0:=(q.cell (p:=⟨w.heap.size,0,none⟩) s).trans r0;have s1:=(q.cell (p:=⟨w.heap.size,1,none⟩) s).trans r1;have s2:=(q.cell (p:=⟨w.heap.size,2,none⟩) s).trans r2;have s3:=(q.cell (p:=⟨w.heap.size,3,none⟩) s).trans r3;have q0:=(q.frozen (p:=⟨w.heap.size,0,none⟩) s).trans B4;have q1:=(q.frozen (p:=⟨w.heap.size,1,none⟩) s).trans B5;have q2:=(q.frozen (p:=⟨w.heap.size,2,none⟩) s).trans B6;have q3:=(q.frozen (p:=⟨w.heap.size,3,none⟩) s).trans B7;have B0:=aa q;clear q;go_wp2_with fail
   refine UB (v:=tV #[cz (pV none) ⟨#[]⟩ 0 false,i6 (c:Int)]) (by simp[results,results76,go_sem,cz,s0,s1,s2,s3]) rfl ?_;show BJ w S u T E V _ (cJ w2 w.heap.size none [] 0 false);refine⟨⟨C,?_,λx i=>(j.o.sub x i).1.imp (λh=>h.1) id⟩,((j.o.wrote.mono λx i=>i.1).kU B0.o).cJ w.heap.size (Ug _) _ _ _ _,.inr ⟨by rw[I.o.2];exact HC.o,by rw[I.o.2]⟩⟩;rw[I.o.1];exact((j.o.root.fill j.o.at_).below B0.o).kept λx i _=>mZ _ _ _ _ _ _ _ (j.o.sub x i).2.2.2.2
  |ok t1=>
   rw[hR] at L;have Y:=aa hR;obtain⟨b0,b1,b2,b3⟩:=f.last.cells;obtain⟨E9,F1,F3,F5⟩:=f.last.free;have C8:∀x,(x=w1.heap.size\/x=w1.heap.size+1)->¬n x:=λx i hS=>by
    have:=f.sub x (f.root.1 x hS);omega
   have B1:=aa C8;clear f hR C8;go_wp2_with fail
   apply L.m;rintro e w2⟨rfl,B8,K⟩;have G5:=K.size;have k1:w2.heap[w1.heap.size]? =wr.heap[w1.heap.size]? :=K.block _ A5 (B1.o _ (.inl rfl));have k2:w2.heap[w1.heap.size+1]? =wr.heap[w1.heap.size+1]? :=K.block _ A6 (B1.o _ (.inr rfl));have E1:=(Uz (a:=⟨w1.heap.size,0,none⟩) k1).trans a0;have E2:=(Uz (a:=⟨w1.heap.size,1,none⟩) k1).trans a1;have E3:=(Uz (a:=⟨w1.heap.size,2,none⟩) k1).trans a2;have E4:=(Uz (a:=⟨w1.heap.size,3,none⟩) k1).trans a3;have E5:=(Uz (a:=⟨w1.heap.size+1,0,none⟩) k2).trans b0;have E6:=(Uz (a:=⟨w1.heap.size+1,1,none⟩) k2).trans b1;have E7:=(Uz (a:=⟨w1.heap.size+1,2,none⟩) k2).trans b2;have E8:=(Uz (a:=⟨w1.heap.size+1,3,none⟩) k2).trans b3;obtain⟨F0,F2,F4,F6⟩:=(j.o.last.kept k2).free;have A9:=aa B8;have E0:=aa K;clear B8 K k1 k2 a0 a1 a2 a3 b0 b1 b2 b3 E9 F1 F3 F5;go_wp2_with fail
   have C1:yC 112 #[gV #[pV (qA b),sV (ae r),i6 (d:Int),bV bl]] (cJ w2 (w1.heap.size+1) (qA b) r d bl) (JX (cJ w2 (w1.heap.size+1) (qA b) r d bl) (kJ wr w2 n) b t1 r d):=
    PC _ (kJ wr w2 n) t1 b r d bl (Ds j.o A9.o) (nf j.o.ok Y.o).1 j.o.mx j.o.deep (Ez j.o.ok Y.o B2.o)
   apply C1.mono;rintro e w4⟨G6,k,uk,r',d',A1,S',rfl,hN,B9⟩;have A4:=j.o;rw[X.o] at A4;obtain⟨R,D0⟩:=LX A4 B2.o (by omega) F9 G0 (by omega) (by omega) Y.o A9.o E0.o hN B9;have D7:=aa D0;obtain⟨x0,x1,x2,x3⟩:=R.cells;obtain⟨y0,y1,y2,y3⟩:=R.free;have G8:=R.lt;unfold cz;clear hN B9 D0 R C1 A4 E1 E2 E3 E4 E5 E6 E7 E8 F0 F2 F4 F6 A5 A6;go_wp2;go_roundg J
   .exact⟨_,k,_,S',uk,r',d',A1,some ⟨b,0,none⟩,r,d,bl,D7.o⟩
   have:=X.o;omega
 have G2:l=.nil:=by cases l<;>first|rfl|exact absurd trivial hs
 subst G2;have hu:=f.at_;cases hu;obtain⟨r0,r1,r2,r3⟩:=f.res.cells;obtain⟨B4,B5,B6,B7⟩:=f.res.free;obtain⟨a0,a1,a2,a3⟩:=f.here.cells;obtain⟨b0,b1,b2,b3⟩:=f.last.cells;have A5:=f.here.lt;have A6:=f.last.lt;have A2:E=0:=by rw[f.err,tT]
 have I:yH (T=H .nil):=by show _=_;rw[f.tree,tT]
 have D4:=aa A2;have HD:yH (sM wr wr.heap.size A y V):=f.done rfl A2;clear f A2;go_wp2_with fail
 refine UB (v:=tV #[cz (pV A) (ae y) F D,i6 0]) (by simp[results,results76,go_sem,cz,r0,r1,r2,r3]) rfl ?_;show BJ w S u T E V _ (cJ wr w.heap.size A y F D);refine⟨⟨C,?_,λx i=>(j.o.sub x i).1.imp (λh=>h.1) id⟩,(j.o.wrote.mono λx i=>i.1).cJ w.heap.size (Ug _) _ _ _ _,.inl ⟨D4.o,A,y,F,D,rfl,?_⟩⟩
 .rw[I.o];exact(j.o.root.fill j.o.at_).kept λx i _=>mZ _ _ _ _ _ _ _ (j.o.sub x i).2.2.2.2
 rcases HD.o with h|⟨b,t,D1,D2,h1,h2,h3,h4⟩
 .exact .inl h
 refine .inr ⟨b,t,D1,D2,h1,by rw[tG];exact h2,?_,h4⟩;have G1:b≠w.heap.size:=λe=>by
  have h5:=j.o.res;unfold db at h5;unfold bU at h3;rw[e,h5] at h3;cases h3
 exact(mZ _ _ _ _ _ _ _ G1).trans h3
structure eX(w:World)(tb:Nat)(st:Option Addr)(S:Nat->Prop)(t:Nd):Prop where
 at_:∃u,fF w tb st u/\At w t S (pV u)
 ok:aA t 0
 own:∀x,S x->3<=x/\x≠tb/\x<w.heap.size
structure lX(M:Nat->Prop)(w:World)(st:Option Addr)(G:yB->Option yB)(S:Nat->Prop):Prop where
 rZ:j5 M w st G
 small:∀k t,G k=some t->t.size<=maxLen
 lt:∀x,M x->x<w.heap.size
 apart:∀x,S x->¬M x
 bz:aB w
def gF(w:World)(a:Nat)(b:Option Addr)(S:Nat->Prop)(t:Nd)(w':World):Prop:=
 (∃S',eX w' a b S' t/\∀x,S' x->S x\/w.heap.size<=x)/\bO (λx=>S x\/x=a) w w'
def aG(G:yB->Option yB)(t:Nd)(key:yB):Nd×Nat:=dc G 81 t (aD key) 0 false
def jk(G:yB->Option yB)(t key)(h:aA t 0):aA (aG G t key).1 0:=(wG G 81 t (aD key) 0 false h (b8 key)).ok
def kA(G:yB->Option yB)(t)(key:yB)(h:aA t 0)(a:key.size<=40)(h0:(aG G t key).2=0):dD (aG G t key).1 (aD key):=
 OZ G 81 t (aD key) 0 false h (b8 key) (by rw[g6];omega) h0
def gF.below{w w1 w2 b c S t}(h:gF w b c S t w1)(a:yW w1 w2):gF w b c S t w2:=by
 let⟨⟨S',⟨⟨u,h1,h2⟩,h3,h4⟩,h5⟩,h6⟩:=h;exact⟨⟨S',⟨⟨u,h1.kept (a.block b h1.lt),h2.below a⟩,h3,λx d=>by have:=h4 x d;have:=a.size;exact⟨by omega,by omega,by omega⟩⟩,h5⟩,h6.kU a⟩
def tg{M w b f S t G}(j:eX w b f S t)(c:lX M w f G S)(key:yB)(k:key.size<=40):yC 76 #[pV (qA b),sV key] w λe w'=>gF w b f S (aG G t key).1 w'/\(∃g d i bl,e=rV (tV #[cz (pV g) (ae d) i bl,i6 ((aG G t key).2:Int)])/\((aG G t key).2=0->sM w' w'.heap.size g d (aM (aG G t key).1 (aD key)))):=by
 let⟨⟨u,h1,h2⟩,h3,h4⟩:=j;refine(KZ M w b f u t S G key k h2 h3 h1 c.rZ c.small c.bz (λx a=>⟨(h4 x a).1,(h4 x a).2.1,c.apart x a⟩) c.lt).mono ?_;rintro e w'⟨⟨S',q1,q2⟩,q3,q4⟩;have l:w'.heap[b]? =w.heap[b]? :=q3.block b h1.lt λh=>(h4 b h).2.1 rfl
 refine⟨⟨⟨λx=>S' x/\x<w'.heap.size,⟨⟨u,h1.kept l,q1.cut⟩,jk G t key h3,λx a=>?_⟩,λx a=>q2 x a.1⟩,q3.mono λx a=>.inl a⟩,?_⟩
 .have h0:=c.bz.size;rcases q2 x a.1 with h|h
  .exact⟨(h4 x h).1,(h4 x h).2.1,a.2⟩
  have:=h1.lt;exact⟨by omega,by omega,a.2⟩
 rcases q4 with⟨e0,g,d,i,bl,e1,e2⟩|⟨e0,e1⟩
 .exact⟨g,d,i,bl,by rw[e1];unfold aG aD at*;rw[e0];rfl,λ_=>e2⟩
 exact⟨none,[],0,false,e1,λh=>absurd h e0⟩
def eX.now{w w' b a S t}(h:eX w b a S t)(c:yW w w'):gF w b a S t w':=
 gF.below ⟨⟨S,h,λ_ hx=>.inl hx⟩,bO.refl _ _⟩ c
def tk{w d a V}(f:sM w w.heap.size d a V)(c:Nat)(bl:Bool)(W)(g:yW w W):yC 77 #[cz (pV d) (ae a) c bl] W λe w'=>e=rV (sV (ae V))/\yW W w':=by
 rcases f with⟨rfl,rfl⟩|⟨b,t,i,j,rfl,h,B,rfl⟩
 .exact Lc _ _ _ _
 exact Lf b t i j a c bl W ((g.block b h).trans B)
def bE(G:yB->Option yB)(t:Nd)(key:yB):Nd:=if 40<key.size then t else(aG G t key).1
def jn(G:yB->Option yB)(t:Nd)(key:yB):yB:=if 40<key.size then⟨#[]⟩ else if(aG G t key).2=0 then ae (aM (aG G t key).1 (aD key)) else⟨#[]⟩
def cK(G:yB->Option yB)(t:Nd)(key:yB):Nat:=if 40<key.size then 1 else(aG G t key).2
def Ka{M w b c S t G}(k:eX w b c S t)(n:lX M w c G S)(key:yB)(A:key.size<=maxLen):yC 36 #[pV (qA b),sV key] w λe w'=>e=rV (tV #[sV (jn G t key),i6 (cK G t key:Int)])/\gF w b c S (bE G t key) w':=by
 unfold maxLen at A;by_cases a:40<key.size
 .have i:yH (jn G t key=⟨#[]⟩/\cK G t key=1/\bE G t key=t):=by unfold jn cK bE;rw[Uj a,Uj a,Uj a];exact⟨rfl,rfl,rfl⟩
  have v:yH (eX w b c S t):=k;have z:(40:Int)<(key.size:Int):=by omega
  clear k n a;generalize jn G t key=V at*;generalize cK G t key=E at*;generalize bE G t key=T at*;go_enter func36,ntmps36
  go_wp2;go_ret2;obtain⟨h1,h2,h3⟩:=i.o;rw[h1,h2,h3];exact⟨rfl,v.o.now (Un _ _)⟩
 have r:key.size<=40:=by omega
 have p:=tg k n key r;have i:yH (cK G t key=(aG G t key).2/\bE G t key=(aG G t key).1/\jn G t key=if(aG G t key).2=0 then ae (aM (aG G t key).1 (aD key)) else⟨#[]⟩):=by unfold jn cK bE;rw[Ui a,Ui a,Ui a];exact⟨rfl,rfl,rfl⟩
 have o:yH (yC 76 #[pV (qA b),sV key] w λe w'=>gF w b c S (aG G t key).1 w'/\(∃(h:Option Addr)(g:yL)(d:Nat)(bl:Bool),e=rV (tV #[gV #[pV h,sV (ae g),i6 (d:Int),bV bl],i6 ((aG G t key).2:Int)])/\((aG G t key).2=0->sM w' w'.heap.size h g (aM (aG G t key).1 (aD key))))):=p;have z:decide ((40:Int)<(key.size:Int))=false:=by simp;omega
 clear k n a r p;generalize jn G t key=V at*;generalize cK G t key=E at*;generalize bE G t key=T at*;generalize aM (aG G t key).1 (aD key)=F at*;generalize (aG G t key).1=T1 at*;generalize (aG G t key).2=l at*;by_cases h0:l=0
 .subst h0;go_enter func36,ntmps36
  go_wp2_with fail
  apply o.m;rintro e w1⟨f,h,g,d,bl,rfl,j⟩;have m:yH (gF w b c S T1 w1):=f;have x:yH (∀W,yW w1 W->yC 77 #[gV #[pV h,sV (ae g),i6 (d:Int),bV bl]] W λe w'=>e=rV (sV (ae F))/\yW W w'):=λW y=>tk (j (by first|trivial|rfl)) d bl W y
  clear f j;go_wp2_with fail
  refine(x.o _ ((Un _ _).alloc (Ug _) _)).mono ?_;rintro e w2⟨rfl,q⟩;have s:yH (yW w1 w2):=((Un w1.heap.size w1).alloc (Ug _) _).trans (q.mono (by simp));clear q;go_wp2;go_ret2;obtain⟨h1,h2,h3⟩:=i.o;rw[h1,h2,h3];exact⟨rfl,m.o.below s.o⟩
 have B:((l:Int) != 0)=true:=by simp;omega
 have u:yH (E=l/\T=T1/\V=⟨#[]⟩):=by
  obtain⟨h1,h2,h3⟩:=i.o;rw[Ui h0] at h3;exact⟨h1,h2,h3⟩
 clear h0;go_enter func36,ntmps36
 go_wp2_with fail
 apply o.m;rintro e w1⟨f,h,g,d,bl,rfl,j⟩;have m:yH (gF w b c S T1 w1):=f;clear f j;go_wp2;go_ret2;obtain⟨h1,h2,h3⟩:=u.o;rw[h1,h2,h3];exact⟨rfl,m.o.below ((Un _ _).alloc (Ug _) _)⟩
def gM(t:Nd):t.isNil=false↔t.some:=by cases t<;>simp[Nd.isNil,Nd.some]
def xi(v)(ks:Nat->Nd):∀n,2<=dj v ks n->∃i,i<n/\(ks i).some
 | 0,h=>by simp only[dj] at h;split at h<;>omega
 |n+1,h=>by
  by_cases e:(ks n).isNil=true
  .simp only[dj,e,U5,Nat.add_zero] at h
   let⟨i,h1,h2⟩:=xi v ks n h
   exact⟨i,by omega,h2⟩
  exact⟨n,by omega,(gM _).1 (by cases h:(ks n).isNil with|true=>exact absurd h e|false=>rfl)⟩
def pj(v)(ks:Nat->Nd)(i:Nat)(h:(ks i).some):∀n,i<n->dj v ks n=dj v (aJ ks i .nil) n+1
 | 0,hi=>by omega
 |n+1,hi=>by
  simp only[dj]
  by_cases e:i=n
  .subst e
   have h1:∀m,m<=i->dj v ks m=dj v (aJ ks i .nil) m:=λm=>by
    induction m with
    |zero=>intro _;rfl
    |succ m ih=>intro a;simp only[dj,ih (by omega),e9 ks i .nil m (by omega)]
   rw[h1 i (Ug _),dK,(gM _).2 h];rfl
  rw[pj v ks i h n (by omega),e9 ks i .nil n (by omega)];omega
def GI(v)(ks:Nat->Nd)(h:v≠[]):∀n,1<=dj v ks n
 | 0=>by simp only[dj];rw[Ui h];exact Ug _
 |n+1=>by have:=GI v ks h n;simp only[dj];omega
def QQ(v)(ks:Nat->Nd)(i n:Nat)(h:(ks i).some)(hi:i<n):1<=dj v ks n:=by rw[pj v ks i h n hi];omega
def QP(v)(ks:Nat->Nd)(i j:Nat)(hi:i<16)(a:j<16)(b:i≠j)(h1:(ks i).some)(h2:(ks j).some):2<=dj v ks 16:=by
 rw[pj v ks i h1 16 hi];have:=QQ v (aJ ks i .nil) j 16 (by rwa[e9 _ _ _ _ (Ne.symm b)]) a;omega
def GM(v)(ks:Nat->Nd)(i:Nat)(hi:i<16)(h1:(ks i).some)(a:v≠[]):2<=dj v ks 16:=by
 rw[pj v ks i h1 16 hi];have:=GI v (aJ ks i .nil) a 16;omega
def xD:∀(t:Nd) (dep:Nat),t.some->sW t->pO dep t->dep<=80:=by
 intro t;induction t with
 |nil=>intro dep h;exact h.elim
 |unread h=>intro dep _ _ a;exact a
 |leaf h p v=>intro dep _ _ a;have:dep+p.length<=80:=a;omega
 |ext h p k _=>intro dep _ _ a;have:=a.1;omega
 |branch h v ks ih=>intro dep _ b a;let⟨i,hi,hs⟩:=xi v ks 16 b.1;have:=ih i (dep+1) hs (b.2 i hi) (a i hi);omega
structure iW(t:Nd)(dep:Nat):Prop where
 bB:mP t
 full:sW t
 deep:pO dep t
def DY(dep:Nat):iW .nil dep:=⟨trivial,trivial,trivial⟩
def tE{p v:yL}{dep}(b:v≠[])(a:dep+p.length<=80):iW (dw p v) dep:=⟨b,trivial,a⟩
def vO{p}{k:Nd}{dep}(c:p≠[])(b:k.fY)(a:iW k (dep+p.length)):iW (gm p k) dep:=
 ⟨⟨c,b,a.bB⟩,a.full,⟨xD k _ (oq b) a.full a.deep,a.deep⟩⟩
def vP{ks v dep}(h2:2<=dj v ks 16)(a:∀i,i<16->iW (ks i) (dep+1)):iW (dN ks v) dep:=
 ⟨λi hi=>(a i hi).bB,⟨h2,λi hi=>(a i hi).full⟩,λi hi=>(a i hi).deep⟩
def yT{p:yL}{t:Nd}{dep}(hs:t.some)(a:iW t (dep+p.length)):iW (aX p t) dep:=by
 by_cases b:p=[]
 .subst b;rwa[mG]
 cases t with
 |nil=>exact hs.elim
 |leaf h q v=>simp only[aX,Ui b];exact tE a.bB (by have:dep+p.length+q.length<=80:=a.deep;rw[Uq];omega)
 |ext h q k=>simp only[aX,Ui b];refine vO (λe=>b (List.append_eq_nil_iff.1 e).1) a.bB.2.1 ⟨a.bB.2.2,a.full,?_⟩;have:=a.deep.2;rw[Uq,<-Nat.add_assoc];exact this
 |unread h=>simp only[aX,Ui b];exact vO b trivial a
 |branch h v ks=>simp only[aX,Ui b];exact vO b trivial a
def yS{n:Nd}{dep s}(hk:n.kind=1\/n.kind=2)(hs:s<n.path.length)(hS:iW n dep):iW (gJ n (n.path.drop (s+1))) (dep+s+1)/\(gJ n (n.path.drop (s+1))).some:=by
 cases n with
 |nil=>rcases hk with h|h<;>cases h
 |unread _=>rcases hk with h|h<;>cases h
 |branch _ _ _=>rcases hk with h|h<;>cases h
 |leaf h q v=>have A0:s<q.length:=hs;exact⟨tE hS.bB (by have:dep+q.length<=80:=hS.deep;show dep+s+1+(q.drop (s+1)).length<=80;rw[Uu];omega),trivial⟩
 |ext h q k=>
  have A0:s<q.length:=hs;refine⟨yT (oq hS.bB.2.1) ⟨hS.bB.2.2,hS.full,?_⟩,qu _ _ (oq hS.bB.2.1)⟩;have e:dep+s+1+(q.drop (s+1)).length=dep+q.length:=by rw[Uu];omega
  show pO (dep+s+1+(q.drop (s+1)).length) k;rw[e];exact hS.deep.2
def DX{n:Nd}{p v dep}(a:n.kind=1\/n.kind=2)(j:aw n.path)(g:aw p)(b:iW n dep)(z:dep+p.length<=80)(l:v≠[])(x:n.kind=1->n.value≠[])(d:n.kind=2->aF n.path p≠n.path.length)(t:n.path≠p):iW (gi n p v (aF n.path p)) dep:=by
 let⟨s,hs⟩:=yX (aF n.path p);have f:=iN n.path p;have r:s<n.path.length->s<p.length->n.path.getD s 0≠p.getD s 0:=λh1 h2=>by rw[hs] at h1 h2⊢;exact yQ _ _ h1 h2
 have y:¬(s=n.path.length/\s=p.length):=λh=>t (yR n.path p (by rw[<-hs];exact h.1) (by rw[<-hs];exact h.2))
 rw[<-hs] at f d⊢;unfold gi;have w:dep+(p.take s).length=dep+s:=by rw[UN];omega
 refine yT trivial ?_;rw[w];have k:∀i,iW (dX n s i) (dep+s+1):=λi=>by
  unfold dX;by_cases h:s<n.path.length
  .rw[Uj h];unfold aJ;split
   .exact(yS a h b).1
   exact DY _
  rw[Ui h];exact DY _
 have u:∀i,iW (dF n p v s i) (dep+s+1):=λi=>by
  unfold dF;by_cases h:s<p.length
  .rw[Uj h];unfold aJ;split
   .exact tE l (by rw[Uu];omega)
   exact k i
  rw[Ui h];exact k i
 refine vP ?_ λi _=>u i
 by_cases h2:s<p.length
 .have m:(dF n p v s (p.getD s 0).toNat).some:=by unfold dF;rw[Uj h2,dK];trivial
  by_cases h1:s<n.path.length
  .have o:=r h1 h2;have c:(n.path.getD s 0).toNat≠(p.getD s 0).toNat:=λe=>o (UInt8.toNat_inj.1 e)
   refine QP _ _ (n.path.getD s 0).toNat (p.getD s 0).toNat (kB j s) (kB g s) c ?_ m;unfold dF;rw[Uj h2,e9 _ _ _ _ c];unfold dX;rw[Uj h1,dK];exact(yS a h1 b).2
  have q:n.kind=1:=a.resolve_right λh=>d h (by omega)
  refine GM _ _ (p.getD s 0).toNat (kB g s) m ?_;unfold fy;rw[Uj h2,Ui h1];exact x q
 have h1:s<n.path.length:=by have:=f.1;omega
 refine GM _ _ (n.path.getD s 0).toNat (kB j s) ?_ ?_
 .unfold dF;rw[Ui h2];unfold dX;rw[Uj h1,dK];exact(yS a h1 b).2
 unfold fy;rwa[Ui h2]
def KR(t p v)(h:dD t p):(bR t p v).some:=by
 cases t with
 |nil=>trivial
 |unread _=>exact h.elim
 |leaf h q x=>
  simp only[bR];split
  .trivial
  exact qu _ _ trivial
 |ext h q k=>
  simp only[bR];split
  .trivial
  exact qu _ _ trivial
 |branch h x ks=>cases p<;>trivial
def GL(v)(ks:Nat->Nd)(c:Nat)(k:Nd)(h:k.some):∀n,dj v ks n<=dj v (aJ ks c k) n
 | 0=>Ug _
 |n+1=>by
  have:=GL v ks c k h n
  simp only[dj]
  by_cases e:n=c
  .subst e;rw[dK,(gM _).2 h];simp only[Bool.false_eq_true,UT];split<;>omega
  rw[e9 _ _ _ _ e];omega
def GJ(v a)(ks:Nat->Nd)(h:a≠[]):∀n,dj v ks n<=dj a ks n
 | 0=>by simp only[dj];rw[Ui h];split<;>omega
 |n+1=>by have:=GJ v a ks h n;simp only[dj];omega
def My:∀(t) (p v) (dep:Nat),aO t->iW t dep->dD t p->aw p->dep+p.length<=80->v≠[]->iW (bR t p v) dep:=by
 intro t;induction t with
 |nil=>intro p v dep _ _ _ _ d b;exact tE b d
 |unread h=>intro p v dep _ _ f;exact f.elim
 |leaf h q x=>
  intro p v dep j a _ g d b;simp only[bR];by_cases e:q=p
  .rw[Uj e];exact tE b d
  rw[Ui e];exact DX (n:=.leaf h q x) (.inl rfl) j.2.1 g a d b (λ_=>a.bB) (λh=>by cases h) e
 |ext h q k ih=>
  intro p v dep j a f g d b;simp only[bR];by_cases e:aF q p=q.length
  .rw[Uj e];have u:=(iN q p).2;exact vO a.bB.1 (yl a.bB.2.1 (f e)) (ih _ v _ j.2.2.2.2 ⟨a.bB.2.2,a.full,a.deep.2⟩ (f e) (da g _) (by rw[Uu];omega) b)
  rw[Ui e];refine DX (n:=.ext h q k) (.inr rfl) j.2.1 g a d b (λh=>by cases h) (λ_=>e) λe1=>e ?_
  have:=tC q [];rw[UU] at this;have e2:=e1;rw[<-e2];exact this
 |branch h x ks ih=>
  intro p v dep j a f g d b;have l:∀i,i<16->iW (ks i) (dep+1):=λi hi=>⟨a.bB i hi,a.full.2 i hi,a.deep i hi⟩
  cases p with
  |nil=>exact vP (Ut a.full.1 (GJ _ _ _ b 16)) l
  |cons c r=>
   have m:=g c (Uk ..);have o:=ih c.toNat r v (dep+1) (j.2.2 _ m) (l _ m) f (λy s=>g y (Ul _ s)) (by simp at d;omega) b;have h2:=GL x ks c.toNat (bR (ks c.toNat) r v) (KR (ks c.toNat) r v f) 16;have h3:=a.full.1;refine vP (ks:=aJ ks c.toNat (bR (ks c.toNat) r v)) (v:=x) (Ut h3 h2) λi hi=>?_
   by_cases e:i=c.toNat
   .subst e;rwa[dK]
   rw[e9 _ _ _ _ e];exact l i hi
def yj{t p v dep}(a:aA t dep)(b:dD t p)(c:aw p)(d:dep+p.length<=80)(e:v≠[])(f:v.length<=160):aA (bR t p v) dep:=by
 have:=My t p v dep a.aK ⟨a.bB,a.full,a.deep⟩ b c d e;exact⟨this.bB,this.full,this.deep,uF a.aK b c (by omega) f⟩
def cW:Nd->Prop
 | .nil=>True
 | .unread _=>True
 | .leaf h p v=>h=fX (Nd.leaf h p v).code
 | .ext h p k=>h=fX (Nd.ext h p k).code/\cW k
 | .branch h v ks=>h=fX (Nd.branch h v ks).code/\∀i,i<16->cW (ks i)
def bK:Nd->Prop
 | .ext _ _ k=>cW k
 | .branch _ _ ks=>∀i,i<16->cW (ks i)
 | _=>True
def cW.loose{t}(h:cW t):bK t:=by
 cases t with
 |ext _ _ _=>exact h.2
 |branch _ _ _=>exact h.2
 | _=>trivial
def CU{t}(a:bK t)(h:t.read->t.hash=fX t.code):cW t:=by
 cases t with
 |nil=>trivial
 |unread _=>trivial
 |leaf _ _ _=>exact h trivial
 |ext _ _ _=>exact⟨h trivial,a⟩
 |branch _ _ _=>exact⟨h trivial,a⟩
def cW.named{t}(h:cW t)(a:t.read):t.hash=fX t.code:=by
 cases t with
 |nil=>exact a.elim
 |unread _=>exact a.elim
 |leaf _ _ _=>exact h
 |ext _ _ _=>exact h.1
 |branch _ _ _=>exact h.1
def q9(p v):cW (dw p v):=rfl
def tq{p k}(h:cW k):cW (gm p k):=⟨rfl,h⟩
def vH{ks v}(h:∀i,i<16->cW (ks i)):cW (dN ks v):=⟨rfl,h⟩
def vG{p t}(h:cW t):cW (aX p t):=by
 by_cases a:p=[]
 .subst a;rwa[mG]
 cases t with
 |nil=>simp only[aX,Ui a];exact tq trivial
 |leaf _ _ _=>simp only[aX,Ui a];exact q9 _ _
 |ext _ _ _=>simp only[aX,Ui a];exact tq h.2
 |unread _=>simp only[aX,Ui a];exact tq trivial
 |branch _ _ _=>simp only[aX,Ui a];exact tq h
def CT{n:Nd}{p v s}(b:n.kind=1\/n.kind=2)(h:bK n):cW (gi n p v s):=by
 have c:∀q,cW (gJ n q):=λq=>by
  cases n with
  |leaf _ _ _=>exact q9 _ _
  |ext _ _ _=>exact vG h
  | _=>rcases b with h|h<;>cases h
 have a:∀i,cW (dX n s i):=λi=>by
  unfold dX;split
  .unfold aJ;split
   .exact c _
   trivial
  trivial
 refine vG (vH λi _=>?_);unfold dF;split
 .unfold aJ;split
  .exact q9 _ _
  exact a i
 exact a i
def yv:∀{t p v},bK t->dD t p->cW (bR t p v):=by
 intro t;induction t with
 |nil=>intro p v _ _;exact q9 _ _
 |unread _=>intro p v _ h;exact h.elim
 |leaf h q x=>
  intro p v a _;simp only[bR];split
  .exact q9 _ _
  exact CT (.inl rfl) a
 |ext h q k ih=>
  intro p v a b;simp only[bR];split
  .next e=>exact tq (ih a.loose (b e))
  exact CT (.inr rfl) a
 |branch h x ks ih=>
  intro p v a b;cases p with
  |nil=>exact vH a
  |cons c r=>
   have d:=a;refine vH λi hi=>?_
   unfold aJ;split
   .next e=>subst e;exact ih _ (d _ hi).loose b
   exact d i hi
def QG(a:Tree->Nat->Bool->Option Nd)(H:sH a)(i:∀x dep bl n,bN 6 x=true->a x dep bl=some n->bK n)(x:Tree)(dep:Nat)(bl:Bool)(k)(h:jC a x dep bl=some k):cW k:=by
 let⟨h1,h2,_⟩:=xf a H x dep bl k h;by_cases g:∃t,x=ak t
 .obtain⟨t,rfl⟩:=g;rw[xe] at h;split at h
  .cases h;trivial
  split at h
  .cases h
  cases h;trivial
 rw[xg a x dep bl (λt e=>g ⟨t,e⟩)] at h;split at h
 .cases h
 next hb=>
 have h0:ff x=0:=Va λh=>hb (.inl h)
 have c:bN 6 x=true:=by
  unfold ff at h0;by_cases b:bN 6 x=true
  .exact b
  rw[Ui b] at h0;cases h0
 have d:=(H x dep bl k c h).2.1;refine CU (i x dep bl k c h) λf=>?_
 have j:js k:=by
  have:=h2.aK;cases k with
  |nil=>exact f.elim
  |unread _=>exact f.elim
  |leaf _ _ _=>exact this.1
  |ext _ _ _=>exact this.1
  |branch _ _ _=>exact this.1
 have:=j.short d.hash;unfold fX;rw[Ui (by omega),d.hash]
def Ps:∀(d:Nat) (x:Tree) (dep:Nat) (bl:Bool) (n),bN 6 x=true->a6 d x dep bl=some n->bK n:=by
 intro d;induction d with
 |zero=>intro x dep bl n _ h;cases h
 |succ d ih=>
  intro x dep bl n e h;have b:=QG (a6 d) (wK d) ih;cases x with
  |slice ks es=>
   have c:a6 (d+1) (.slice ks es) dep bl=if ks.length=2/\bl=false then jy (a6 d) (ks.getD 0 (ak [])) (ks.getD 1 (ak [])) dep else if ks.length=17 then iI (a6 d) ks dep else none:=rfl;rw[c] at h;split at h
   .unfold jy at h;split at h
    .split at h
     .cases h
     split at h
     .split at h
      .split at h
       .cases h
       cases h;trivial
      cases h
     split at h
     .next k a=>
      split at h
      .cases h
      cases h;exact b _ _ _ k a
     cases h
    cases h
   split at h
   .unfold iI at h;split at h
    .split at h
     .cases h
     split at h
     .next hc=>
      cases h;intro i hi;let⟨k,a⟩:=xd (a6 d) ks dep 16 hc.1 i hi;simp only[a,Option.getD_some];exact b _ _ _ k a
     cases h
    cases h
   cases h
  | _=>cases h
def Qd(h){t}(a:bK t):bK (t.gY h):=by cases t<;>exact a
def Nv{h t dep bl n}(hr:gS h t dep bl=.ok n):bK n/\(0<dep->cW n):=by
 let⟨_,A1,hh,hc,ht,_⟩:=oT hr;unfold gS at hr;rw[Ui (λh=>h ht)] at hr;by_cases h2:0<dep/\t.length<32
 .rw[Uj h2] at hr;cases hr
 rw[Ui h2] at hr;cases hd:dC t with
 |error c=>rw[hd] at hr;cases hr
 |ok x=>
  rw[hd] at hr;let⟨_,hf,_⟩:=Br t x hd;have A0:CY h (a6 6 x dep bl)=.ok n:=hr;cases hn:a6 6 x dep bl with
  |none=>rw[hn] at A0;cases A0
  |some m=>rw[hn] at A0;cases A0;have hl:=Qd h (Ps 6 x dep bl m hf hn);refine⟨hl,λhd=>CU hl λ_=>?_⟩;rw[hh,hc];unfold fX;rw[Uj (by omega),ht]
def Ey{G t t1 dep bl}(h:dG G t dep bl=.ok t1):(bK t->bK t1)/\(0<dep->cW t->cW t1):=by
 cases t with
 |unread h0=>
  have h':iC G h0 dep bl=.ok t1:=h;unfold iC at h';split at h'
  .cases h'
  let⟨h1,h2⟩:=Nv h';exact⟨λ_=>h1,λhd _=>h2 hd⟩
 | _=>cases h;exact⟨id,λ_=>id⟩
def OX(G:yB->Option yB):∀(f:Nat) (t) (p) (dep:Nat) (bl:Bool),aA t dep->aw p->(bK t->bK (dc G f t p dep bl).1)/\(0<dep->cW t->cW (dc G f t p dep bl).1):=by
 intro f;induction f with
 |zero=>intro t p dep bl _ _;exact⟨id,λ_=>id⟩
 |succ f ih=>
  intro t p dep bl hK hp;show(bK t->bK (lG t _ (dG G t dep bl)).1)/\(0<dep->cW t->cW (lG t _ (dG G t dep bl)).1);cases hr:dG G t dep bl with
  |error c=>exact⟨id,λ_=>id⟩
  |ok t1=>
   let⟨h1,_⟩:=nf hK hr;let⟨hl,ht⟩:=Ey hr;suffices hs:(bK t1->bK (gj (dc G f) t1 p dep).1)/\(0<dep->cW t1->cW (gj (dc G f) t1 p dep).1) from⟨λh=>hs.1 (hl h),λhd h=>hs.2 hd (ht hd h)⟩
   cases t1 with
   |nil=>exact⟨id,λ_=>id⟩
   |unread _=>exact⟨id,λ_=>id⟩
   |leaf _ _ _=>exact⟨id,λ_=>id⟩
   |ext h q k=>
    simp only[gj];by_cases e:aF q p=q.length
    .rw[Uj e];have hq:=Vt.2 h1.bB.1;have hi:=(ih k (p.drop q.length) (dep+q.length) true (fq h1) (da hp _)).2 (by omega);have ho:=wG G f k (p.drop q.length) (dep+q.length) true (fq h1) (da hp _);refine⟨λhl=>hi hl,λ_ ht=>⟨?_,hi ht.2⟩⟩;unfold Nd.code;rw[Az h q k _ ho.ref];exact ht.1
    rw[Ui e];exact⟨id,λ_=>id⟩
   |branch h v ks=>
    cases p with
    |nil=>exact⟨id,λ_=>id⟩
    |cons c r=>
     have hc:=hp c (Uk ..);have A1:aw r:=λy hy=>hp y (Ul _ hy)
     have hi:=(ih (ks c.toNat) r (dep+1) false (dA h1 _ hc) A1).2 (by omega);have ho:=wG G f (ks c.toNat) r (dep+1) false (dA h1 _ hc) A1;have A0:(∀i,i<16->cW (ks i))->∀i,i<16->cW (aJ ks c.toNat (dc G f (ks c.toNat) r (dep+1) false).1 i):=λhl i A2=>by
      by_cases e:i=c.toNat
      .subst e;rw[dK];exact hi (hl _ hc)
      rw[e9 _ _ _ _ e];exact hl i A2
     refine⟨λhl=>A0 hl,λ_ ht=>⟨?_,A0 ht.2⟩⟩;unfold Nd.code;rw[AA h v ks _ _ ho.ref];exact ht.1
def cH(G:yB->Option yB)(t:Nd)(key value:yB):Nat:=if 40<key.size\/160<value.size then 1 else if value.size=0 then 4 else(aG G t key).2
def fR(G:yB->Option yB)(t:Nd)(key value:yB):Nd:=if 40<key.size\/160<value.size then t else if value.size=0 then t else(aG G t key).1
def jx(G:yB->Option yB)(t:Nd)(key value:yB):Nd:=bR (aG G t key).1 (aD key) value.data.toList
def uY(w:World)(a:Nat)(b:Option Addr)(S:Nat->Prop)(t:Nd)(n:Nd)(u:Option Addr)(w':World):Prop:=
 ∃S' w1,eX w1 a b S' t/\(∀x,S' x->S x\/w.heap.size<=x)/\bO (λx=>S x\/x=a) w w1/\At w' n (λx=>S' x\/w1.heap.size<=x) (pV u)/\yW w1 w'
def aB.mU{w tb st u}(h:aB w)(hT:fF w tb st u):3<=tb:=by
 have h0:=h.words 0 (by omega);have h1:=h.turns 0 (by omega);have h2:=h.ud 0 (by omega);have c:=hT.c0;refine Nat.le_of_not_lt λA0=>?_
 match tb,A0 with
 | 0,_=>rw[c] at h0;cases h0
 | 1,_=>rw[c] at h1;cases h1
 | 2,_=>rw[c] at h2;cases h2
def ED{M w c d S t G}(f:eX w c d S t)(i:lX M w d G S)(key value:yB)(v:key.size<=maxLen)(y:value.size<=maxLen)(h:cH G t key value≠0):yC 75 #[pV (qA c),sV key,sV value] w λe w'=>e=rV (tV #[pV none,i6 (cH G t key value:Int)])/\gF w c d S (fR G t key value) w':=by
 unfold maxLen at v y;by_cases b:40<key.size\/160<value.size
 .have a:yH (cH G t key value=1/\fR G t key value=t):=by unfold cH fR;rw[Uj b,Uj b];exact⟨rfl,rfl⟩
  have g:yH (eX w c d S t):=f;clear f i h;generalize cH G t key value=E at*;generalize fR G t key value=T at*;by_cases j:40<key.size
  .have p:(40:Int)<(key.size:Int):=by omega
   clear j b;go_enter func75,ntmps75
   go_wp2;go_ret2;rw[a.o.1,a.o.2];exact⟨rfl,g.o.now (Un _ _)⟩
  have p:¬(40:Int)<(key.size:Int):=by omega
  have x:(160:Int)<(value.size:Int):=by omega
  clear j b;go_enter func75,ntmps75
  go_wp2;go_ret2;rw[a.o.1,a.o.2];exact⟨rfl,g.o.now (Un _ _)⟩
 have j:key.size<=40:=by omega
 have A:value.size<=160:=by omega
 have p:decide ((40:Int)<(key.size:Int))=false:=by simp;omega
 have x:decide ((160:Int)<(value.size:Int))=false:=by simp;omega
 by_cases h0:value.size=0
 .have a:yH (cH G t key value=4/\fR G t key value=t):=by unfold cH fR;rw[Ui b,Ui b,Uj h0,Uj h0];exact⟨rfl,rfl⟩
  have g:yH (eX w c d S t):=f;have u:value.toList.isEmpty=true:=by rw[g7];exact h0
  clear f i h b;generalize cH G t key value=E at*;generalize fR G t key value=T at*;go_enter func75,ntmps75
  go_wp2;go_ret2;rw[a.o.1,a.o.2];exact⟨rfl,g.o.now (Un _ _)⟩
 have a:yH (cH G t key value=(aG G t key).2/\fR G t key value=(aG G t key).1):=by unfold cH fR;rw[Ui b,Ui b,Ui h0,Ui h0];exact⟨rfl,rfl⟩
 have u:value.toList.isEmpty=false:=by rw[iv];omega
 have m:=tg f i key j;have r:yH (yC 76 #[pV (qA c),sV key] w λe w'=>gF w c d S (aG G t key).1 w'/\(∃(l:Option Addr)(k:yL)(n:Nat)(bl:Bool),e=rV (tV #[gV #[pV l,sV (ae k),i6 (n:Int),bV bl],i6 ((aG G t key).2:Int)])/\((aG G t key).2=0->sM w' w'.heap.size l k (aM (aG G t key).1 (aD key))))):=m;rw[a.o.1] at h;have z:(((aG G t key).2:Int) != 0)=true:=by simp;omega
 clear f i h b m h0;generalize cH G t key value=E at*;generalize fR G t key value=T at*;generalize aM (aG G t key).1 (aD key)=F at*;generalize (aG G t key).1=T1 at*;generalize (aG G t key).2=E1 at*;go_enter func75,ntmps75
 go_wp2_with fail
 apply r.m;rintro e w1⟨o,l,k,n,bl,rfl,s⟩;have q:yH (gF w c d S T1 w1):=o;clear o s;go_wp2;go_ret2;rw[a.o.1,a.o.2];exact⟨rfl,q.o.below ((Un _ _).alloc (Ug _) _)⟩
def EC{M w a i S t G}(c:eX w a i S t)(l:lX M w i G S)(key value:yB)(B:key.size<=40)(H:value.size<=160)(X:0<value.size)(q:(aG G t key).2=0):yC 75 #[.pointer (qA a),.string key,.string value] w λe w'=>∃u',e=.returned (.tuple #[.pointer u',.int .i64 0])/\uY w a i S (aG G t key).1 (jx G t key value) u' w':=by
 have o:=tg c l key B;rw[q] at o;have N:yH (yC 76 #[.pointer (qA a),.string key] w λe w'=>gF w a i S (aG G t key).1 w'/\(∃(j:Option Addr)(g:yL)(d:Nat)(bl:Bool),e=.returned (.tuple #[.agg #[.pointer j,.string (ae g),.int .i64 (d:Int),.bool bl],.int .i64 0]))):=
  o.mono λe w'⟨h1,j,g,d,bl,h2,_⟩=>⟨h1,j,g,d,bl,h2⟩
 have K:yH (∀W:World,yC 110 #[.string key] W λe w'=>e=.returned (.string (ae (aD key)))/\yW W w'):=λW=>ES key (by omega) W
 have O:yH (∀(w1:World) (S':Nat->Prop) (u1:Option Addr),At w1 (aG G t key).1 S' (.pointer u1)->aB w1->∀W,yW w1 W->yC 109 #[.pointer u1,.string (ae (aD key)),.string value] W (Made w1 S' (jx G t key value))):=λw1 S' u1 k T W y=>by
  have:=KQ (aG G t key).1 W S' u1 (aD key) value.data.toList (k.below y) (jk G t key c.ok).aK (kA G t key c.ok B q) (b8 key) (by rw[g6];omega) (by simpa using H) (T.below y);rw[gA] at this;exact this.mono λe w' h=>h.after y
 have L:yH (∀w1,bO (λx=>S x\/x=a) w w1->aB w1):=λw1 h=>l.bz.nL h λx f=>by
  rcases f with f|f
  .exact(c.own x f).1
  rw[f];obtain⟨u,h1,_⟩:=c.at_;exact l.bz.mU h1
 have Z:decide ((40:Int)<(key.size:Int))=false:=by simp;omega
 have A0:decide ((160:Int)<(value.size:Int))=false:=by simp;omega
 have Y:value.toList.isEmpty=false:=by rw[iv];omega
 clear c l B H q o X;generalize jx G t key value=R at*;generalize (aG G t key).1=T1 at*;generalize ae (aD key)=P at*;go_enter func75,ntmps75
 go_wp2_with fail
 apply N.m;rintro e w0⟨U,j,g,d,bl,rfl⟩;obtain⟨⟨S',s,F⟩,v⟩:=U;obtain⟨u,r,k⟩:=s.at_;have Q:=aa (O.o w0 S' u k (L.o w0 v));have n:yH (eX w0 a i S' T1/\(∀x,S' x->S x\/w.heap.size<=x)/\bO (λx=>S x\/x=a) w w0):=⟨s,F,v⟩
 have d1:=r.c1;have E:=r.lt;clear s F v r k;go_wp2_with fail
 obtain⟨b,m⟩:=yX (w0.alloc (.cells #[.pointer j,.string (ae g),.int .i64 (d:Int),.bool bl] 127));have z:yW w0 b:=by rw[m];exact(Un _ _).alloc (Ug _) _
 have c1:b.cell? ⟨a,1,none⟩=some (.pointer u):=by rw[m,World.cell?_alloc_lt _ _ _ E];exact d1
 have V:=Us E z.size;have C:=aa z;rw[<-m];clear m z d1;go_region_with (first| (go_at_call 110;refine(K.o _).mono ?_;rintro e2 w2⟨rfl,A⟩;have c2:w2.cell? ⟨a,1,none⟩=some (.pointer u):=(A.cell (p:=⟨a,1,none⟩) V).trans c1;have I:yH (yW w0 w2):=C.o.drew.trans (A.mono C.o.size);clear A) | (go_at_call 109;refine(Q.o _ I.o).mono ?_;rintro e3 w3⟨u3,rfl,D⟩;have J:yH _:=D;clear D))
 all_goals
  go_wp2;go_ret2;exact⟨u3,rfl,S',w0,n.o.1,n.o.2.1,n.o.2.2,J.o⟩
def tK{G t key value}(h:cH G t key value=0):key.size<=40/\value.size<=160/\0<value.size/\(aG G t key).2=0/\fR G t key value=(aG G t key).1:=by
 unfold cH at h;by_cases h1:40<key.size\/160<value.size
 .rw[Uj h1] at h;cases h
 rw[Ui h1] at h;by_cases h2:value.size=0
 .rw[Uj h2] at h;cases h
 rw[Ui h2] at h;refine⟨by omega,by omega,by omega,h,?_⟩;unfold fR;rw[Ui h1,Ui h2]
def ry{G t key value}(a:aA t 0)(h:cH G t key value=0):aA (jx G t key value) 0:=by
 let⟨h1,h2,h3,h4,_⟩:=tK h;have b:value.data.toList.length=value.size:=by simp
 exact yj (jk G t key a) (kA G t key a h1 h4) (b8 key) (by rw[g6];omega) (λe=>by rw[e] at b;simp at b;omega) (by omega)
def b6(G:yB->Option yB)(t:Nd)(key value:yB):Nd:=if cH G t key value=0 then jx G t key value else fR G t key value
def uY.set{w c l S t n u w'}(h:uY w c l S t n u w')(d:aA n 0)(h3:3<=w.heap.size):gF w c l S n (w'.setCell ⟨c,1,none⟩ (pV u)):=by
 let⟨S',w1,g,p,j,m,i⟩:=h;let⟨u0,q1,q2⟩:=g.at_;have r:=j.size;have s:=i.size;have q:=q1.lt;have f:∀x,(S' x\/w1.heap.size<=x)->3<=x/\x≠c:=λx a=>by
  rcases a with a|a
  .exact⟨(g.own x a).1,(g.own x a).2.1⟩
  exact⟨by omega,by omega⟩
 refine⟨⟨λx=>(S' x\/w1.heap.size<=x)/\x<w'.heap.size,⟨⟨u,(q1.kept (i.block c q)).set u,m.cut.kept λx a _=>Uy _ _ _ _ (f x a.1).2⟩,d,λx a=>⟨(f x a.1).1,(f x a.1).2,by simpa using a.2⟩⟩,λx a=>a.1.elim (p x) λh=>.inr (Ut r h)⟩,?_⟩;have b:=j.kU i;exact⟨b.os,b.tape,b.output,by simpa using b.size,λk o d=>by rw[Uy _ _ _ _ (λe=>d (.inr e))];exact b.block k o d⟩
def uY.now{w b a S t n u w'}(h:uY w b a S t n u w'):gF w b a S t w':=by
 let⟨S',w1,d,f,c,_,e⟩:=h;exact gF.below ⟨⟨S',d,f⟩,c⟩ e
def BP{M w a c S t G}(f:eX w a c S t)(d:lX M w c G S)(key value:yB)(j:key.size<=maxLen)(k:value.size<=maxLen):yC 30 #[pV (qA a),sV key,sV value] w λe w'=>e=rV (i6 (cH G t key value:Int))/\gF w a c S (b6 G t key value) w':=by
 by_cases b:cH G t key value=0
 .obtain⟨h1,h2,h3,h4,h5⟩:=tK b;have i:yH (yC 75 #[pV (qA a),sV key,sV value] w λe w'=>∃u',e=rV (tV #[pV u',i6 0])/\yH (uY w a c S (aG G t key).1 (jx G t key value) u' w')):=EC f d key value h1 h2 h3 h4;have g:yH (cH G t key value=0/\b6 G t key value=jx G t key value):=⟨b,by unfold b6;rw[Uj b]⟩
  have h:=aa (ry f.ok b);have n:=d.bz.size;clear f d b h1 h2 h3 h4 h5 j k;generalize cH G t key value=E at*;generalize b6 G t key value=T at*;generalize jx G t key value=N at*;generalize (aG G t key).1=T1 at*;go_enter func30,ntmps30
  go_wp2_with fail
  apply i.m;rintro e w1⟨u1,rfl,l⟩;obtain⟨u2,d1,f1,q⟩:∃u2,yc w1 a 1 (pV u2)/\w1.frozen? ⟨a,1,none⟩=false/\a<w1.heap.size:=by
   obtain⟨⟨S',o,_⟩,_⟩:=l.o.now;obtain⟨u2,q1,_⟩:=o.at_;exact⟨u2,q1.c1,q1.free 1,q1.lt⟩
  go_wp2;go_ret;rw[g.o.1,g.o.2];exact⟨rfl,l.o.set h.o n⟩
 have i:yH (yC 75 #[pV (qA a),sV key,sV value] w λe w'=>e=rV (tV #[pV none,i6 (cH G t key value:Int)])/\gF w a c S (fR G t key value) w'):=ED f d key value j k b;have g:yH (b6 G t key value=fR G t key value):=by show _=_;unfold b6;rw[Ui b]
 have p:((cH G t key value:Int) != 0)=true:=by simp;omega
 clear f d b j k;generalize cH G t key value=E at*;generalize b6 G t key value=T at*;generalize fR G t key value=T1 at*;go_enter func30,ntmps30
 go_wp2_with fail
 apply i.m;rintro e w1⟨rfl,m⟩;have h:=aa m;clear m;go_wp2;go_ret;rw[g.o];exact⟨rfl,h.o⟩
def T5{M w b f S t G}(a:eX w b f S t)(d:lX M w f G S)(key value:yB)(k:key.size<=maxLen)(l:value.size<=maxLen):yC 131 #[pV (qA b),sV key,sV value] w λe w'=>e=rV (tV #[sV (if cH G t key value=0 then ae (bQ (jx G t key value)) else⟨#[]⟩),i6 (cH G t key value:Int)])/\gF w b f S (fR G t key value) w':=by
 have r:yH (∀w1,bO (λx=>S x\/x=b) w w1->aB w1):=λw1 h=>d.bz.nL h λx g=>by
  rcases g with g|g
  .exact(a.own x g).1
  rw[g];obtain⟨u,h1,_⟩:=a.at_;exact d.bz.mU h1
 by_cases c:cH G t key value=0
 .obtain⟨h1,h2,h3,h4,h5⟩:=tK c;have j:yH (yC 75 #[pV (qA b),sV key,sV value] w λe w'=>∃u',e=rV (tV #[pV u',i6 0])/\yH (uY w b f S (aG G t key).1 (jx G t key value) u' w')):=EC a d key value h1 h2 h3 h4;rw[Uj c,c,h5];have i:=aa (ry a.ok c);clear a d c h1 h2 h3 h4 h5 k l;generalize jx G t key value=N at*;generalize (aG G t key).1=T1 at*;go_enter func131,ntmps131
  go_wp2_with fail
  apply j.m;rintro e w1⟨u1,rfl,m⟩;have q:yH (yC 80 #[pV u1] w1 λe w'=>e=rV (sV (ae (bQ N)))/\yW w1 w'):=by
   have y:=m.o;obtain⟨S',w2,A,B,a,s,v⟩:=y;exact Em w1 N _ u1 s i.o.aK (r.o w1 (a.kU v))
  go_wp2_with fail
  apply q.m;rintro e w2⟨rfl,o⟩;have p:=aa o;clear o;go_wp2;go_ret2;exact⟨rfl,m.o.now.below p.o⟩
 have j:yH (yC 75 #[pV (qA b),sV key,sV value] w λe w'=>e=rV (tV #[pV none,i6 (cH G t key value:Int)])/\gF w b f S (fR G t key value) w'):=ED a d key value k l c;rw[Ui c];have z:((cH G t key value:Int) != 0)=true:=by simp;omega
 clear a d c k l;generalize cH G t key value=E at*;generalize fR G t key value=T1 at*;go_enter func131,ntmps131
 go_wp2_with fail
 apply j.m;rintro e w1⟨rfl,n⟩;have i:=aa n;clear n;go_wp2;go_ret2;exact⟨rfl,i.o⟩
def xK:∀a:yL,Op.bytesLess a a=false
 | []=>rfl
 |a::x=>by
  unfold Op.bytesLess
  simp[xK x]
def Jx:∀a b c:yL,Op.bytesLess a b=true->Op.bytesLess b c=true->Op.bytesLess a c=true
 | _,_,[],_,h=>by unfold Op.bytesLess at h;cases h
 | _,[],_::_,h,_=>by unfold Op.bytesLess at h;cases h
 | [],_::_,_::_,_,_=>rfl
 |a::x,b::y,c::z,h1,h2=>by
  unfold Op.bytesLess at h1 h2⊢
  simp only[Bool.or_eq_true,VJ,Vr,beq_iff_eq] at h1 h2⊢
  rcases h1 with h1|⟨rfl,h1⟩
  .rcases h2 with h2|⟨rfl,_⟩
   .exact .inl (UInt8.lt_trans h1 h2)
   exact .inl h1
  rcases h2 with h2|⟨rfl,h2⟩
  .exact .inl h2
  exact .inr ⟨rfl,Jx x y z h1 h2⟩
def Jy:∀a b:yL,Op.bytesLess a b=false->Op.bytesLess b a=false->a=b
 | [],[],_,_=>rfl
 | [],_::_,h,_=>by unfold Op.bytesLess at h;cases h
 | _::_,[],_,h=>by unfold Op.bytesLess at h;cases h
 |a::x,b::y,h1,h2=>by
  unfold Op.bytesLess at h1 h2
  simp only[Bool.or_eq_false_iff,decide_eq_false_iff_not] at h1 h2
  have e:=UInt8.le_antisymm (UInt8.not_lt.1 h2.1) (UInt8.not_lt.1 h1.1)
  subst e
  simp only[BEq.rfl,Bool.true_and] at h1 h2
  rw[Jy x y h1.2 h2.2]
def Ql(a):cD a a=false:=xK _
def Ah{a b c}(h1:cD a b=true)(h2:cD b c=true):cD a c=true:=Jx _ _ _ h1 h2
def qo{a b}(h:cD a b=true):(a.toList == b.toList)=false:=by
 cases e:(a.toList == b.toList) with
 |false=>rfl
 |true=>have e1:=eq_of_beq e;unfold cD at h;rw[e1,xK] at h;cases h
def rR{a b}(h:cD a b=true):(b.toList == a.toList)=false:=by
 cases e:(b.toList == a.toList) with
 |false=>rfl
 |true=>have e1:=eq_of_beq e;unfold cD at h;rw[e1,xK] at h;cases h
def Gm{a b}(h:cD a b=true):cD b a=false:=by
 cases e:cD b a with
 |false=>rfl
 |true=>have:=Ah h e;rw[Ql] at this;cases this
def eN(a:List (yB×yB)):Prop:=a.Pairwise λp q=>cD p.1 q.1=true
def eN.down{d}(h:eN d)(x):qV d x:=by
 intro i j p q g c a b;by_cases e:i=j
 .subst e;rw[c] at a;cases a;exact b
 obtain⟨hi,rfl⟩:=Ux.1 c;obtain⟨f,rfl⟩:=Ux.1 a;exact Ah (List.pairwise_iff_getElem.1 h i j hi f (by omega)) b
def zw:∀(A B) (h),(∀p∈A,cD p.1 h=true)->aZ (A++B) h=A.length+aZ B h
 | [],B,h,_=>by simp
 |p::A,B,h,ha=>by
  show(if cD p.1 h then aZ (A++B) h+1 else 0)=_
  rw[Uj (ha p (Uk ..)),zw A B h λq a=>ha q (Ul _ a)]
  simp;omega
def zv:∀(A B) (h),(∀p∈B,cD p.1 h=false)->aZ (A++B) h=aZ A h
 | [],[],h,_=>rfl
 | [],p::B,h,hb=>by
  show aZ (p::B) h=0
  unfold aZ
  rw[hb p (Uk ..)];rfl
 |p::A,B,h,hb=>by
  show aZ (p::(A++B)) h=aZ (p::A) h
  unfold aZ
  rw[zv A B h hb]
def oV:∀(A) (h:yB),(∀p∈A,(p.1.toList == h.toList)=false)->others A h=A:=λA h a=>by
 unfold others
 rw[List.filter_eq_self]
 intro p b
 rw[a p b];rfl
def Qs(A S B h t)(d:∀p∈A,cD p.1 h=true)(e:∀p∈B,cD h p.1=true):fp (A++S++B) h t=A++fp S h t++B:=by
 have e1:others (A++S++B) h=A++others S h++B:=by
  have b:=oV A h λp a=>qo (d p a)
  have c:=oV B h λp a=>rR (e p a)
  unfold others at b c⊢;rw[VO,VO,b,c]
 have e2:aZ (A++others S h++B) h=A.length+aZ (others S h) h:=by
  rw[zv _ B h λp a=>Gm (e p a),zw A _ h d]
 have f:=tO (others S h) h;unfold fp;rw[e1,e2];generalize aZ (others S h) h=k at*;generalize others S h=O at*;rw[UI A O B,List.take_length_add_append,List.drop_length_add_append,List.take_append_of_le_length f,List.drop_append_of_le_length f];simp
def OT(A S B h)(d:∀p∈A,cD p.1 h=true)(e:∀p∈B,cD h p.1=true):others (A++S++B) h=A++others S h++B:=by
 have b:=oV A h λp a=>qo (d p a)
 have c:=oV B h λp a=>rR (e p a)
 unfold others at b c⊢;rw[VO,VO,b,c]
def p9:∀(S:List (yB×yB)) (h) (p:yB×yB),p∈S.take (aZ S h)->cD p.1 h=true
 | [],h,p,a=>by simp at a
 |q::S,h,p,a=>by
  rw[show aZ (q::S) h=if cD q.1 h then aZ S h+1 else 0 from rfl] at a
  cases e:cD q.1 h with
  |false=>rw[e] at a;simp at a
  |true=>
   rw[e,Uj rfl,List.take_succ_cons] at a
   rcases UC.1 a with rfl|a
   .exact e
   exact p9 S h p a
def EK:∀(S:List (yB×yB)) (h) (p:yB×yB),S[aZ S h]? =some p->cD p.1 h=false
 | [],h,p,hp=>by simp at hp
 |q::S,h,p,hp=>by
  rw[show aZ (q::S) h=if cD q.1 h then aZ S h+1 else 0 from rfl] at hp
  cases e:cD q.1 h with
  |false=>rw[e] at hp;simp at hp;rwa[<-hp]
  |true=>
   rw[e,Uj rfl,List.getElem?_cons_succ] at hp
   exact EK S h p hp
def eN.after{S}(r:eN S){k q p}(d:S[k]? =some q)(c:p∈S.drop (k+1)):cD q.1 p.1=true:=by
 obtain⟨b,rfl⟩:=Ux.1 d;obtain⟨j,a,rfl⟩:=List.mem_iff_getElem.1 c;rw[List.getElem_drop];rw[Uu] at a;exact List.pairwise_iff_getElem.1 r k (k+1+j) b (by omega) (by omega)
def eN.high{S}(r:eN S){h}(c:ew S h=false){p}(b:p∈S.drop (aZ S h)):cD h p.1=true:=by
 rcases Nat.lt_or_ge (aZ S h) S.length with a|a
 .have d:S[aZ S h]? =some (S[aZ S h]'a):=Uh a;have h1:=EK S h _ d;have h2:((S[aZ S h]'a).1.toList == h.toList)=false:=by unfold ew at c;rwa[d] at c
  have h3:cD h (S[aZ S h]'a).1=true:=by
   cases e:cD h (S[aZ S h]'a).1 with
   |true=>rfl
   |false=>have:=Jy _ _ h1 e;rw[this] at h2;simp at h2
  rw[UZ a] at b;rcases UC.1 b with rfl|b
  .exact h3
  exact Ah h3 (r.after d b)
 rw[List.drop_eq_nil_of_le a] at b;cases b
def eN.Hg{S}(r:eN S){h}(a:ew S h=true){p}(b:p∈S.drop (aZ S h+1)):cD h p.1=true:=by
 let⟨q,c,e⟩:=uw a;have:=r.after c b;unfold cD at this⊢;rw[<-eq_of_beq e];exact this
def AF{S h}(b:ew S h=true):∃q,S=S.take (aZ S h)++[q]++S.drop (aZ S h+1)/\S[aZ S h]? =some q/\(q.1.toList == h.toList)=true:=by
 let⟨q,a,e⟩:=uw b;obtain⟨c,rfl⟩:=Ux.1 a;refine⟨_,?_,a,e⟩;rw[UI,List.singleton_append,<-UZ c,VB]
def eN.Fi{S}(r:eN S){h}(f:ew S h=true):others S h=S.take (aZ S h)++S.drop (aZ S h+1):=by
 let⟨q,g,_,e⟩:=AF f;have b:=oV (S.take (aZ S h)) h λp a=>qo (p9 S h p a)
 have c:=oV (S.drop (aZ S h+1)) h λp a=>rR (r.Hg f a)
 have d:others [q] h=[]:=by unfold others;simp[eq_of_beq e]
 have:others S h=others (S.take (aZ S h)++[q]++S.drop (aZ S h+1)) h:=by rw[<-g]
 rw[this];unfold others at b c d⊢;rw[VO,VO,b,c,d,UU]
def eN.zD{S}(r:eN S){h}(b:ew S h=false):others S h=S:=oV S h λp a=>by
 rw[<-VB (aZ S h) S] at a
 rcases UA.1 a with a|a
 .exact qo (p9 S h p a)
 exact rR (r.high b a)
def eN.Ec{S}(r:eN S)(h t):kh S h t=fp S h t:=by
 cases hh:ew S h with
 |false=>unfold kh fp;rw[r.zD hh,hh];rfl
 |true=>
  let⟨q,e,d,_⟩:=AF hh;have c:=(Ux.1 d).1;have a:(S.take (aZ S h)).length=aZ S h:=by rw[UN];omega
  have e2:aZ (S.take (aZ S h)++S.drop (aZ S h+1)) h=aZ S h:=by
   rw[zw _ _ h λp b=>p9 S h p b,a];have:=zv [] (S.drop (aZ S h+1)) h λp b=>Gm (r.Hg hh b)
   rw[VL] at this;rw[this];rfl
  unfold kh fp;rw[r.Fi hh,e2,hh,Uj rfl];have e3:(S.take (aZ S h)++S.drop (aZ S h+1)).take (aZ S h)=S.take (aZ S h):=List.take_left' a;have e4:(S.take (aZ S h)++S.drop (aZ S h+1)).drop (aZ S h)=S.drop (aZ S h+1):=List.drop_left' a;rw[e3,e4,List.set_eq_take_append_cons_drop,Uj c];simp
def eN.Bf{S}(r:eN S){h}(a:ew S h=true):S.eraseIdx (aZ S h)=others S h:=by
 rw[r.Fi a,List.eraseIdx_eq_take_drop_succ]
def ug:∀(A B) (h:yB),(∀p∈A,(p.1.toList == h.toList)=false)->ah (A++B) h=ah B h
 | [],_,_,_=>rfl
 |p::A,B,h,ha=>by
  show(if(p.1.toList == h.toList) then some p.2 else ah (A++B) h)=_
  rw[ha p (Uk ..)]
  exact ug A B h λq a=>ha q (Ul _ a)
def Gd(A)(h:yB)(a:∀p∈A,(p.1.toList == h.toList)=false):ah A h=none:=by
 have:=ug A [] h a;rwa[UU] at this
def Gc:∀(A B) (h t),ah A h=some t->ah (A++B) h=some t
 | [],_,_,_,e=>by cases e
 |p::A,B,h,t,e=>by
  show(if(p.1.toList == h.toList) then some p.2 else ah (A++B) h)=_
  have e':(if(p.1.toList == h.toList) then some p.2 else ah A h)=some t:=e
  cases c:(p.1.toList == h.toList) with
  |true=>rw[c] at e';exact e'
  |false=>rw[c] at e';exact Gc A B h t e'
def eN.Ad{S}(_:eN S){h}(c:ew S h=true){q}(f:S[aZ S h]? =some q):ah S h=some q.2:=by
 let⟨g,b,a,e⟩:=AF c;rw[f] at a;cases a;have:ah S h=ah (S.take (aZ S h)++([q]++S.drop (aZ S h+1))) h:=by rw[<-UI,<-b]
 rw[this,ug _ _ h λp d=>qo (p9 S h p d)];show(if(q.1.toList == h.toList) then some q.2 else _)=_;rw[e];rfl
def eN.Aa{S}(r:eN S){h}(b:ew S h=false):ah S h=none:=Gd S h λp a=>by
 rw[<-VB (aZ S h) S] at a
 rcases UA.1 a with a|a
 .exact qo (p9 S h p a)
 exact rR (r.high b a)
def Qh(A S B h)(ha:∀p∈A,cD p.1 h=true)(hb:∀p∈B,cD h p.1=true):ah (A++S++B) h=ah S h:=by
 rw[UI,ug A _ h λp hp=>qo (ha p hp)];cases e:ah S h with
 |some t=>exact Gc S B h t e
 |none=>
  have hn:∀(S:List (yB×yB)),ah S h=none->∀p∈S,(p.1.toList == h.toList)=false:=by
   intro S;induction S with
   |nil=>intro _ p hp;cases hp
   |cons q S ih=>
    intro e p hp;have e':(if(q.1.toList == h.toList) then some q.2 else ah S h)=none:=e;cases c:(q.1.toList == h.toList) with
    |true=>rw[c] at e';cases e'
    |false=>
     rw[c] at e';rcases UC.1 hp with rfl|hp
     .exact c
     exact ih e' p hp
  rw[ug S B h (hn S e)];exact Gd B h λp hp=>rR (hb p hp)
def eN.others{S}(r:eN S)(h):eN (others S h):=List.Pairwise.filter _ r
def eN.laid{S}(r:eN S)(h t):eN (fp S h t):=by
 have c:=r.others h;have i:∀p∈Go.Proofs.YteaodagofkcgbaaGreatDoor.others S h,(p.1.toList == h.toList)=false:=λp a=>by
  unfold Go.Proofs.YteaodagofkcgbaaGreatDoor.others at a;simpa using(List.mem_filter.1 a).2
 unfold fp;generalize Go.Proofs.YteaodagofkcgbaaGreatDoor.others S h=O at*;have d:ew O h=false:=by
  cases e:ew O h with
  |false=>rfl
  |true=>let⟨q,b,e2⟩:=uw e;have:=i q (UQ b);rw[e2] at this;cases this
 have g:=p9 O h;have f:=λp a=>c.high (p:=p) d a
 have rs:=c;rw[<-VB (aZ O h) O] at rs;generalize aZ O h=k at*;unfold eN at rs⊢;rw[List.pairwise_append] at rs;rw[List.pairwise_append,List.pairwise_append];refine⟨⟨rs.1,List.pairwise_singleton _ _,λp a q b=>?_⟩,rs.2.1,λp a q b=>?_⟩
 .simp at b;subst b;exact g p a
 rcases UA.1 a with a|a
 .exact rs.2.2 p a q b
 simp at a;subst a;exact f q b
def Gl{a b:yB}(ha:0<a.size)(hb:0<b.size)(h:(a[0]'ha).toNat<(b[0]'hb).toNat):cD a b=true:=by
 unfold cD;rw[Lib.toList_data,Lib.toList_data];let⟨⟨x⟩⟩:=a;let⟨⟨y⟩⟩:=b;cases x with
 |nil=>exact absurd ha (by decide)
 |cons u x=>
  cases y with
  |nil=>exact absurd hb (by decide)
  |cons v y=>show Op.bytesLess (u::x) (v::y)=true;have h':u<v:=UInt8.lt_iff_toNat_lt.2 h;unfold Op.bytesLess;simp[h']
structure jh(sh:Nat->List (yB×yB)):Prop where
 fB:∀c,eN (sh c)
 key:∀c p,p∈sh c->∃hs:0<p.1.size,(p.1[0]'hs).toNat=c
def lq(a:Nat->List (yB×yB))(d:Nat):Nat->List (yB×yB)
 | 0=>[]
 |n+1=>lq a d n++a (d+n)
def uS(a:Nat->List (yB×yB))(c:Nat):∀n,dg a (c+1+n)=dg a c++a c++lq a (c+1) n
 | 0=>by show dg a c++a c=_;simp[lq]
 |n+1=>by
  show dg a (c+1+n)++a (c+1+n)=_++(lq a (c+1) n++a (c+1+n))
  rw[uS a c n,UI (dg a c++a c)]
def JF{a b}:∀n,(∀d,d<n->a d=b d)->dg a n=dg b n
 | 0,_=>rfl
 |n+1,h=>by
  show dg a n++a n=dg b n++b n
  rw[JF n λd c=>h d (by omega),h n (by omega)]
def Ih{a b}(d:Nat):∀n,(∀e,d<=e->a e=b e)->lq a d n=lq b d n
 | 0,_=>rfl
 |n+1,h=>by
  show lq a d n++a (d+n)=lq b d n++b (d+n)
  rw[Ih d n h,h (d+n) (by omega)]
def JD(a:Nat->List (yB×yB))(c n:Nat)(S):dg (aP a c S) (c+1+n)=dg a c++S++lq a (c+1) n:=by
 rw[uS];have e1:dg (aP a c S) c=dg a c:=JF c λd b=>by simp[aP,Nat.ne_of_lt b]
 have e2:lq (aP a c S) (c+1) n=lq a (c+1) n:=Ih _ n λe f=>by
  have:e≠c:=by omega
  simp[aP,this]
 have e3:aP a c S c=S:=by simp[aP]
 rw[e1,e2,e3]
def Ga{a p}:∀n,p∈dg a n->∃d,d<n/\p∈a d
 | 0,h=>by cases h
 |n+1,h=>by
  rcases UA.1 h with h|h
  .let⟨d,c,b⟩:=Ga n h
   exact⟨d,by omega,b⟩
  exact⟨n,by omega,h⟩
def FY{a p}(d:Nat):∀n,p∈lq a d n->∃e,d<=e/\p∈a e
 | 0,h=>by cases h
 |n+1,h=>by
  rcases UA.1 h with h|h
  .exact FY d n h
  exact⟨d+n,by omega,h⟩
def jh.low{b}(K:jh b){h:yB}(hs:0<h.size){p}(a:p∈dg b (h[0]'hs).toNat):cD p.1 h=true:=by
 let⟨d,f,a⟩:=Ga _ a;let⟨c,e⟩:=K.key d p a;exact Gl c hs (by omega)
def jh.high{b}(K:jh b){h:yB}(hs:0<h.size){n p}(a:p∈lq b ((h[0]'hs).toNat+1) n):cD h p.1=true:=by
 let⟨d,f,a⟩:=FY _ _ a;let⟨c,e⟩:=K.key d p a;exact Gl hs c (by omega)
def AZ(h:yB)(hs:0<h.size):∃n,256=(h[0]'hs).toNat+1+n:=⟨255 - (h[0]'hs).toNat,by have:=(h[0]'hs).toNat_lt;omega⟩
def jh.Eb{a}(K:jh a)(h t:yB)(hs:0<h.size):dg (aP a (h[0]'hs).toNat (kh (a (h[0]'hs).toNat) h t)) 256=fp (dg a 256) h t:=by
 let⟨n,c⟩:=AZ h hs;rw[c,JD,uS,Qs _ _ _ _ _ (λp b=>K.low hs b) (λp b=>K.high hs b),(K.fB _).Ec]
def jh.RU{a}(K:jh a)(h:yB)(hs:0<h.size)(c:ew (a (h[0]'hs).toNat) h=true):dg (aP a (h[0]'hs).toNat ((a (h[0]'hs).toNat).eraseIdx (aZ (a (h[0]'hs).toNat) h))) 256=others (dg a 256) h:=by
 let⟨n,d⟩:=AZ h hs;rw[d,JD,uS,OT _ _ _ _ (λp b=>K.low hs b) (λp b=>K.high hs b),(K.fB _).Bf c]
def jh.wU{b}(K:jh b)(h:yB)(hs:0<h.size):ah (dg b 256) h=ah (b (h[0]'hs).toNat) h:=by
 let⟨n,c⟩:=AZ h hs;rw[c,uS,Qh _ _ _ _ (λp a=>K.low hs a) (λp a=>K.high hs a)]
def P7{S h t p}(a:p∈fp S h t):p=(h,t)\/p∈S:=by
 unfold fp at a;rcases UA.1 a with a|a
 .rcases UA.1 a with a|a
  .exact .inr (List.mem_filter.1 (List.mem_of_mem_take a)).1
  exact .inl (by simpa using a)
 exact .inr (List.mem_filter.1 (List.mem_of_mem_drop a)).1
def jh.set{b}(K:jh b)(h t:yB)(hs:0<h.size):jh (aP b (h[0]'hs).toNat (kh (b (h[0]'hs).toNat) h t)):=by
 rw[(K.fB _).Ec];refine⟨λc=>?_,λc p a=>?_⟩
 .by_cases e:c=(h[0]'hs).toNat
  .simp only[aP,e,U5];exact(K.fB _).laid h t
  simp only[aP,e,UT];exact K.fB c
 by_cases e:c=(h[0]'hs).toNat
 .simp only[aP,e,U5] at a;rcases P7 a with rfl|a
  .exact⟨hs,e.symm⟩
  let⟨d,e2⟩:=K.key _ p a;exact⟨d,e2.trans e.symm⟩
 simp only[aP,e,UT] at a;exact K.key c p a
def jh.erase{a}(K:jh a)(h:yB)(hs:0<h.size)(d:ew (a (h[0]'hs).toNat) h=true):jh (aP a (h[0]'hs).toNat ((a (h[0]'hs).toNat).eraseIdx (aZ (a (h[0]'hs).toNat) h))):=by
 rw[(K.fB _).Bf d];refine⟨λc=>?_,λc p b=>?_⟩
 .by_cases e:c=(h[0]'hs).toNat
  .simp only[aP,e,U5];exact(K.fB _).others h
  simp only[aP,e,UT];exact K.fB c
 by_cases e:c=(h[0]'hs).toNat
 .simp only[aP,e,U5] at b;let⟨f,e2⟩:=K.key _ p (List.mem_filter.1 b).1;exact⟨f,e2.trans e.symm⟩
 simp only[aP,e,UT] at b;exact K.key c p b
def cy(b:Nat)(a:Nat->Value)(k:Nat):Prop:=k=b\/∃c,c<256/\(a c).ownBlock=some k
def gG(base:Nat)(w:World)(b:Nat)(c:Nat->Value)(a:List (yB×yB)):Prop:=∃sh,bZ base w b c sh/\jh sh/\dg sh 256=a
def dP(base:Nat)(w w':World)(b:Nat)(a:Nat->Value)(d:List (yB×yB)):Prop:=
 ∃vs',gG base w' b vs' d/\(∀c,c<256->jY w (a c) (vs' c))/\aU (cy b a) w w'
def aU.weaken{T T' w w'}(h:aU T w w')(c:∀k,T k->T' k):aU T' w w':=
 ⟨h.os,h.tape,h.output,h.size,λq b a=>h.block q b λd=>a (c q d)⟩
def zY(b:Nat)(a)(c:Nat)(d:c<256)(k:Nat)(h:k=b\/(a c).ownBlock=some k):cy b a k:=h.imp id λe=>⟨c,d,e⟩
def yY(w a)(c:Nat)(b)(h:jY w (a c) b):∀d,d<256->jY w (a d) (bd a c b d):=λd _=>by
 by_cases e:d=c
 .subst e;simp only[bd,U5];exact h
 simp only[bd,e,UT];exact λg f=>.inl f
def vM(a:Nat->List (yB×yB))(c:Nat)(b:c<256):(a c).length<=(dg a 256).length:=by
 rw[BH];have:ll a c+(a c).length<=ll a 256:=Ai a (c+1) 256 (by omega);omega
def Oc(base:Nat)(w)(b:Nat)(f a)(S:gG base w b f a)(h:yB)(j:a.length<4000000000000):yC 118 #[pV (qA b),sV h] w λe w'=>e=rV (tV #[sV (pz a h),i6 (kG a h)])/\∃n,w'=w.drewN n:=by
 by_cases h32:h.size=32
 .obtain⟨c,P,K,rfl⟩:=S;have hs:0<h.size:=by omega
  have g:(h[0]'hs).toNat<256:=(h[0]'hs).toNat_lt;refine(OH base w b f c P h h32 hs ((K.fB _).down h) (Nat.lt_of_le_of_lt (vM c _ g) j)).mono ?_;rintro e w'⟨i,l⟩;refine⟨?_,l⟩;rcases i with⟨d,rfl⟩|⟨d,p,k,rfl⟩
  .let⟨e1,e2⟩:=Hz (dg c 256) h h32 ((K.wU h hs).trans ((K.fB _).Aa d));rw[e1,e2]
  let⟨e1,e2⟩:=Hy (dg c 256) h p.2 h32 ((K.wU h hs).trans ((K.fB _).Ad d k));rw[e1,e2]
 let⟨e1,e2⟩:=Ia a h h32;rw[e1,e2];exact(OG w b h h32).mono λe w'⟨h1,h2⟩=>⟨h1,0,h2⟩
def NV(base:Nat)(w)(b:Nat)(d a)(S:gG base w b d a)(h:yB)(l:a.length<4000000000000):yC 40 #[pV (qA b),sV h] w λe w'=>e=rV (i6 (kG a h))/\((kG a h≠0/\∃n,w'=w.drewN n)\/(kG a h=0/\dP base w w' b d (others a h))):=by
 by_cases h32:h.size=32
 .obtain⟨f,P,K,rfl⟩:=S;have hs:0<h.size:=by omega
  have j:(h[0]'hs).toNat<256:=(h[0]'hs).toNat_lt;refine(OB base w b d f P h h32 hs ((K.fB _).down h) (Nat.lt_of_le_of_lt (vM f _ j) l)).mono ?_;rintro e w' (⟨c,rfl,i⟩|⟨c,rfl,⟨r,m,q⟩,i⟩)
  .let⟨_,e2⟩:=Hz (dg f 256) h h32 ((K.wU h hs).trans ((K.fB _).Aa c));rw[e2];exact⟨rfl,.inl ⟨by decide,i⟩⟩
  let⟨p,o,_⟩:=uw c;let⟨_,e2⟩:=Hy (dg f 256) h p.2 h32 ((K.wU h hs).trans ((K.fB _).Ad c o));rw[e2];exact⟨rfl,.inr ⟨rfl,_,⟨_,m,K.erase h hs c,K.RU h hs c⟩,yY w d _ r (λg k=>.inl (q▸k)),i.weaken (zY b d _ j)⟩⟩
 let⟨_,e2⟩:=Ia a h h32;rw[e2];exact(OA w b h h32).mono λe w'⟨h1,h2⟩=>⟨h1,.inl ⟨by decide,0,h2⟩⟩
def NW(base:Nat)(w)(b:Nat)(a c)(S:gG base w b a c)(h t:yB)(k:c.length<4000000000000)(i:base<=w.heap.size):yC 41 #[pV (qA b),sV h,sV t] w λe w'=>
  (h.size≠32/\e=rV (i6 2)/\w'=w)\/(h.size=32/\4096<t.size/\e=rV (i6 1)/\w'=w)\/(h.size=32/\t.size<=4096/\e=rV (i6 0)/\dP base w w' b a (fp c h t)):=by
 by_cases h32:h.size=32
 .by_cases f:4096<t.size
  .exact(OC w b h t h32 f).mono λe w'⟨h1,h2⟩=>.inr (.inl ⟨h32,f,h1,h2⟩)
  obtain⟨g,P,K,rfl⟩:=S;have hs:0<h.size:=by omega
  have d:(h[0]'hs).toNat<256:=(h[0]'hs).toNat_lt;refine(OE base w b a g P h t h32 hs (by omega) ((K.fB _).down h) (Nat.lt_of_le_of_lt (vM g _ d) k) i).mono ?_;rintro e w'⟨j,⟨o,l,m⟩,n⟩;exact .inr (.inr ⟨h32,by omega,j,_,⟨_,l,K.set h t hs,K.Eb h t hs⟩,yY w a _ o m,n.weaken (zY b a _ d)⟩)
 exact(OD w b h t h32).mono λe w'⟨h1,h2⟩=>.inl ⟨h32,h1,h2⟩
def NT(base:Nat)(w)(b:Nat)(a c)(S:gG base w b a c)(T:aB w)(t:yB)(j:c.length<4000000000000)(h:base<=w.heap.size):yC 116 #[pV (qA b),sV t] w λe w'=>
  (4096<t.size/\e=rV (tV #[sV ⟨#[]⟩,i6 1])/\w'=w)\/(t.size<=4096/\e=rV (tV #[sV (ag t),i6 0])/\dP base w w' b a (fp c (ag t) t)):=by
 by_cases f:4096<t.size
 .exact(Ox w b t f).mono λe w'⟨h1,h2⟩=>.inl ⟨f,h1,h2⟩
 obtain⟨g,P,K,rfl⟩:=S;have hs:=jS t;have d:((ag t)[0]'hs).toNat<256:=((ag t)[0]'hs).toNat_lt;refine(Oy base w b a g P T t (by omega) ((K.fB _).down _) (Nat.lt_of_le_of_lt (vM g _ d) j) h).mono ?_;rintro e w'⟨i,⟨n,k,l⟩,m⟩;exact .inr ⟨by omega,i,_,⟨_,k,K.set _ t hs,K.Eb _ t hs⟩,yY w a _ n l,m.weaken (zY b a _ d)⟩
def Ob(base:Nat)(w)(b:Nat)(d a)(S:gG base w b d a)(c:a.length<4000000000000):yC 39 #[pV (qA b)] w λe w'=>(∃v,e=rV v/\w'.ownsRow w.heap.size 9 1 v a.length (jz a))/\yW w w':=by
 obtain⟨f,P,K,rfl⟩:=S;rw[BH] at c⊢;exact OF base w b d f P c
def JE:∀n,dg (λ_=>[]) n=[]
 | 0=>rfl
 |n+1=>by show dg (λ_=>[]) n++[]=[];rw[JE n];rfl
def QF:jh (λ_=>[]):=⟨λ_=>List.Pairwise.nil,λ_ _ h=>by cases h⟩
def NO(base:Nat)(w:World):gG base (w.alloc (.cells (jj λ_=>lV none 0 0) 71)) w.heap.size (λ_=>lV none 0 0) []:=
 ⟨λ_=>[],⟨UG w _,λ_ _=>U8 _ _ _ _,λ_ _ _ _ _ h _=>by simp[Value.ownBlock] at h,λ_ _ _ h=>by simp[Value.ownBlock] at h⟩,QF,JE 256⟩
def tN(base:Nat)(w):yC 9 #[] w λe w'=>e=rV (pV (qA w.heap.size))/\gG base w' w.heap.size (λ_=>lV none 0 0) []/\yW w w':=
 (Oz w).mono λe w'⟨h1,h2⟩=>⟨h1,by rw[h2];exact NO base w,by rw[h2];exact(Un _ _).alloc (Ug _) _⟩
def gG.kept{base}{w w':World}{b a f}(S:gG base w b a f)(h:∀k,cy b a k->w'.heap[k]? =w.heap[k]?):gG base w' b a f:=by
 let⟨j,P,K,e⟩:=S;exact⟨j,⟨(h b (.inl rfl)).trans P.ai,λc d=>cM (P.own c d) λg i=>h g (.inr ⟨c,d,i⟩),P.sep,P.fL⟩,K,e⟩
def gG.eM{base w b a e}(S:gG base w b a e)(k:Nat)(h:cy b a k):k<w.heap.size:=by
 let⟨f,P,_,_⟩:=S;rcases h with rfl|⟨c,d,h⟩
 .exact(Um.1 P.ai).1
 exact((P.own c d).lt k h).2
def dP.refl{base w b a c}(h:gG base w b a c):dP base w w b a c:=⟨a,h,λ_ _ _ hg=>.inl hg,⟨rfl,rfl,rfl,Ug _,λ_ _ _=>rfl⟩⟩
def dP.kept{base w w' b a e}(h:dP base w w' b a e)(x:Nat)(d:x<w.heap.size)(c:¬cy b a x):w'.heap[x]? =w.heap[x]? :=by
 let⟨_,_,_,h3⟩:=h;exact h3.block x d c
def dP.size{base w w' b c a}(h:dP base w w' b c a):w.heap.size<=w'.heap.size:=by
 let⟨_,_,_,h3⟩:=h;exact h3.size
def dP.trans{base w w1 w2 b f i n l}(h1:gG base w1 b i n)(h2:∀c,c<256->jY w (f c) (i c))(h3:aU (cy b f) w w1)(k:dP base w1 w2 b i l):dP base w w2 b f l:=by
 let⟨o,k1,k2,k3⟩:=k;refine⟨o,k1,λc a g d=>?_,⟨k3.os.trans h3.os,k3.tape.trans h3.tape,k3.output.trans h3.output,Ut h3.size k3.size,λx j e=>?_⟩⟩
 .rcases k2 c a g d with h|h
  .exact h2 c a g h
  exact .inr (Ut h3.size h)
 rw[k3.block x (Us j h3.size) λm=>?_,h3.block x j e];rcases m with rfl|⟨c,a,d⟩
 .exact e (.inl rfl)
 rcases h2 c a x d with h|h
 .exact e (.inr ⟨c,a,h⟩)
 omega
def dP.below{base w w1 w2 b c a}(h:dP base w w1 b c a)(k:yW w1 w2):dP base w w2 b c a:=by
 let⟨e,h1,h2,h3⟩:=h;exact dP.trans h1 h2 h3 ⟨e,h1.kept λq d=>k.block q (h1.eM q d),λ_ _ _ hg=>.inl hg,aU.iP k⟩
def Fs{w b e f}(h2:∀c,c<256->jY w (e c) (f c)){x}(j:x<w.heap.size)(d:¬cy b e x):¬cy b f x:=λi=>by
 rcases i with rfl|⟨c,a,g⟩
 .exact d (.inl rfl)
 rcases h2 c a x g with h|h
 .exact d (.inr ⟨c,a,h⟩)
 omega
def iO(c:yL)(a:Bool):List yL:=if a=true\/32<=c.length then [c] else []
def Nd.pg:Nd->Nd
 | .ext _ _ k=>k
 | _=>.nil
def Nd.qt:Nd->Nat->Nd
 | .branch _ _ ks=>ks
 | _=>λ_=>.nil
def cf:Nd->Bool->List yL
 | .leaf h p v,top=>iO (Nd.leaf h p v).code top
 | .ext h p k,top=>cf k false++iO (Nd.ext h p k).code top
 | .branch h v ks,top=>(List.range 16).flatMap (λi=>cf (ks i) false)++iO (Nd.branch h v ks).code top
 | _,_=>[]
def aT(a:List (yB×yB))(l:List yL):List (yB×yB):=l.foldl (λa c=>fp a (ag (ae c)) (ae c)) a
def wX(c)(a b:List yL):aT c (a++b)=aT (aT c a) b:=List.foldl_append
def Al(a h t):(fp a h t).length<=a.length+1:=by
 unfold fp;have h1:=oW a h;have h2:=tO (others a h) h;simp only[Uq,UN,Uu,UJ,List.length_nil];omega
def Gs:∀(l:List yL) (a),(aT a l).length<=a.length+l.length
 | [],a=>Ug _
 |c::l,a=>by
  have h1:=Gs l (fp a (ag (ae c)) (ae c))
  have h2:=Al a (ag (ae c)) (ae c)
  show(aT _ l).length<=_
  simp only[UJ]
  omega
def FL(n:Nat):(List.range n).flatMap (λ_=>cf .nil false)=[]:=by
 induction n with
 |zero=>rfl
 |succ n ih=>rw[List.range_succ,List.flatMap_append,ih];rfl
def PM{t:Nd}(b:t.read)(a:Bool):cf t a=(cf t.pg false++(List.range 16).flatMap (λi=>cf (t.qt i) false))++iO t.code a:=by
 cases t with
 |nil=>exact b.elim
 |unread _=>exact b.elim
 |leaf h p v=>show iO _ a=([]++(List.range 16).flatMap (λ_=>cf .nil false))++_;rw[FL];rfl
 |ext h p k=>show cf k false++iO _ a=(cf k false++(List.range 16).flatMap (λ_=>cf .nil false))++_;rw[FL,UU]
 |branch h v ks=>rfl
def At.Tv{w t S p}(f:At w t S (pV p))(m:t.read):∃(b:Nat)(d:Option Addr)(U:Nat->Option Addr)(j:Nat->Prop)(c:Nat->Nat->Prop),p=some ⟨b,0,Option.none⟩/\S b/\bU w b t (pV d) (λi=>pV (U i))/\(∀x,j x->S x)/\(∀i x,i<16->c i x->S x)/\At w t.pg j (pV d)/\∀i,i<16->At w (t.qt i) (c i) (pV (U i)):=by
 cases t with
 |nil=>exact m.elim
 |unread _=>exact m.elim
 |leaf h q v=>let⟨b,e,s,B⟩:=f;have a:=e;injection a with a;exact⟨b,Option.none,λ_=>Option.none,λ_=>False,λ_ _=>False,a,s,B,λ_ h=>h.elim,λ_ _ _ h=>h.elim,rfl,λ_ _=>rfl⟩
 |ext h q k=>let⟨b,n,S',e,s,B,h1,h2⟩:=f;have a:=e;injection a with a;obtain⟨d,rfl⟩:=h2.ptr;exact⟨b,d,λ_=>Option.none,S',λ_ _=>False,a,s,B,λx g=>(h1 x g).1,λ_ _ _ h=>h.elim,h2,λ_ _=>rfl⟩
 |branch h v ks=>let⟨b,U,c,e,s,B,l⟩:=f.kids;exact⟨b,Option.none,U,λ_=>False,c,e,s,B,λ_ h=>h.elim,λi x hi g=>(l.sub i x hi g).1,rfl,λi hi=>l.at_ i hi⟩
end Go.Proofs.YteaodagofkcgbaaGreatDoor
