import Derived.Test.YtiimkkahmpmhdaaGreatDoorK
open Go.Proofs.Tryz
open Go.Proofs.Tryz renaming prog→yP
open Go.Value renaming string→sV,pointer→pV,int→iV,slice→lV,bool→bV,tuple→tV,agg→gV
open Go.Ending renaming returned→rV
namespace Go.Proofs.YtiimkkahmpmhdaaGreatDoor
open Go.RowKit
set_option maxRecDepth 100000
set_option maxHeartbeats 0
set_option linter.all false
def AR(h:yL):Option Nd->Except Nat Nd
 |none=>.error 11
 |some n=>.ok (n.gy h)
def wX(h:yL)(dep:Nat)(bl:Bool):Except Nat Tree->Except Nat Nd
 | .error _=>.error 11
 | .ok x=>AR h (aT 6 x dep bl)
def gh(h t:yL)(dep:Nat)(bl:Bool):Except Nat Nd:=
 if dS t≠h then .error 10
 else if 0<dep/\t.length<32 then .error 11
 else wX h dep bl (fL t)
def pJ(w:World)(b:Nat)(r:Except Nat Nd)(e:Ending)(w':World):Prop:=match r with
 | .error c=>e=rV (iV .i64 (c:Int))/\yW w w'
 | .ok n=>e=rV (iV .i64 0)/\At w' n (fun x=>x=b\/w.heap.size<=x) (ptr b)/\Kept b w w'
theorem Qs{w t S p}(hA:At w t S p)(hs:t.some):∃(b:Nat) (k:Option Addr) (U:Nat->Option Addr),p=ptr b/\S b/\bL w b t (pV k) (fun i=>pV (U i))/\
 ∀(w':World) (b':Nat) (h:yL),¬S b'->bL w' b' (t.gy h) (pV k) (fun i=>pV (U i))->(∀x,S x->x≠b->x<w.heap.size->w'.heap[x]? =w.heap[x]?)->At w' (t.gy h) (fun x=>x=b'\/S x) (ptr b'):=by
 cases t with
 |nil=>exact hs.elim
 |unread h0=>
  obtain⟨b,rfl,hb,B⟩:=hA
  exact⟨b,none,fun _=>none,rfl,hb,B,fun w' b' h _ B' _=>⟨b',rfl,.inl rfl,B'⟩⟩
 |leaf h0 q v=>
  obtain⟨b,rfl,hb,B⟩:=hA
  exact⟨b,none,fun _=>none,rfl,hb,B,fun w' b' h _ B' _=>⟨b',rfl,.inl rfl,B'⟩⟩
 |ext h0 q k=>
  obtain⟨b,kp,S',rfl,hb,B,A0,hk⟩:=hA
  obtain⟨u,rfl⟩:=hk.ptr
  refine⟨b,u,fun _=>none,rfl,hb,B,fun w' b' h hn B' hw=>⟨b',_,S',rfl,.inl rfl,B',fun x hx=>⟨.inr (A0 x hx).1,fun e=>hn (e▸(A0 x hx).1)⟩,hk.kept fun x hx hl=>hw x (A0 x hx).1 (A0 x hx).2 hl⟩⟩
 |branch h0 v ks=>
  obtain⟨b,A2,Ss,rfl,hb,B,A0,A1,hK⟩:=hA
  have hp:∀i,∃u,i<16->A2 i=pV u:=fun i=>by
   by_cases hi:i<16
   ·obtain⟨u,hu⟩:=(hK i hi).ptr;exact⟨u,fun _=>hu⟩
   ·exact⟨none,fun h=>absurd h hi⟩
  obtain⟨U,hU⟩:=Classical.axiomOfChoice hp
  refine⟨b,none,U,rfl,hb,?_,fun w' b' h hn B' hw=>⟨b',fun i=>pV (U i),Ss,rfl,.inl rfl,B',fun i x hi hx=>⟨.inr (A0 i x hi hx).1,fun e=>hn (e▸(A0 i x hi hx).1)⟩,A1,fun i hi=>?_⟩⟩
  ·unfold bL at B⊢
   rw[B,Dn _ _ _ _ _ _ _ hU];rfl
  ·have:=(hK i hi).kept (w':=w') fun x hx hl=>hw x (A0 i x hi hx).1 (A0 i x hi hx).2 hl
   rw[hU i hi] at this;exact this
theorem bL.free{w b t a c}(h:bL w b t a c)(o:Nat):w.frozen? ⟨b,o,none⟩=false:=by simp[World.frozen?,show w.heap[b]? =_ from h]
theorem Jv:(yP.info? 167).map (·.size)=some 21:=by kernel_rfl
theorem Ms(k:Int)(h p v b)(U:Nat->Option Addr):(eX k h p v (pV b) (fun i=>pV (U i))).all (·.oneCell')=true:=by
 refine Array.all_eq_true_iff_forall_mem.2 fun x a=>?_
 unfold eX at a;rw[List.mem_toArray,Re] at a;rcases a with a|a
 ·simp only[Rh,Si,or_false] at a;rcases a with rfl|rfl|rfl|rfl|rfl<;>rfl
 ·obtain⟨i,_,rfl⟩:=Rt.1 a;rfl
theorem No(h)(t:Nd):(t.gy h).kind=t.kind:=by cases t<;>rfl
theorem KU(h)(t:Nd):(t.gy h).path=t.path:=by cases t<;>rfl
theorem Il(h)(t:Nd):(t.gy h).value=t.value:=by cases t<;>rfl
theorem zj(h)(t:Nd)(a:t.some):(t.gy h).hash=h:=by cases t<;>first|exact a.elim|rfl
theorem BW(w h)(b:Nat)(t:yB)(dep:Nat)(bl:Bool)(B:bL w b (.unread h) cL (fun _=>cL))(J:t.size<=maxLen)(B1:dep<=4000)(T:az w):
 Calls yP 120 #[ptr b,sV t,iV .i64 (dep:Int),bV bl] w (pJ w b (gh h t.data.toList dep bl)):=by
 have c1:w.cell? ⟨b,1,none⟩=some (sV (str h)):=B.c1;have A0:=B.lt;obtain⟨R,O⟩:=yX (gh h t.data.toList dep bl)
 rw[<-O];have H:Hid (R=gh h t.data.toList dep bl):=O;have HB:Hid (bL w b (.unread h) cL (fun _=>cL)):=B;have HT:Hid (az w):=T;have L:Hid (∀W,yW w W->Calls yP 24 #[sV t] W fun e w'=>e=rV (sV (str (dS t.data.toList)))/\w'.cell? ⟨b,1,none⟩=some (sV (str h))/\Hid (yW w w')):=fun W r=>by
  have:=iE t J W (T.below r);have e1:str (dS t.data.toList)=ai t:=by
   have:=lW t.data.toList;rw[jc] at this;exact this
  rw[e1];refine this.mono ?_;rintro e w' ⟨h1,h2⟩;have X:=r.trans (h2.mono r.size);exact⟨h1,(X.cell (p:=⟨b,1,none⟩) A0).trans c1,X⟩
 clear O B T;unfold ptr;go_enter func120,ntmps120
 go_upto_region 1 with fail
 go_cut [18] (fun v wx=>v=bV (!decide (dS t.data.toList=h))/\Hid (yW w wx))
 case first=>
  go_region_with (go_at_call 24;refine(L.out _ (by first|exact Q1 _ _ |exact(Q1 _ _).drew)).mono ?_;rintro e1 w1 ⟨rfl,d1,f⟩)
  all_goals
   go_wp2_with fail
   go_meet
   exact⟨by rw[oT],f⟩
 case rest=>
  obtain⟨rfl,f⟩:=hcut;by_cases q:dS t.data.toList=h
  ·have y:(!decide (dS t.data.toList=h))=false:=by simp[q]
   rw[y];have d:Hid (R=if 0<dep/\t.data.toList.length<32 then .error 11 else wX h dep bl (fL t.data.toList)):=by
    show _=_;rw[H.out];unfold gh;rw[QW (fun h=>h q)]
   have Z:t.data.toList.length=t.size:=by simp
   have F:Hid (∀W:World,Calls yP 100 #[sV t] W fun e w'=>Aq W (fL t.data.toList) e w'/\yW W w'):=fun W=>vT W t J
   have B6:(t.size:Int)<=9223372036854775807:=by unfold maxLen at J;omega
   rw[Z] at d;clear H L q y J Z HT;by_cases D:0<dep/\t.size<32
   ·rw[QX D] at d;have h0:(0:Int)<(dep:Int):=by omega
    have h32:(t.size:Int)<32:=by omega
    clear D F;go_wp2_with fail
    go_ret
    rw[d.out];exact⟨rfl,f.out⟩
   ·rw[QW D] at d;have B5:(¬(0:Int)<(dep:Int))\/((0:Int)<(dep:Int)/\¬(t.size:Int)<32):=by
     by_cases h0:0<dep
     ·have:¬t.size<32:=fun h=>D ⟨h0,h⟩
      exact .inr ⟨by omega,by omega⟩
     ·exact .inl (by omega)
    clear D;generalize fL t.data.toList=DR at*;go_wp2_with fail
    all_goals
     refine(F.out _).mono ?_;cases DR with
     |error c=>
      rintro e w2 ⟨⟨rfl,hc⟩,z⟩;have B0:((c:Int) != 0)=true:=by simp;omega
      have a:Hid (yW w w2):=f.out.trans (z.mono f.out.size);clear z F hc;go_wp2_with fail
      go_ret
      rw[d.out];exact⟨rfl,a.out.alloc a.out.size _⟩
     |ok x=>
      rintro e w2 ⟨⟨l,ti,ia,im,ic,rfl,Y⟩,z⟩;have a:Hid (yW w w2):=f.out.trans (z.mono f.out.size);have Q:Hid (∀W,yW w2 W->Calls yP 140 #[gV #[bV l,sV ti,lV ia im ic],iV .i64 (dep:Int),bV bl] W fun e w1=>∃u,e=rV (pV u)/\Hid (tL w2 (aT 6 x dep bl) u w1)):=fun W r=>(Mc 6 (by omega) W _ _ _ _ x dep bl (Y.below r) (by omega)).mono fun e w1 h=>yf r h
      have K:Hid (R=AR h (aT 6 x dep bl)):=d.out;clear z F Y d;generalize aT 6 x dep bl=NR at*;go_wp2_with fail
      refine(Q.out _ ((Q1 _ _).alloc (QU _) _)).mono ?_;rintro e w3 ⟨u,rfl,G⟩;clear Q;cases NR with
      |none=>
       obtain⟨rfl,A⟩:=G.out;have j:Hid (yW w w3):=a.out.trans (A.mono a.out.size);clear A G;go_wp2_with fail
       go_ret
       rw[K.out];exact⟨rfl,j.out⟩
      |some n=>
       obtain⟨g,rfl,I,A⟩:=G.out;have j:Hid (yW w w3):=a.out.trans (A.mono a.out.size);have HA:Hid (At w3 n (fun x=>w2.heap.size<=x) (pV (qA g))):=I;have A2:n.some:=by
        cases n with
        |nil=>exact absurd (I.none.2 rfl) (by intro h;cases h)
        | _=>trivial
       obtain⟨g',k,U,hg,V,m,A1⟩:=Qs I A2;cases hg
       have d1:=m.c1;have A9:Hid (bL w3 g n (pV k) (fun i=>pV (U i))):=m;have B3:=m.lt;have B4:w.heap.size<=g:=Q7 a.out.size V;have M:bL w3 b (.unread h) cL (fun _=>cL):=(j.out.block b A0).trans HB.out;have b1:=M.c1;have B2:w3.frozen? ⟨g,1,none⟩=false:=by simp[World.frozen?,show w3.heap[g]? =_ from m]
       obtain⟨C,o⟩:=yX (eX n.kind (str h) (str n.path) (str n.value) (pV k) (fun i=>pV (U i)))
       obtain⟨s,N⟩:=yX (eX (Nd.unread h).kind (str (Nd.unread h).hash) (str (Nd.unread h).path) (str (Nd.unread h).value) cL (fun _=>cL))
       have A5:b≠g:=by omega
       have HL:Hid ((w3.setCell ⟨g,1,none⟩ (sV (str h))).heap[g]? =some (.cells C 167 (0,0))):=by
        show _=_;rw[Se w3 g 1 _ _ _ m,Dm,o]
       have P:Hid ((w3.setCell ⟨g,1,none⟩ (sV (str h))).heap[b]? =some (.cells s 167 (0,0))):=by
        show _=_;rw[Rc _ _ _ _ A5,N];exact M
       have S:(yP.info? 167).map (·.size)=some C.size:=by rw[o,qF];exact Jv
       have hz:s.size=C.size:=by rw[o,N,qF,qF]
       have A3:C.all (·.oneCell')=true:=by rw[o];exact Ms _ _ _ _ _ _
       have HF:Hid (pJ w b R (rV (iV .i64 0)) ((w3.setCell ⟨g,1,none⟩ (sV (str h))).setRow b C)):=by
        show pJ _ _ _ _ _;rw[K.out];have A4:bL ((w3.setCell ⟨g,1,none⟩ (sV (str h))).setRow b C) b (n.gy h) (pV k) (fun i=>pV (U i)):=by
         unfold bL;rw[R7 _ _ _ _ _ _ P.out,o,No,KU,Il,zj _ _ A2]
        have A6:¬w2.heap.size<=b:=by have:=a.out.size;omega
        refine⟨rfl,(A1 _ b h A6 A4 fun x E A8 B7=>?_).mono ?_,?_⟩
        ·have:w2.heap.size<=x:=E;rw[setRow_other _ _ _ _ (by omega),Rc _ _ _ _ A8]
        ·intro x E;exact E.imp id fun h=>Q7 a.out.size h
        ·refine⟨j.out.os,j.out.tape,j.out.output,?_,fun x E A7=>?_⟩
         ·simp;exact j.out.size
         ·rw[setRow_other _ _ _ _ A7,Rc _ _ _ _ (by show x≠g;omega)];exact j.out.block x E
       clear A G I V m A1 c1 M o N K;go_wp2_with (first|refine wpList_load_row rfl 167 (.tmp 48) rfl g rfl 167 C (0,0) _ HL.out underlying167 rfl S ?_|refine wpList_store_row rfl 167 (.tmp 50) (.tmp 49) rfl b C rfl rfl 167 s P.out S hz A3 ?_)
       go_ret
       exact HF.out
  ·have y:(!decide (dS t.data.toList=h))=true:=by simp[q]
   rw[y];have d:Hid (R=.error 10):=by show _=_;rw[H.out];unfold gh;rw[QX q]
   clear H L q y;go_wp2_with fail
   go_ret
   rw[d.out];exact⟨rfl,f.out⟩
def oO:Nat->Nd->Prop
 | _,.nil=>True
 |dep,.unread _=>dep<=80
 |dep,.leaf _ p _=>dep+p.length<=80
 |dep,.ext _ p k=>dep+p.length<=80/\oO (dep+p.length) k
 |dep,.branch _ _ ks=>∀i,i<16->oO (dep+1) (ks i)
def cW(v:yL)(ks:Nat->Nd):Nat->Nat
 | 0=>if v=[] then 0 else 1
 |i+1=>cW v ks i+(if(ks i).isNil=true then 0 else 1)
def rA:Nd->Prop
 | .ext _ _ k=>rA k
 | .branch _ v ks=>2<=cW v ks 16/\∀i,i<16->rA (ks i)
 | _=>True
structure Ad(n:Nd)(dep:Nat):Prop where
 hash:n.hash=[]
 read:n.read
 bu:lP n
 full:rA n
 deep:oO dep n
 aJ:∀h,iW (n.gy h)->aI (n.gy h)
structure aw(k:Nd)(dep:Nat):Prop where
 bu:lP k
 full:rA k
 deep:oO dep k
 aJ:aI k
theorem BK(n:Nd)(h:n.hash=[]):n.gy []=n:=by
 cases n with
 |nil=>rfl
 |unread _=>exact congrArg Nd.unread h.symm
 |leaf _ _ _=>show Nd.leaf [] _ _=_;rw[<-show _=[] from h];rfl
 |ext _ _ _=>show Nd.ext [] _ _=_;rw[<-show _=[] from h];rfl
 |branch _ _ _=>show Nd.branch [] _ _=_;rw[<-show _=[] from h];rfl
def rk(a:Tree->Nat->Bool->Option Nd):Prop:=∀x dep bl n,bK 6 x=true->a x dep bl=some n->n.item=x/\Ad n dep/\(bl=true->n.fw)
theorem vB(a:Tree->Nat->Bool->Option Nd)(x:Tree)(dep:Nat)(bl:Bool)(b:∀t,x≠ay t):jk a x dep bl=if eg x≠0\/32<=(fy x).size then none else a x dep bl:=by
 unfold jk;split
 ·next t=>exact absurd rfl (b t)
 ·rfl
theorem vz(a:Tree->Nat->Bool->Option Nd)(t)(dep:Nat)(bl:Bool):jk a (ay t) dep bl=if t=[] then some .nil else if t.length≠32\/80<dep then none else some (.unread t):=rfl
theorem vA(f:Tree->Nat->Bool->Option Nd)(H:rk f)(x:Tree)(dep:Nat)(bl:Bool)(k)(h:jk f x dep bl=some k):k.ref=x/\aw k dep/\(k=.nil\/(bl=true->k.fw)):=by
 by_cases g:∃t,x=ay t
 ·obtain⟨t,rfl⟩:=g;rw[vz] at h;by_cases h0:t=[]
  ·rw[QX h0] at h;cases h;subst h0;exact⟨rfl,⟨trivial,trivial,trivial,trivial⟩,.inl rfl⟩
  ·rw[QW h0] at h;by_cases h1:t.length≠32\/80<dep
   ·rw[QX h1] at h;cases h
   ·rw[QW h1] at h;cases h;refine⟨?_,⟨trivial,trivial,?_,?_⟩,.inr fun _=>trivial⟩
    ·show jT (.unread t) _=_;show(if t=[] then _ else ay t)=_;rw[QW h0]
    ·show dep<=80;exact Nat.le_of_not_lt fun h=>h1 (.inr h)
    ·show t.length=32;exact RQ fun h=>h1 (.inl h)
 ·rw[vB f x dep bl (fun t e=>g ⟨t,e⟩)] at h;by_cases c:eg x≠0\/32<=(fy x).size
  ·rw[QX c] at h;cases h
  ·rw[QW c] at h;have h0:eg x=0:=RQ fun h=>c (.inl h)
   have h32:¬32<=(fy x).size:=fun h=>c (.inr h)
   have d:bK 6 x=true:=by
    unfold eg at h0;by_cases b:bK 6 x=true
    ·exact b
    ·rw[QW b] at h0;cases h0
   have i:fg (bm 6 x)=true:=by
    unfold eg at h0;rw[QX d] at h0;by_cases b:fg (bm 6 x)=true
    ·exact b
    ·rw[QW b] at h0;cases h0
   unfold fy at h32;rw[QX d,su _ i,aH] at h32;obtain⟨hi,a,j⟩:=H x dep bl k d h;have l:k.some:=by have:=a.read;cases k<;>first|exact this.elim|trivial
   refine⟨?_,⟨a.bu,a.full,a.deep,?_⟩,.inr j⟩
   ·rw[lu l a.hash,hi]
   ·have:=a.aJ [] (.inl ?_)
    ·rw[BK k a.hash] at this;exact this
    ·rw[BK k a.hash,a.hash];unfold fv Nd.code;rw[hi,QW h32]
theorem Le(d:Tree->Nat->Bool->Option Nd)(H:rk d)(x y:Tree)(dep:Nat)(n)(h:je d x y dep=some n):n.item=bH [x,y]/\Ad n dep:=by
 unfold je at h;split at h
 ·next t=>
  by_cases a:mj t=false\/80<dep+(bd t).length
  ·rw[QX a] at h;cases h
  ·rw[QW a] at h;have j:jz t:=(sW t).1 (by
    cases hq:mj t with
    |true=>rfl
    |false=>exact absurd (.inl hq) a)
   have i:dep+(bd t).length<=80:=Nat.le_of_not_lt fun h=>a (.inr h)
   have m:=KV t;by_cases c:ft t=true
   ·rw[QX c] at h;split at h
    ·next v=>
     by_cases g:v=[]\/160<v.length
     ·rw[QX g] at h;cases h
     ·rw[QW g] at h;cases h;refine⟨?_,rfl,trivial,fun e=>g (.inl e),trivial,i,fun h f=>⟨f,m,by omega,by omega⟩⟩;show bH [ay (cN (bd t) true),ay v]=_;have:=Ff t j;rw[c] at this;rw[this];rfl
    ·cases h
   ·rw[QW c] at h;cases hk:jk d y (dep+(bd t).length) true with
    |none=>rw[hk] at h;cases h
    |some k=>
     rw[hk] at h;simp only at h;by_cases b:k.isNil=true\/bd t=[]
     ·rw[QX b] at h;cases h
     ·rw[QW b] at h;cases h;obtain⟨h1,h2,h3⟩:=vA d H y _ true k hk;have l:k.fw:=h3.elim (fun e=>absurd (.inl (by rw[e];rfl)) b) (fun h=>h rfl);refine⟨?_,rfl,trivial,⟨fun e=>b (.inr e),l,h2.bu⟩,h2.full,⟨i,h2.deep⟩,fun h f=>⟨f,m,by omega,l,h2.aJ⟩⟩;show bH [ay (cN (bd t) false),k.ref]=_;have:=Ff t j;rw[show ft t=false from by cases hq:ft t with|true=>exact absurd hq c|false=>rfl] at this;rw[this,h1];rfl
 ·cases h
theorem vy(a:Tree->Nat->Bool->Option Nd)(ks:List Tree)(dep:Nat):∀n,jW a ks dep n=true->∀i,i<n->∃k,gm a ks dep i=some k
 | 0,_,i,hi=>by omega
 |n+1,h,i,hi=>by
  simp only[jW,Sh] at h
  by_cases e:i=n
  ·subst e;exact Option.isSome_iff_exists.1 h.2
  ·exact vy a ks dep n h.1 i (by omega)
theorem yO(a:Tree->Nat->Bool->Option Nd)(ks:List Tree)(dep:Nat)(v):∀n,gS a ks dep v n=cW v (fun i=>(gm a ks dep i).getD .nil) n
 | 0=>rfl
 |n+1=>by simp only[gS,cW,yO a ks dep v n]
theorem PX(a:Tree->Nat->Bool->Option Nd)(H:rk a)(ks:List Tree)(g:ks.length=17)(dep:Nat)(n)(h:gW a ks dep=some n):n.item=bH ks/\Ad n dep/\n.fw:=by
 unfold gW at h;split at h
 ·next v hv=>
  by_cases d:160<v.length
  ·rw[QX d] at h;cases h
  ·rw[QW d] at h;by_cases c:jW a ks dep 16=true/\2<=gS a ks dep v 16
   ·rw[QX c] at h;cases h;have b:∀i,i<16->((gm a ks dep i).getD .nil).ref=ks.getD i (ay [])/\aw ((gm a ks dep i).getD .nil) (dep+1):=fun i hi=>by
     obtain⟨k,b⟩:=vy a ks dep 16 c.1 i hi;rw[b];obtain⟨h1,h2,_⟩:=vA a H _ _ _ k b;exact⟨h1,h2⟩
    refine⟨?_,⟨rfl,trivial,fun i hi=>(b i hi).2.bu,⟨by rw[<-yO];exact c.2,fun i hi=>(b i hi).2.full⟩,fun i hi=>(b i hi).2.deep,fun h e=>⟨e,by omega,fun i hi=>(b i hi).2.aJ⟩⟩,trivial⟩;show bH ((List.range 16).map (fun i=>((gm a ks dep i).getD .nil).ref)++[ay v])=bH ks;congr 1;apply SK;intro i;by_cases hi:i<16
    ·rw[RA (by simp;exact hi),Rp,List.getElem?_range hi];show some ((gm a ks dep i).getD .nil).ref=_;rw[(b i hi).1,Q3,QV (by omega)];rfl
    ·rw[RY (by simp;omega)];simp only[Rr,List.length_range];by_cases f:i=16
     ·subst f;rw[Q3,QV (by omega)] at hv;rw[QV (show 16<ks.length by omega)];exact congrArg some hv.symm
     ·rw[RP (by simp;omega),RP (by omega)]
   ·rw[QW c] at h;cases h
 ·cases h
theorem Ow{x ks a}(h:x=.slice ks a)(b:bK 6 x=true):x=bH ks:=by
 subst h;cases a with
 |nil=>rfl
 |cons _ _=>cases b
theorem uW:∀d,rk (aT d):=by
 intro d;induction d with
 |zero=>intro x dep bl n _ h;cases h
 |succ d ih=>
  intro x dep bl n g h;cases x with
  |slice ks es=>
   have c:=Ow rfl g;have f:aT (d+1) (.slice ks es) dep bl=if ks.length=2/\bl=false then je (aT d) (ks.getD 0 (ay [])) (ks.getD 1 (ay [])) dep else if ks.length=17 then gW (aT d) ks dep else none:=rfl;rw[f] at h;by_cases h2:ks.length=2/\bl=false
   ·rw[QX h2] at h;obtain⟨h1,h3⟩:=Le _ ih _ _ dep n h;refine⟨?_,h3,fun e=>by rw[h2.2] at e;cases e⟩;rw[h1,c];have:=h2.1;match ks,this with
    | [a,b],_=>rfl
   ·rw[QW h2] at h;by_cases h17:ks.length=17
    ·rw[QX h17] at h;obtain⟨h1,h3,h4⟩:=PX _ ih ks h17 dep n h;exact⟨by rw[h1,c],h3,fun _=>h4⟩
    ·rw[QW h17] at h;cases h
  | _=>cases h
theorem nP{h t dep bl n}(hr:gh h t dep bl=.ok n):aw n dep/\n.read/\n.hash=h/\n.code=t/\dS t=h/\(bl=true->n.fw):=by
 unfold gh at hr;by_cases h1:dS t≠h
 ·rw[QX h1] at hr;cases hr
 ·rw[QW h1] at hr;by_cases h2:0<dep/\t.length<32
  ·rw[QX h2] at hr;cases hr
  ·rw[QW h2] at hr;cases hd:fL t with
   |error c=>rw[hd] at hr;cases hr
   |ok x=>
    rw[hd] at hr;obtain⟨hc,hf,_⟩:=zF t x hd;have A0:AR h (aT 6 x dep bl)=.ok n:=hr;cases hn:aT 6 x dep bl with
    |none=>rw[hn] at A0;cases A0
    |some m=>
     rw[hn] at A0;cases A0
     obtain⟨hi,ho,hk⟩:=uW 6 x dep bl m hf hn;have A1:(m.gy h).hash=h:=zj h m (by have:=ho.read;cases m<;>first|exact this.elim|trivial);have hF:=ho.aJ h (.inr (by rw[A1,Gc];unfold Nd.code;rw[hi,hc];exact(RQ h1).symm));refine⟨⟨?_,?_,?_,hF⟩,?_,A1,?_,RQ h1,?_⟩
     ·have:=ho.bu;cases m<;>exact this
     ·have:=ho.full;cases m<;>exact this
     ·have:=ho.deep;cases m<;>exact this
     ·have:=ho.read;cases m<;>exact this
     ·rw[Gc];unfold Nd.code;rw[hi];exact hc
     ·intro e;have:=hk e;cases m<;>exact this
def jJ(M:Nat->Prop)(w:World)(a:Option Addr)(G:yB->Option yB):Prop:=∀(W:World) (h:yB),h.size=32->(∀x,M x->W.heap[x]? =w.heap[x]?)->
 Calls yP 119 #[pV a,sV h] W fun e w'=>e=rV (tV #[sV ((G h).getD ⟨#[]⟩),iV .i64 (if(G h).isSome=true then 0 else 9)])/\∃n,w'=W.drewN n
def gO(G:yB->Option yB)(h:yL)(dep:Nat)(bl:Bool):Except Nat Nd:=match G (str h) with
 |none=>.error 9
 |some t=>gh h t.data.toList dep bl
theorem IE(M:Nat->Prop)(w:World)(tb b:Nat)(st u)(G:ByteArray->Option ByteArray)(h:List UInt8)(dep:Nat)(bl:Bool)(hT:w.heap[tb]? =some (.cells #[.pointer st,.pointer u] 75 (0,0)))
 (B:bL w b (.unread h) cL (fun _=>cL)) (hh:h.length=32) (hG:jJ M w st G) (hs:∀k t,G k=some t->t.size<=maxLen) (A3:dep<=4000) (T:az w):
 Calls Tryz.prog 112 #[.pointer (some ⟨tb,0,none⟩),.pointer (some ⟨b,0,none⟩),.int .i64 (dep:Int),.bool bl] w (pJ w b (gO G h dep bl)):=by
 have c0:=B.c0;have c1:=B.c1;have t0:w.cell? ⟨tb,0,none⟩=some (.pointer st):=by rw[cell_of_row w tb 0 _ _ _ hT];rfl
 have HG:Hid (∀W:World,W.heap=w.heap->Calls Tryz.prog 119 #[.pointer st,.string (str h)] W fun e w'=>e=.returned (.tuple #[.string ((G (str h)).getD ⟨#[]⟩),.int .i64 (if(G (str h)).isSome=true then 0 else 9)])/\∃n,w'=W.drewN n):=fun W hW=>hG W (str h) (by rw[aH];exact hh) (fun _ _=>by rw[hW])
 have A1:(Nd.unread h).kind=0:=rfl;have A0:(Nd.unread h).hash=h:=rfl;rw[A1] at c0;rw[A0] at c1;have HB:Hid (bL w b (.unread h) cL (fun _=>cL)):=B;have HT:Hid (az w):=T;clear hG hT B A1 A0 T;cases hg:G (str h) with
 |none=>
  have HR:Hid (gO G h dep bl=.error 9):=by show _=_;unfold gO;rw[hg]
  rw[hg] at HG;simp only[Option.getD_none,Option.isSome_none,Bool.false_eq_true,if_false] at HG;generalize gO G h dep bl=R at*;clear hs hg;go_enter Tryz.func112,Tryz.ntmps112
  go_wp2_with fail
  go_quiet ((go_at_call 119;refine Calls.quiet_of (HG.out _ rfl)))
  clear HG;go_wp2_with fail
  go_ret
  rw[HR.out];exact⟨rfl,Below.drewN (Below.refl _ _) _⟩
 |some t=>
  have ht:=hs _ _ hg;have HR:Hid (∀W:World,(∃n,W=w.drewN n)->Calls Tryz.prog 120 #[.pointer (some ⟨b,0,none⟩),.string t,.int .i64 (dep:Int),.bool bl] W fun e w'=>e=.returned (match gO G h dep bl with| .error c=>.int .i64 (c:Int) | .ok _=>.int .i64 0)/\pJ w b (gO G h dep bl) e w'):=fun W hW=>by
   obtain⟨n,rfl⟩:=hW;have hR:gO G h dep bl=gh h t.data.toList dep bl:=by unfold gO;rw[hg]
   rw[hR];refine(BW (w.drewN n) h b t dep bl HB.out ht A3 (HT.out.below (Below.drewN (Below.refl _ _) _))).mono fun e w' hq=>?_
   cases hq2:gh h t.data.toList dep bl with
   |error c=>rw[hq2] at hq;exact⟨hq.1,hq.1,(Below.drewN (Below.refl _ w) n).trans hq.2⟩
   |ok m=>rw[hq2] at hq;exact⟨hq.1,hq.1,hq.2.1,⟨hq.2.2.os,hq.2.2.tape,hq.2.2.output,hq.2.2.size,hq.2.2.block⟩⟩
  rw[hg] at HG;simp only[Option.getD_some,Option.isSome_some,if_true] at HG;generalize gO G h dep bl=R at*;have A2:∃v:Int,(match R with| .error c=>Value.int .i64 (c:Int) | .ok _=>.int .i64 0)=.int .i64 v:=by cases R<;>exact⟨_,rfl⟩
  obtain⟨v,hv⟩:=A2;rw[hv] at HR;clear hs hg hv ht;go_enter Tryz.func112,Tryz.ntmps112
  go_wp2_with fail
  go_quiet ((go_at_call 119;refine Calls.quiet_of (HG.out _ rfl)))
  clear HG;go_wp2_with fail
  refine(HR.out _ ⟨_,rfl⟩).mono ?_;rintro e w2 ⟨rfl,hq⟩;have HQ:Hid (pJ w b R (.returned (.int .i64 v)) w2):=hq;clear hq HR;go_wp2_with fail
  go_ret
  exact HQ.out
def cf(G:yB->Option yB)(t:Nd)(dep:Nat)(bl:Bool):Except Nat Nd:=match t with
 | .unread h=>gO G h dep bl
 |t=>.ok t
def fJ(a:Nd->yL->Nat->Bool->Nd×Nat)(t:Nd)(p:yL)(dep:Nat):Nd×Nat:=match t with
 | .ext h q k=>if aF q p=q.length then(.ext h q (a k (p.drop q.length) (dep+q.length) true).1,(a k (p.drop q.length) (dep+q.length) true).2) else(.ext h q k,0)
 | .branch h v ks=>match p with
  | []=>(.branch h v ks,0)
  |c::r=>(.branch h v (aD ks c.toNat (a (ks c.toNat) r (dep+1) false).1),(a (ks c.toNat) r (dep+1) false).2)
 |t=>(t,0)
def kS(t:Nd)(f:Nd->Nd×Nat):Except Nat Nd->Nd×Nat
 | .error c=>(t,c)
 | .ok t1=>f t1
def cV(G:yB->Option yB):Nat->Nd->yL->Nat->Bool->Nd×Nat
 | 0,t,_,_,_=>(t,0)
 |f+1,t,p,dep,bl=>kS t (fun t1=>fJ (cV G f) t1 p dep) (cf G t dep bl)
theorem sw(G:yB->Option yB)(f:Nat)(p)(dep:Nat)(bl:Bool):cV G f .nil p dep bl=(.nil,0):=by cases f<;>rfl
theorem l4{G t t1 dep bl}(hK:aw t dep)(h:cf G t dep bl=.ok t1):aw t1 dep/\t1.ref=t.ref/\t1.isNil=t.isNil/\(bl=true->t.fw->t1.fw)/\(t1=.nil\/t1.read):=by
 cases t with
 |unread h0=>
  have hh:h0.length=32:=hK.aJ;have h':gO G h0 dep bl=.ok t1:=h;unfold gO at h';split at h'
  ·cases h'
  ·next t _=>
   obtain⟨h1,h2,h3,_,_,h6⟩:=nP h';have A0:t1.hash≠[]:=fun e=>by rw[h3] at e;rw[e] at hh;cases hh
   have hs:t1.some:=by cases t1<;>first|exact h2.elim|trivial
   refine⟨h1,?_,?_,fun e _=>h6 e,.inr h2⟩
   ·rw[js hs A0,h3,js (t:=.unread h0) trivial (by rw[h3] at A0;exact A0)];rfl
   ·cases t1<;>first|exact h2.elim|rfl
 |nil=>cases h;exact⟨hK,rfl,rfl,fun _ h=>h,.inl rfl⟩
 |leaf _ _ _=>cases h;exact⟨hK,rfl,rfl,fun _ h=>h,.inr trivial⟩
 |ext _ _ _=>cases h;exact⟨hK,rfl,rfl,fun _ h=>h,.inr trivial⟩
 |branch _ _ _=>cases h;exact⟨hK,rfl,rfl,fun _ h=>h,.inr trivial⟩
structure tK(t t':Nd)(dep:Nat)(bl:Bool):Prop where
 ok:aw t' dep
 ref:t'.ref=t.ref
 nil:t'.isNil=t.isNil
 fork:bl=true->t.fw->t'.fw
theorem vD(v)(ks:Nat->Nd)(c:Nat)(k:Nd)(h:k.isNil=(ks c).isNil):∀n,cW v (aD ks c k) n=cW v ks n
 | 0=>rfl
 |n+1=>by
  simp only[cW,vD v ks c k h n]
  by_cases e:n=c
  ·subst e;rw[df,h]
  ·rw[dJ _ _ _ _ e]
theorem yT(h p)(k a:Nd)(e:a.ref=k.ref):(Nd.ext h p a).item=(Nd.ext h p k).item:=by
 show bH [_,a.ref]=bH [_,k.ref];rw[e]
theorem yU(h v)(ks:Nat->Nd)(c:Nat)(a:Nd)(e:a.ref=(ks c).ref):(Nd.branch h v (aD ks c a)).item=(Nd.branch h v ks).item:=by
 show bH ((List.range 16).map (fun i=>(aD ks c a i).ref)++_)=bH ((List.range 16).map (fun i=>(ks i).ref)++_);congr 2;apply Sq;intro i _;by_cases hi:i=c
 ·subst hi;rw[df,e]
 ·rw[dJ _ _ _ _ hi]
theorem ES{t a:Nd}(hi:a.item=t.item)(b:a.hash=t.hash)(h:iW t):iW a:=by
 unfold iW Nd.code at*;rw[hi,b];exact h
theorem BS{t a:Nd}(hi:a.item=t.item)(b:a.hash=t.hash)(h1:t.some)(h2:a.some):a.ref=t.ref:=by
 by_cases h0:t.hash=[]
 ·rw[lu h1 h0,lu h2 (by rw[b];exact h0),hi]
 ·rw[js h1 h0,js h2 (by rw[b];exact h0),b]
theorem OH{h q k c dep}(a:aw (.ext h q k) dep)(b:tK k c (dep+q.length) true):aw (.ext h q c) dep:=by
 have d:=b.fork rfl a.bu.2.1;exact⟨⟨a.bu.1,d,b.ok.bu⟩,b.ok.full,⟨a.deep.1,b.ok.deep⟩,⟨ES (yT h q k c b.ref) rfl a.aJ.1,a.aJ.2.1,a.aJ.2.2.1,d,b.ok.aJ⟩⟩
theorem PV{h v ks d c dep}(a:aw (.branch h v ks) dep)(b:tK (ks c) d (dep+1) false):aw (.branch h v (aD ks c d)) dep:=by
 have f:∀{P:Nd->Prop},(∀i,i<16->P (ks i))->P d->∀i,i<16->P (aD ks c d i):=fun h1 h2 i hi=>by
  by_cases e:i=c
  ·subst e;rw[df];exact h2
  ·rw[dJ _ _ _ _ e];exact h1 i hi
 exact⟨f a.bu b.ok.bu,⟨by rw[vD v ks c d b.nil];exact a.full.1,f a.full.2 b.ok.full⟩,f a.deep b.ok.deep,⟨ES (yU h v ks c d b.ref) rfl a.aJ.1,a.aJ.2.1,f a.aJ.2.2 b.ok.aJ⟩⟩
theorem dY{h q k dep}(a:aw (.ext h q k) dep):aw k (dep+q.length):=⟨a.bu.2.2,a.full,a.deep.2,a.aJ.2.2.2.2⟩
theorem di{h v ks dep}(a:aw (.branch h v ks) dep)(c:Nat)(b:c<16):aw (ks c) (dep+1):=⟨a.bu c b,a.full.2 c b,a.deep c b,a.aJ.2.2 c b⟩
theorem uS(G:yB->Option yB):∀(f:Nat) (t) (p) (dep:Nat) (bl:Bool),aw t dep->ak p->tK t (cV G f t p dep bl).1 dep bl:=by
 intro f;induction f with
 |zero=>intro t p dep bl b _;exact⟨b,rfl,rfl,fun _ h=>h⟩
 |succ f ih=>
  intro t p dep bl b d;show tK t (kS t _ (cf G t dep bl)).1 dep bl;cases hr:cf G t dep bl with
  |error c=>exact⟨b,rfl,rfl,fun _ h=>h⟩
  |ok t1=>
   obtain⟨h1,h2,h3,h4,_⟩:=l4 b hr;suffices hs:tK t1 (fJ (cV G f) t1 p dep).1 dep bl from⟨hs.ok,hs.ref.trans h2,hs.nil.trans h3,fun e i=>hs.fork e (h4 e i)⟩
   cases t1 with
   |nil=>exact⟨h1,rfl,rfl,fun _ h=>h⟩
   |unread _=>exact⟨h1,rfl,rfl,fun _ h=>h⟩
   |leaf _ _ _=>exact⟨h1,rfl,rfl,fun _ h=>h⟩
   |ext h q k=>
    simp only[fJ];by_cases e:aF q p=q.length
    ·rw[QX e];have a:=ih k (p.drop q.length) (dep+q.length) true (dY h1) (cS d _);exact⟨OH h1 a,BS (yT h q k _ a.ref) rfl trivial trivial,rfl,fun _ h=>h⟩
    ·rw[QW e];exact⟨h1,rfl,rfl,fun _ h=>h⟩
   |branch h v ks=>
    cases p with
    |nil=>exact⟨h1,rfl,rfl,fun _ h=>h⟩
    |cons c r=>
     have g:=d c (QY ..);have a:=ih (ks c.toNat) r (dep+1) false (di h1 _ g) (fun y j=>d y (QZ _ j));exact⟨PV h1 a,BS (yU h v ks _ _ a.ref) rfl trivial trivial,rfl,fun _ _=>trivial⟩
theorem BZ{h t dep bl c}(hr:gh h t dep bl=.error c):c=10\/c=11:=by
 unfold gh at hr;split at hr
 ·cases hr;exact .inl rfl
 ·split at hr
  ·cases hr;exact .inr rfl
  ·right;cases hd:fL t with
   |error _=>rw[hd] at hr;cases hr;rfl
   |ok x=>
    rw[hd] at hr;have A0:AR h (aT 6 x dep bl)=.error c:=hr;cases hn:aT 6 x dep bl with
    |none=>rw[hn] at A0;cases A0;rfl
    |some _=>rw[hn] at A0;cases A0
theorem uG{G t dep bl c}(h:cf G t dep bl=.error c):c=9\/c=10\/c=11:=by
 cases t with
 |unread h0=>
  have h':gO G h0 dep bl=.error c:=h;unfold gO at h';split at h'
  ·cases h';exact .inl rfl
  ·exact .inr (BZ h')
 | _=>cases h
theorem LN(G:yB->Option yB):∀(f:Nat) (t) (p) (dep:Nat) (bl:Bool),aw t dep->ak p->p.length+1<=f->(cV G f t p dep bl).2=0->dw (cV G f t p dep bl).1 p:=by
 intro f;induction f with
 |zero=>intro t p dep bl _ _ h;omega
 |succ f ih=>
  intro t p dep bl hK hp hf h0;have A0:(kS t (fun t1=>fJ (cV G f) t1 p dep) (cf G t dep bl)).2=0:=h0;show dw (kS t (fun t1=>fJ (cV G f) t1 p dep) (cf G t dep bl)).1 p;cases hr:cf G t dep bl with
  |error c=>
   rw[hr] at A0;have:c=0:=A0;have:=uG hr;omega
  |ok t1=>
   rw[hr] at A0;obtain⟨h1,_,_,_,h5⟩:=l4 hK hr;have h0:(fJ (cV G f) t1 p dep).2=0:=A0;show dw (fJ (cV G f) t1 p dep).1 p;cases t1 with
   |nil=>trivial
   |unread _=>exact(h5.elim (fun h=>by cases h) (fun h=>h.elim))
   |leaf _ _ _=>trivial
   |ext h q k=>
    simp only[fJ] at h0⊢;by_cases e:aF q p=q.length
    ·rw[QX e] at h0⊢;intro _;have hq:0<q.length:=Sj.2 h1.bu.1;have A1:=(g9 q p).2;exact ih k (p.drop q.length) (dep+q.length) true (dY h1) (cS hp _) (by rw[Q8];omega) h0
    ·rw[QW e];intro e2;exact absurd e2 e
   |branch h v ks=>
    cases p with
    |nil=>trivial
    |cons c r=>
     have hc:c.toNat<16:=hp c (QY ..);show dw (aD ks c.toNat _ c.toNat) r;rw[df];exact ih (ks c.toNat) r (dep+1) false (di h1 _ hc) (fun y hy=>hp y (QZ _ hy)) (by simp at hf;omega) h0
def fF(w:World)(S:Nat->Prop)(p:Value)(d:Nd->Nd)(a:Nat->Prop)(c:Value):Prop:=
 (∀x,a x->S x)/\∀(w':World) (b:Nd) (F:Nat->Prop),(∀x,S x->¬a x->w'.heap[x]? =w.heap[x]?)->At w' b F c->(∀x,F x->a x\/¬S x)->At w' (d b) (fun x=>S x\/F x) p
theorem fF.refl(w S p):fF w S p (fun t=>t) S p:=⟨fun _ h=>h,fun _ _ _ _ h _=>h.mono fun _ hx=>.inr hx⟩
theorem fF.trans{w S c f p j k l e}(h1:fF w S p l c j)(h2:fF w c j e f k):fF w S p (fun t=>l (e t)) f k:=
 ⟨fun x a=>h1.1 x (h2.1 x a),fun w' m F i n g=>
  (h1.2 w' (e m) (fun x=>c x\/F x) (fun x a b=>i x a fun o=>b (h2.1 x o))
   (h2.2 w' m F (fun x a b=>i x (h1.1 x a) b) n (fun x a=>(g x a).imp id fun b d=>b (h1.1 x d)))
   (fun x a=>a.elim .inl fun q=>(g x q).imp (h2.1 x) id)).mono fun x a=>a.elim .inl fun h=>h.elim (fun d=>.inl (h1.1 x d)) .inr⟩
theorem fF.step{w w2:World}{S c d p f g}(h:fF w S p g c f)(n:∀x,S x->¬c x->w2.heap[x]? =w.heap[x]?)(e:∀x,d x->c x\/¬S x):fF w2 (fun x=>S x\/d x) p g d f:=
 ⟨fun _ a=>.inr a,fun w' o F h1 i j=>(h.2 w' o F (fun x a b=>(h1 x (.inl a) fun l=>(e x l).elim b fun m=>m a).trans (n x a b)) i
  (fun x a=>(j x a).elim (e x) fun b=>.inr fun k=>b (.inl k))).mono fun _ a=>a.elim (fun h=>.inl (.inl h)) .inr⟩
theorem fF.kept{w w2:World}{S a p d e}(h:fF w S p e a d)(i:∀x,S x->¬a x->w2.heap[x]? =w.heap[x]?):fF w2 S p e a d:=
 ⟨h.1,fun w' j F h1 f g=>h.2 w' j F (fun x c b=>(h1 x c b).trans (i x c b)) f g⟩
theorem fF.fill{w S a p c d t}(h:fF w S p d a c)(e:At w t a c):At w (d t) S p:=
 (h.2 w t a (fun _ _ _=>rfl) e fun _ b=>.inl b).mono fun x b=>b.elim id (h.1 x)
theorem fF.none{w S p t}(b:At w t S p):fF w S p (fun _=>t) (fun _=>False) (pV none):=
 ⟨fun _ h=>h.elim,fun _ _ _ hw _ _=>(b.kept fun x a _=>hw x a fun h=>h).mono fun _ a=>.inl a⟩
theorem fF.ext{w S h q k b u S'}(c:S b)(B:bL w b (.ext h q k) (pV u) (fun _=>cL))(d:∀x,S' x->S x/\x≠b):fF w S (ptr b) (fun l=>.ext h q l) S' (pV u):=
 ⟨fun x a=>(d x a).1,fun w' m F j f g=>⟨b,_,F,rfl,.inl c,(j b c fun h=>(d b h).2 rfl).trans B,fun x a=>⟨.inr a,fun e=>by subst e;exact(g x a).elim (fun h=>(d x h).2 rfl) fun i=>i c⟩,f⟩⟩
theorem fF.branch{w S h v ks b U k}(l:S b)(B:bL w b (.branch h v ks) cL (fun i=>pV (U i)))(d:Kids w ks (fun x=>S x/\x≠b) U k)(c:Nat)(f:c<16):
 fF w S (ptr b) (fun t=>.branch h v (aD ks c t)) (k c) (pV (U c)):=
 ⟨fun x a=>(d.sub c x f a).1,fun w' u F p q n=>by
  refine⟨b,fun i=>pV (U i),fm k c F,rfl,.inl l,(p b l fun h=>(d.sub c b f h).2 rfl).trans B,fun i x hi a=>?_,fun i j x hi g h1 h2=>?_,fun i hi=>?_⟩
  ·unfold fm at a
   by_cases e:i=c
   ·rw[QX e] at a
    exact⟨.inr a,fun e2=>by subst e2;exact(n x a).elim (fun h=>(d.sub c x f h).2 rfl) fun m=>m l⟩
   ·rw[QW e] at a
    exact⟨.inl (d.sub i x hi a).1,(d.sub i x hi a).2⟩
  ·unfold fm at h1 h2
   have key:∀j,j<16->j≠c->F x->k j x->False:=fun j g s r o=>(n x r).elim (fun h=>s (d.iH j c x g f o h)) fun m=>m (d.sub j x g o).1
   by_cases e1:i=c
   ·rw[QX e1] at h1
    by_cases e2:j=c
    ·omega
    ·rw[QW e2] at h2;exact(key j g e2 h1 h2).elim
   ·rw[QW e1] at h1
    by_cases e2:j=c
    ·rw[QX e2] at h2;exact(key i hi e1 h2 h1).elim
    ·rw[QW e2] at h2;exact d.iH i j x hi g h1 h2
  ·by_cases e:i=c
   ·subst e;simp only[aD,fm,RJ];exact q
   ·simp only[aD,fm,e,Ry]
    exact(d.at_ i hi).kept fun x a _=>p x (d.sub i x hi a).1 fun h=>e (d.iH i c x hi f a h)⟩
structure Ae(w:World)(S:Nat->Prop)(b:Nat)(t:Nd)(r:yL)(d:Nat)(pl:Nd->Nd)(k:Nd)(u:Option Addr)(r':yL)(d':Nat)(bl':Bool)(S':Nat->Prop):Prop where
 at_:At w k S' (pV u)
 hole:fF w S (ptr b) pl S' (pV u)
 ok:aw k d'
 fork:bl'=true->k.fw
 lz:ak r'
 deep:d'+r'.length<=80
 less:k≠.nil->r'.length+1<=r.length
 same:∀G f,fJ (cV G f) t r d=(pl (cV G f k r' d' bl').1,(cV G f k r' d' bl').2)
 last:k=.nil->t.at r=aG (pl .nil) r
 more:k≠.nil->∀k',aG (pl k') r=aG k' r'
def GV(W:World)(S:Nat->Prop)(b:Nat)(t:Nd)(r:yL)(d:Nat)(e:Ending)(w':World):Prop:=
 ∃pl k u r' d' bl' S',e=rV (cd (pV u) (str r') d' bl')/\Ae W S b t r d pl k u r' d' bl' S'/\yW W w'
theorem lB(d:Nat):aw .nil d:=⟨trivial,trivial,trivial,trivial⟩
theorem ym{W S b t r d}(a:At W t S (ptr b))(h1:∀G f,fJ (cV G f) t r d=(t,0))(h2:t.at r=aG t r):Ae W S b t r d (fun _=>t) .nil none [] 0 false (fun _=>False):=
 ⟨rfl,fF.none a,lB 0,fun h=>(by cases h),fun _ h=>(Si h).elim,by decide,fun h=>(h rfl).elim,fun G f=>by rw[h1 G f,sw],fun _=>h2,fun h=>(h rfl).elim⟩
theorem Mp(W S t)(b:Nat)(r)(d:Nat)(bl:Bool)(j:At W t S (pV (qA b)))(g:aw t d)(s:ak r)(F:d+r.length<=80)(C:t.read):
 Calls yP 113 #[cd (pV (qA b)) (str r) d bl] W (GV W S b t r d):=by
 have o:=j;have w:=g.aJ;cases t with
 |nil=>exact C.elim
 |unread _=>exact C.elim
 |leaf h q v=>
  obtain⟨m,a,_,B⟩:=j;cases a
  exact(yj b h q v _ _ r (by have:=w.2.2.1;omega) d bl W B).mono fun e w' ⟨h1,h2⟩=>⟨_,_,_,_,_,_,_,h1,ym o (fun _ _=>rfl) rfl,h2⟩
 |ext h q k=>
  obtain⟨m,N,E,a,p,B,I,x⟩:=j;cases a
  obtain⟨D,rfl⟩:=x.ptr;have M:=w.2.2.1;by_cases e:aF q r=q.length
  ·have n:aF r q=q.length:=by rw[nL];exact e
   have H:=(g9 q r).2;rw[e] at H;have L:=Sj.2 g.bu.1;refine(uZ b h q k D _ r (by omega) (by omega) n d (by omega) bl W B).mono fun en w' ⟨h1,h2⟩=>⟨fun i=>.ext h q i,k,D,r.drop q.length,d+q.length,true,E,h1,⟨x,fF.ext p B I,dY g,fun _=>g.bu.2.1,cS s _,by rw[Q8];omega,?_,?_,?_,?_⟩,h2⟩
   ·intro _;rw[Q8];omega
   ·intro G f;simp only[fJ,QX e]
   ·intro A;have:=g.bu.2.1;rw[A] at this;exact this.elim
   ·intro _ i;simp only[aG,QX e]
  ·have n:aF r q≠q.length:=by rw[nL];exact e
   exact(yk b h q k _ _ r (by omega) (by omega) n d bl W B).mono fun en w' ⟨h1,h2⟩=>⟨_,_,_,_,_,_,_,h1,ym o (fun _ _=>by simp only[fJ,QW e]) (by simp only[aG,QW e];rfl),h2⟩
 |branch h v ks=>
  cases r with
  |nil=>
   obtain⟨m,O,u,a,_,B,_⟩:=j;cases a
   exact(yl b h v ks _ _ d bl W B).mono fun en w' ⟨h1,h2⟩=>⟨_,_,_,_,_,_,_,h1,ym o (fun _ _=>rfl) (by simp[Nd.at,aG,Nd.kind,Nd.path,Nd.value]),h2⟩
  |cons c r=>
   obtain⟨m,U,u,a,p,B,z⟩:=j.kids;cases a
   have l:=s c (QY ..);have K:r.length+1+d<=80:=by simp at F;omega
   refine(u7 b h v ks _ _ c r l (U c.toNat) rfl (by omega) d (by omega) bl W B).mono fun en w' ⟨h1,h2⟩=>⟨fun i=>.branch h v (aD ks c.toNat i),ks c.toNat,U c.toNat,r,d+1,false,u c.toNat,h1,⟨z.at_ _ l,fF.branch p B z c.toNat l,di g _ l,(fun h=>by cases h),fun y J=>s y (QZ _ J),by omega,?_,?_,?_,?_⟩,h2⟩
   ·intro _;simp
   ·intro G f;rfl
   ·intro A;show _=aG (aD ks c.toNat .nil c.toNat) r;rw[df];simp[Nd.at,aG,Nd.path]
   ·intro _ i;show aG (aD ks c.toNat i c.toNat) r=_;rw[df]
structure bG(T:Nat->Prop)(w w':World):Prop where
 os:w'.os=w.os
 tape:w'.tape=w.tape
 output:w'.output=w.output
 size:w.heap.size<=w'.heap.size
 block:∀k,k<w.heap.size->¬T k->w'.heap[k]? =w.heap[k]?
namespace bG
variable {T T' : Nat → Prop} {w w1 w2 : World}
theorem refl(T w):bG T w w:=⟨rfl,rfl,rfl,QU _,fun _ _ _=>rfl⟩
theorem gj(h:yW w w1):bG T w w1:=⟨h.os,h.tape,h.output,h.size,fun k a _=>h.block k a⟩
theorem trans(h:bG T w w1)(k:bG T' w1 w2)(c:∀x,T' x->T x\/w.heap.size<=x):bG T w w2:=
 ⟨k.os.trans h.os,k.tape.trans h.tape,k.output.trans h.output,Q7 h.size k.size,fun x b a=>(k.block x (Q6 b h.size) fun d=>(c x d).elim a fun e=>by omega).trans (h.block x b a)⟩
theorem ki(h:bG T w w1)(k:yW w1 w2):bG T w w2:=h.trans (T':=fun _=>False) (gj k) fun _ h=>h.elim
theorem CY{b}(k:Kept b w w1):bG (fun x=>x=b) w w1:=⟨k.os,k.tape,k.output,k.size,fun x c a=>k.block x c a⟩
theorem mono(h:bG T w w1)(c:∀x,T x->T' x):bG T' w w1:=⟨h.os,h.tape,h.output,h.size,fun x d b=>h.block x d fun a=>b (c x a)⟩
theorem set(h:bG T w w1)(g i:Nat)(v)(c:w.heap.size<=g):bG T w (w1.setCell ⟨g,i,none⟩ v):=
 ⟨h.os,h.tape,h.output,by simpa using h.size,fun k a b=>by rw[Rc _ _ _ _ (by show k≠g;omega)];exact h.block k a b⟩
theorem cH(h:bG T w w1)(g:Nat)(e:w.heap.size<=g)(a b c d):bG T w ((((w1.setCell ⟨g,0,none⟩ a).setCell ⟨g,1,none⟩ b).setCell ⟨g,2,none⟩ c).setCell ⟨g,3,none⟩ d):=(((h.set g 0 a e).set g 1 b e).set g 2 c e).set g 3 d e
end bG
theorem az.mK{T w w'}(h:az w)(k:bG T w w')(c:∀x,T x->3<=x):az w':=by
 have h3:=h.size;have b:∀x,x<3->w'.heap[x]? =w.heap[x]? :=fun x e=>k.block x (by omega) fun d=>by have:=c x d;omega
 exact⟨Q7 h.size k.size,fun j a=>(Rd (w:=w) (b 0 (by omega))).trans (h.words j a),fun j a=>(Rd (w:=w) (b 1 (by omega))).trans (h.turns j a),fun j a=>(Rd (w:=w) (b 2 (by omega))).trans (h.sE j a)⟩
def tI(w:World)(S:Nat->Prop)(b:Nat)(r:Except Nat Nd)(e:Ending)(w':World):Prop:=match r with
 | .error c=>e=rV (iV .i64 (c:Int))/\yW w w'
 | .ok n=>e=rV (iV .i64 0)/\At w' n (fun x=>S x\/w.heap.size<=x) (ptr b)/\bG S w w'
theorem BX(M:Nat->Prop)(w)(i b:Nat)(l u)(G:yB->Option yB)(t:Nd)(S:Nat->Prop)(dep:Nat)(bl:Bool)(s:eU w i l u)
 (g:At w t S (pV (qA b))) (q:aw t dep) (p:jJ M w l G) (y:∀k t,G k=some t->t.size<=maxLen) (v:dep<=4000) (T:az w):
 Calls yP 112 #[pV (qA i),pV (qA b),iV .i64 (dep:Int),bV bl] w (tI w S b (cf G t dep bl)):=by
 by_cases d:t.read
 ·obtain⟨o,z,A,j,_,B⟩:=g.ah (by cases t<;>first|exact d.elim|trivial);cases j
  have r:cf G t dep bl=.ok t:=by cases t<;>first|exact d.elim|rfl
  rw[r];exact(Km w i b t z A dep bl B d).mono fun e w' ⟨h1,h2⟩=>by subst h2;exact⟨h1,g.mono fun _ f=>.inl f,bG.refl _ _⟩
 ·cases t with
  |nil=>have h:Value.pointer (qA b)=pV none:=g;cases h
  |unread h=>
   obtain⟨o,j,m,B⟩:=g;cases j
   refine(IE M w i b l u G h dep bl s B q.aJ p y v T).mono fun e w' a=>?_
   show tI w S b (gO G h dep bl) e w';cases hR:gO G h dep bl with
   |error c=>rw[hR] at a;exact a
   |ok n=>rw[hR] at a;exact⟨a.1,a.2.1.mono fun x f=>f.imp (fun e=>by rw[e];exact m) id,(bG.CY a.2.2).mono fun x f=>by rw[f];exact m⟩
  |leaf _ _ _=>exact absurd trivial d
  |ext _ _ _=>exact absurd trivial d
  |branch _ _ _=>exact absurd trivial d
structure wj(G:yB->Option yB)(w0:World)(S0:Nat->Prop)(ga gl gr:Nat)(u0:Option Addr)(T:Nd)(E:Nat)(V:yL)(g:Nat)(wr:World)(pl:Nd->Nd)(t:Nd)(S Sc:Nat->Prop)(u:Option Addr)(r:yL)(d:Nat)(bl:Bool)(ul:Option Addr)(rl:yL)(dl:Nat)(bll:Bool):Prop where
 here:cU wr ga u (str r) d bl
 last:cU wr gl ul (str rl) dl bll
 res:cU wr gr none ⟨#[]⟩ 0 false
 root:fF wr S (pV u0) pl Sc (pV u)
 at_:At wr t Sc (pV u)
 sub:∀x,S x->(S0 x\/w0.heap.size<=x)/\x<wr.heap.size/\x≠ga/\x≠gl/\x≠gr
 ok:aw t d
 lz:ak r
 deep:d+r.length<=80
 fuel:t≠.nil->r.length+1<=g
 tree:T=pl (cV G g t r d bl).1
 err:E=(cV G g t r d bl).2
 more:t≠.nil->E=0->aG (cV G g t r d bl).1 r=V
 done:t=.nil->E=0->rp wr wr.heap.size ul rl V
 wrote:bG S0 w0 wr
def cH(w:World)(g:Nat)(u:Option Addr)(r:yL)(d:Nat)(bl:Bool):World:=(((w.setCell ⟨g,0,none⟩ (pV u)).setCell ⟨g,1,none⟩ (sV (str r))).setCell ⟨g,2,none⟩ (iV .i64 (d:Int))).setCell ⟨g,3,none⟩ (bV bl)
theorem lZ(w)(g:Nat)(u r)(d:Nat)(bl:Bool)(x:Nat)(h:x≠g):(cH w g u r d bl).heap[x]? =w.heap[x]? :=by
 unfold cH;rw[Rc _ _ _ _ h,Rc _ _ _ _ h,Rc _ _ _ _ h,Rc _ _ _ _ h]
theorem r6(w)(g:Nat)(u r)(d:Nat)(bl:Bool):(cH w g u r d bl).heap.size=w.heap.size:=by unfold cH;simp
theorem Cb{G t t1 dep bl}(a:aw t dep)(h:cf G t dep bl=.ok t1)(b:t≠.nil):t1.read:=by
 obtain⟨_,_,h3,_,h5⟩:=l4 a h;rcases h5 with e|e
 ·rw[e] at h3;cases t<;>first|exact absurd rfl b|cases h3
 ·exact e
def j6(wr w2:World)(a:Nat->Prop):Nat->Prop:=fun x=>a x\/(wr.heap.size<=x/\x<w2.heap.size)
theorem Bh{G:yB->Option yB}{w0:World}{f:Nat->Prop}{j e k:Nat}{u0:Option Addr}{T:Nd}{E:Nat}{V:yL}{g:Nat}{wr:World}{n:Nd->Nd}{t:Nd}{S a:Nat->Prop}{b:Nat}{r:yL}{d:Nat}{bl:Bool}{p:Option Addr}{o:yL}{i:Nat}{h:Bool}
 (c:wj G w0 f j e k u0 T E V g wr n t S a (qA b) r d bl p o i h) {t1:Nd} {w2:World} (l:At w2 t1 (fun x=>a x\/wr.heap.size<=x) (ptr b)):
 At (cH w2 e (qA b) r d bl) t1 (j6 wr w2 a) (ptr b):=by
 have q:=c.last.lt;refine(l.cut.mono (S':=j6 wr w2 a) ?_).kept ?_
 ·rintro x ⟨h1|h1,h2⟩
  ·exact .inl h1
  ·exact .inr ⟨h1,h2⟩
 ·rintro x m _;refine lZ _ _ _ _ _ _ _ ?_;rcases m with h1|⟨h1,_⟩
  ·exact(c.sub x (c.root.1 x h1)).2.2.2.1
  ·omega
theorem Jk{G:yB->Option yB}{w0:World}{v:Nat->Prop}{f e j:Nat}{u0:Option Addr}{T:Nd}{E:Nat}{V:yL}{g:Nat}{wr:World}{F:Nd->Nd}{t:Nd}{S i:Nat->Prop}{b:Nat}{r:yL}{d:Nat}{bl:Bool}{ul:Option Addr}{rl:yL}{M:Nat}{L:Bool}
 (c:wj G w0 v f e j u0 T E V (g+1) wr F t S i (qA b) r d bl ul rl M L) (m:t≠.nil) (h1:f≠e) (h2:f≠j) (h3:e≠j) (p1:w0.heap.size<=f) (p2:w0.heap.size<=e)
 {t1:Nd} (I:cf G t d bl=.ok t1) {w2:World} (N:At w2 t1 (fun x=>i x\/wr.heap.size<=x) (ptr b)) (C:bG i wr w2)
 {w4:World} {H:Nd->Nd} {k:Nd} {u:Option Addr} {p:yL} {o:Nat} {n:Bool} {S':Nat->Prop} (l:Ae (cH w2 e (qA b) r d bl) (j6 wr w2 i) b t1 r d H k u p o n S') (q:Below (cH w2 e (qA b) r d bl).heap.size (cH w2 e (qA b) r d bl) w4):
 cU w4 f (qA b) (str r) d bl/\wj G w0 v f e j u0 T E V g (cH w4 f u p o n) (fun x=>F (H x)) k (fun x=>S x\/j6 wr w2 i x) S' u p o n (qA b) r d bl:=by
 have U:=c.here.lt;have W:=c.last.lt;have X:=c.res.lt;have hz:=C.size;have B0:=r6 w2 e (qA b) r d bl;have B1:=q.size;have B2:=r6 w4 f u p o n;have D:∀x,i x->x<wr.heap.size/\x≠f/\x≠e/\x≠j:=fun x a=>(c.sub x (c.root.1 x a)).2
 have w:∀x,(S x\/j6 wr w2 i x)->(v x\/w0.heap.size<=x)/\x<w2.heap.size/\x≠f/\x≠e/\x≠j:=fun x a=>by
  rcases a with a|a|⟨a,A1⟩
  ·have:=c.sub x a;exact⟨this.1,by omega,this.2.2⟩
  ·have:=c.sub x (c.root.1 x a);exact⟨this.1,by omega,this.2.2⟩
  ·have:=c.wrote.size;exact⟨.inr (by omega),A1,by omega,by omega,by omega⟩
 have b24:∀x,x<w2.heap.size->x≠e->w4.heap[x]? =w2.heap[x]? :=fun x a m=>(q.block x (by omega)).trans (lZ _ _ _ _ _ _ _ m)
 have b45:∀x,x≠f->(cH w4 f u p o n).heap[x]? =w4.heap[x]? :=fun x m=>lZ _ _ _ _ _ _ _ m
 have y:∀x,x<wr.heap.size->¬i x->w2.heap[x]? =wr.heap[x]? :=fun x a m=>C.block x a m
 have A4:¬i f:=fun h=>(D f h).2.1 rfl
 have A5:¬i e:=fun h=>(D e h).2.2.1 rfl
 have A6:¬i j:=fun h=>(D j h).2.2.2 rfl
 have A7:=c.here.kept (y f U A4);have K:cU w4 f (qA b) (str r) d bl:=A7.kept (b24 f (by omega) h1);have A8:cU w4 e (qA b) (str r) d bl:=by
  have:cU (cH w2 e (qA b) r d bl) e (qA b) (str r) d bl:=(c.last.kept (y e W A5)).set _ _ _ _;exact this.kept (q.block e (by omega))
 have A9:cU w4 j none ⟨#[]⟩ 0 false:=(c.res.kept (y j X A6)).kept (b24 j (by omega) (Ne.symm h3));refine⟨K,?_⟩;have z:cV G (g+1) t r d bl=(H (cV G g k p o n).1,(cV G g k p o n).2):=by
  show kS t (fun t1=>fJ (cV G g) t1 r d) (cf G t d bl)=_;rw[I];exact l.same G g
 have P:=l.hole.1;have A0:t1.some:=by have:=Cb c.ok I m;cases t1<;>first|exact this.elim|trivial
 obtain⟨b',A2,A3,hu,J,B⟩:=(Bh c N).ah A0;cases hu
 have R:(cH w4 f u p o n).heap[b]? =(cH w2 e (qA b) r d bl).heap[b]? :=by
  have:=w b (.inr J);rw[b45 b this.2.2.1];exact q.block b (by omega)
 refine⟨?_,?_,?_,?_,?_,?_,l.ok,l.lz,l.deep,?_,?_,?_,?_,?_,?_⟩
 ·exact K.set _ _ _ _
 ·exact A8.kept (b45 e (Ne.symm h1))
 ·exact A9.kept (b45 j (Ne.symm h2))
 ·have Y:fF (cH w2 e (qA b) r d bl) (fun x=>S x\/j6 wr w2 i x) (pV u0) F (j6 wr w2 i) (ptr b):=by
   refine c.root.step (fun x a Z=>?_) fun x a=>?_
   ·have:=c.sub x a;rw[lZ _ _ _ _ _ _ _ this.2.2.2.1];exact y x this.2.1 Z
   ·rcases a with a|⟨a,_⟩
    ·exact .inl a
    ·exact .inr fun O=>by have:=(c.sub x O).2.1;omega
  refine(Y.trans l.hole).kept fun x a _=>?_
  have:=w x a;rw[b45 x this.2.2.1];exact q.block x (by omega)
 ·refine l.at_.kept fun x a _=>?_
  have:=w x (.inr (P x a));rw[b45 x this.2.2.1];exact q.block x (by omega)
 ·intro x a;have:=w x a;exact⟨this.1,by omega,this.2.2⟩
 ·intro s;have:=l.less s;have:=c.fuel m;omega
 ·rw[c.tree,z]
 ·rw[c.err,z]
 ·intro s A;have:=c.more m A;rw[z] at this;rw[<-l.more s];exact this
 ·intro s A;have:=c.more m A;rw[z,s,sw] at this;refine .inr ⟨b,t1,A2,A3,rfl,?_,?_,(l.last s).trans this⟩
  ·have:=w b (.inr J);omega
  ·exact R.trans B
 ·have Q:bG v w0 w2:=c.wrote.trans C fun x a=>(c.sub x (c.root.1 x a)).1
  have h3:bG v w0 (cH w2 e (qA b) r d bl):=Q.cH e p2 _ _ _ _;exact(h3.ki q).cH f p1 _ _ _ _
def zU(w:World)(S:Nat->Prop)(u:Option Addr)(T:Nd)(E:Nat)(V:yL)(e:Ending)(w':World):Prop:=
 (∃S',At w' T S' (pV u)/\∀x,S' x->S x\/w.heap.size<=x)/\bG S w w'/\
  ((E=0/\∃ul rl dl bl,e=rV (tV #[cd (pV ul) (str rl) dl bl,iV .i64 0])/\rp w' w'.heap.size ul rl V)\/
   (E≠0/\e=rV (tV #[cd (pV none) ⟨#[]⟩ 0 false,iV .i64 (E:Int)])))
theorem Ij(M:Nat->Prop)(w)(m:Nat)(A:Option Addr)(u t S)(G:yB->Option yB)(key:yB)(hk:key.size<=40)(hA:At w t S (pV u))(hK:aw t 0)
 (O:eU w m A u) (hG:jJ M w A G) (y:∀k t,G k=some t->t.size<=maxLen) (TB:az w) (C3:∀x,S x->3<=x/\x≠m/\¬M x) (hM:∀x,M x->x<w.heap.size):
 Calls yP 77 #[pV (qA m),sV key] w (zU w S u (cV G 81 t (bZ key.data.toList) 0 false).1 (cV G 81 t (bZ key.data.toList) 0 false).2 (aG (cV G 81 t (bZ key.data.toList) 0 false).1 (bZ key.data.toList))):=by
 have t1:w.cell? ⟨m,1,none⟩=some (pV u):=by rw[Q5 w m 1 _ _ _ O];rfl
 have F9:m<w.heap.size:=(Q0.1 O).1;have HS:Hid (∀W:World,Calls yP 80 #[pV u,sV key] W fun e w'=>e=rV (cd (pV u) (str (bZ key.data.toList)) 0 false)/\yW W w'):=fun W=>uo u key (by omega) W
 have HA:=aa hA.cut;have HK:=aa hK;have E0:=aa O;have HG:Hid (jJ M w A G/\∀k t,G k=some t->t.size<=maxLen):=⟨hG,y⟩
 have D9:=aa TB;have A0:=aa C3;have HM:=aa hM;have HL:Hid ((bZ key.data.toList).length<=80):=by show _<=80;rw[ow];have:key.data.toList.length=key.size:=(by simp);omega
 have HN:Hid (ak (bZ key.data.toList)):=vL _;obtain⟨T,P⟩:=yX ((cV G 81 t (bZ key.data.toList) 0 false).1)
 obtain⟨E,A4⟩:=yX ((cV G 81 t (bZ key.data.toList) 0 false).2)
 obtain⟨V,Q⟩:=yX (aG (cV G 81 t (bZ key.data.toList) 0 false).1 (bZ key.data.toList))
 rw[<-P,<-A4];rw[<-P] at Q;rw[<-Q];have A1:=aa P;have D6:=aa A4;have B4:=aa Q;clear O hk hA hK hG y TB C3 hM P A4 Q;generalize bZ key.data.toList=K0 at*;unfold cd at*;go_enter func77,ntmps77
 go_wp2_with fail
 refine(HS.out _).mono ?_;rintro e w1 ⟨rfl,R⟩;obtain⟨⟨c0,c1,c2,c3⟩,⟨f0,f1,f2,f3⟩,C7⟩:=Ax R;have G5:w.heap.size<w1.heap.size:=by have:=R.size;simp at this;omega
 have D0:cU w1 w.heap.size none ⟨#[]⟩ 0 false:=(R.block _ (by simp)).trans (Rl _ _);have D4:=aa C7;have D7:=aa D0;clear R C7 D0 HS c0 c1 c2 c3 f0 f1 f2 f3 t1;go_wp2_with fail
 go_loopg [8] 81 (fun g ee wr=>∃J l F n X r d bl C z I H,wj G w (fun x=>S x/\x<w.heap.size) w1.heap.size (w1.heap.size+1) w.heap.size u T E V g wr J l F n X r d bl C z I H)
 case atStart=>
  have F8:∀{W:World},yW w W->At W t (fun x=>S x/\x<w.heap.size) (pV u):=fun hW=>HA.out.below hW
  have C6:=(D4.out.alloc (o:=.cells #[pV u,sV (str K0),iV .i64 0,bV false] 127) (by omega)).alloc (o:=.cells #[pV u,sV (str K0),iV .i64 0,bV false] 127) (by simp;omega);refine⟨fun x=>x,t,_,_,u,K0,0,false,u,K0,0,false,⟨?_,?_,?_,fF.refl _ _ _,F8 C6,fun x i=>⟨.inl i,by simp;omega,by omega,by omega,by omega⟩,HK.out,HN.out,by have:=HL.out;omega,fun _=>by have:=HL.out;omega,A1.out,D6.out,fun _ _=>?_,fun h _=>.inl ?_,bG.gj C6⟩⟩
  ·unfold cU;rw[RL _ _ _ (by simp)];exact Rl _ _
  ·exact wh _ _ _ (by simp)
  ·unfold cU;rw[RL _ _ _ (by simp;omega),RL _ _ _ G5];exact D7.out
  ·rw[B4.out,A1.out]
  ·subst h;have h1:Value.pointer u=pV none:=HA.out;cases h1;refine⟨rfl,?_⟩;rw[B4.out,A1.out,sw];rfl
 case round=>
  obtain⟨J,l,F,n,X,r,d,bl,C,z,I,H,f⟩:=hrel;have j:=aa f;by_cases y:l.some
  ·obtain⟨b,D2,D3,hu,G4,B⟩:=f.at_.ah y;cases hu
   have A8:l≠.nil:=fun e=>by rw[e] at y;exact y
   obtain⟨L,C8⟩:∃L,gk=L+1:=⟨gk - 1,by have:=f.fuel A8;omega⟩
   have A9:∀x,x<w.heap.size->¬S x->wr.heap[x]? =w.heap[x]? :=fun x i hn=>f.wrote.block x i fun h=>hn h.1
   have C5:eU wr m A u:=E0.out.kept (A9 m F9 fun h=>(A0.out m h).2.1 rfl);have C1:jJ M wr A G:=fun W h h32 hW=>HG.out.1 W h h32 fun x i=>(hW x i).trans (A9 x (HM.out x i) fun h=>(A0.out x h).2.2 i)
   have C4:az wr:=D9.out.mK f.wrote fun x i=>(A0.out x i.1).1
   have D:Hid (Calls yP 112 #[pV (qA m),pV (qA b),iV .i64 (d:Int),bV bl] wr (tI wr n b (cf G l d bl))):=BX M wr m b A u G l n d bl C5 f.at_ f.ok C1 HG.out.2 (by have:=f.deep;omega) C4;obtain⟨a0,a1,a2,a3⟩:=f.here.cells;have A6:=f.here.lt;have A7:=f.last.lt;have G0:w1.heap.size≠w.heap.size:=by omega
   have G1:w1.heap.size+1≠w.heap.size:=by omega
   have B3:=aa A8;have Y:=aa C8;clear C5 C1 C4 A9 A8 C8 B G4;cases hR:cf G l d bl with
   |error c=>
    rw[hR] at D;have hc:=uG hR;have G8:((c:Int) != 0)=true:=by simp;omega
    have hO:cV G gk l r d bl=(l,c):=by rw[Y.out];show kS l _ (cf G l d bl)=_;rw[hR];rfl
    have K:Hid (T=J l/\E=c):=⟨by rw[f.tree,hO],by rw[f.err,hO]⟩
    have HC:Hid (c≠0):=by show c≠0;omega
    obtain⟨r0,r1,r2,r3⟩:=f.res.cells;obtain⟨B5,B6,B7,B8⟩:=f.res.free;have s:=f.res.lt;clear f hR hO hc;go_wp2_with fail
    refine D.out.mono ?_;rintro e w2 ⟨rfl,q⟩;have G6:=q.size;have s0:=(q.cell (p:=⟨w.heap.size,0,none⟩) s).trans r0;have s1:=(q.cell (p:=⟨w.heap.size,1,none⟩) s).trans r1;have s2:=(q.cell (p:=⟨w.heap.size,2,none⟩) s).trans r2;have s3:=(q.cell (p:=⟨w.heap.size,3,none⟩) s).trans r3;have q0:=(q.frozen (p:=⟨w.heap.size,0,none⟩) s).trans B5;have q1:=(q.frozen (p:=⟨w.heap.size,1,none⟩) s).trans B6;have q2:=(q.frozen (p:=⟨w.heap.size,2,none⟩) s).trans B7;have q3:=(q.frozen (p:=⟨w.heap.size,3,none⟩) s).trans B8;have B1:=aa q;clear q D;go_wp2_with fail
    refine Rf (v:=tV #[cd (pV none) ⟨#[]⟩ 0 false,iV .i64 (c:Int)]) (by simp[results,results77,go_sem,cd,s0,s1,s2,s3]) rfl ?_;show zU w S u T E V _ (cH w2 w.heap.size none [] 0 false);refine⟨⟨F,?_,fun x i=>(j.out.sub x i).1.imp (fun h=>h.1) id⟩,((j.out.wrote.mono fun x i=>i.1).ki B1.out).cH w.heap.size (QU _) _ _ _ _,.inr ⟨by rw[K.out.2];exact HC.out,by rw[K.out.2]⟩⟩;rw[K.out.1];exact((j.out.root.fill j.out.at_).below B1.out).kept fun x i _=>lZ _ _ _ _ _ _ _ (j.out.sub x i).2.2.2.2
   |ok t1=>
    rw[hR] at D;have Z:=aa hR;obtain⟨b0,b1,b2,b3⟩:=f.last.cells;obtain⟨F0,F2,F4,F6⟩:=f.last.free;have C9:∀x,(x=w1.heap.size\/x=w1.heap.size+1)->¬n x:=fun x i hS=>by
     have:=f.sub x (f.root.1 x hS);omega
    have B2:=aa C9;clear f hR C9;go_wp2_with fail
    refine D.out.mono ?_;rintro e w2 ⟨rfl,B9,N⟩;have G6:=N.size;have k1:w2.heap[w1.heap.size]? =wr.heap[w1.heap.size]? :=N.block _ A6 (B2.out _ (.inl rfl));have k2:w2.heap[w1.heap.size+1]? =wr.heap[w1.heap.size+1]? :=N.block _ A7 (B2.out _ (.inr rfl));have E2:=(Rd (a:=⟨w1.heap.size,0,none⟩) k1).trans a0;have E3:=(Rd (a:=⟨w1.heap.size,1,none⟩) k1).trans a1;have E4:=(Rd (a:=⟨w1.heap.size,2,none⟩) k1).trans a2;have E5:=(Rd (a:=⟨w1.heap.size,3,none⟩) k1).trans a3;have E6:=(Rd (a:=⟨w1.heap.size+1,0,none⟩) k2).trans b0;have E7:=(Rd (a:=⟨w1.heap.size+1,1,none⟩) k2).trans b1;have E8:=(Rd (a:=⟨w1.heap.size+1,2,none⟩) k2).trans b2;have E9:=(Rd (a:=⟨w1.heap.size+1,3,none⟩) k2).trans b3;obtain⟨F1,F3,F5,F7⟩:=(j.out.last.kept k2).free;have B0:=aa B9;have E1:=aa N;clear B9 N D k1 k2 a0 a1 a2 a3 b0 b1 b2 b3 F0 F2 F4 F6;go_wp2_with fail
    have C2:Calls yP 113 #[gV #[pV (qA b),sV (str r),iV .i64 (d:Int),bV bl]] (cH w2 (w1.heap.size+1) (qA b) r d bl) (GV (cH w2 (w1.heap.size+1) (qA b) r d bl) (j6 wr w2 n) b t1 r d):=
     Mp _ (j6 wr w2 n) t1 b r d bl (Bh j.out B0.out) (l4 j.out.ok Z.out).1 j.out.lz j.out.deep (Cb j.out.ok Z.out B3.out)
    refine C2.mono ?_;rintro e w4 ⟨G7,k,uk,r',d',A2,S',rfl,hN,C0⟩;have A5:=j.out;rw[Y.out] at A5;obtain⟨U,D1⟩:=Jk A5 B3.out (by omega) G0 G1 (by omega) (by omega) Z.out B0.out E1.out hN C0;have D8:=aa D1;obtain⟨x0,x1,x2,x3⟩:=U.cells;obtain⟨y0,y1,y2,y3⟩:=U.free;have G9:=U.lt;unfold cd;clear hN C0 D1 U C2 A5 E2 E3 E4 E5 E6 E7 E8 E9 F1 F3 F5 F7 A6 A7;go_wp2_with fail
    go_roundg L
    case measure=>have:=Y.out;omega
    case rel=>exact⟨_,k,_,S',uk,r',d',A2,some ⟨b,0,none⟩,r,d,bl,D8.out⟩
  ·have G3:l=.nil:=by cases l<;>first|rfl|exact absurd trivial y
   subst G3;have hu:=f.at_;cases hu
   obtain⟨r0,r1,r2,r3⟩:=f.res.cells;obtain⟨B5,B6,B7,B8⟩:=f.res.free;obtain⟨a0,a1,a2,a3⟩:=f.here.cells;obtain⟨b0,b1,b2,b3⟩:=f.last.cells;have A6:=f.here.lt;have A7:=f.last.lt;have A3:E=0:=by rw[f.err,sw]
   have K:Hid (T=J .nil):=by show _=_;rw[f.tree,sw]
   have D5:=aa A3;have HD:Hid (rp wr wr.heap.size C z V):=f.done rfl A3;clear f A3;go_wp2_with fail
   refine Rf (v:=tV #[cd (pV C) (str z) I H,iV .i64 0]) (by simp[results,results77,go_sem,cd,r0,r1,r2,r3]) rfl ?_;show zU w S u T E V _ (cH wr w.heap.size C z I H);refine⟨⟨F,?_,fun x i=>(j.out.sub x i).1.imp (fun h=>h.1) id⟩,(j.out.wrote.mono fun x i=>i.1).cH w.heap.size (QU _) _ _ _ _,.inl ⟨D5.out,C,z,I,H,rfl,?_⟩⟩
   ·rw[K.out];exact(j.out.root.fill j.out.at_).kept fun x i _=>lZ _ _ _ _ _ _ _ (j.out.sub x i).2.2.2.2
   ·rcases HD.out with h|⟨b,t,D2,D3,h1,h2,h3,h4⟩
    ·exact .inl h
    ·refine .inr ⟨b,t,D2,D3,h1,by rw[r6];exact h2,?_,h4⟩;have G2:b≠w.heap.size:=fun e=>by
      have h5:=j.out.res;unfold cU at h5;unfold bL at h3;rw[e,h5] at h3;cases h3
     exact(lZ _ _ _ _ _ _ _ G2).trans h3
structure dH(w:World)(tb:Nat)(st:Option Addr)(S:Nat->Prop)(t:Nd):Prop where
 at_:∃u,eU w tb st u/\At w t S (pV u)
 ok:aw t 0
 own:∀x,S x->3<=x/\x≠tb/\x<w.heap.size
structure lp(M:Nat->Prop)(w:World)(st:Option Addr)(G:yB->Option yB)(S:Nat->Prop):Prop where
 oy:jJ M w st G
 small:∀k t,G k=some t->t.size<=maxLen
 lt:∀x,M x->x<w.heap.size
 apart:∀x,S x->¬M x
 bt:az w
def fQ(w:World)(a:Nat)(b:Option Addr)(S:Nat->Prop)(t:Nd)(w':World):Prop:=
 (∃S',dH w' a b S' t/\∀x,S' x->S x\/w.heap.size<=x)/\bG (fun x=>S x\/x=a) w w'
def aE(G:yB->Option yB)(t:Nd)(key:yB):Nd×Nat:=cV G 81 t (aC key) 0 false
theorem jf(G:yB->Option yB)(t key)(h:aw t 0):aw (aE G t key).1 0:=(uS G 81 t (aC key) 0 false h (ch key)).ok
theorem kA(G:yB->Option yB)(t)(key:yB)(h:aw t 0)(a:key.size<=40)(h0:(aE G t key).2=0):dw (aE G t key).1 (aC key):=
 LN G 81 t (aC key) 0 false h (ch key) (by rw[gA];omega) h0
theorem fQ.below{w w1 w2 b c S t}(h:fQ w b c S t w1)(a:yW w1 w2):fQ w b c S t w2:=by
 obtain⟨⟨S',⟨⟨u,h1,h2⟩,h3,h4⟩,h5⟩,h6⟩:=h;exact⟨⟨S',⟨⟨u,h1.kept (a.block b h1.lt),h2.below a⟩,h3,fun x d=>by have:=h4 x d;have:=a.size;exact⟨by omega,by omega,by omega⟩⟩,h5⟩,h6.ki a⟩
theorem rJ{M w b f S t G}(j:dH w b f S t)(c:lp M w f G S)(key:yB)(k:key.size<=40):
 Calls yP 77 #[pV (qA b),sV key] w fun e w'=>fQ w b f S (aE G t key).1 w'/\(∃g d i bl,e=rV (tV #[cd (pV g) (str d) i bl,iV .i64 ((aE G t key).2:Int)])/\((aE G t key).2=0->rp w' w'.heap.size g d (aG (aE G t key).1 (aC key)))):=by
 obtain⟨⟨u,h1,h2⟩,h3,h4⟩:=j;refine(Ij M w b f u t S G key k h2 h3 h1 c.oy c.small c.bt (fun x a=>⟨(h4 x a).1,(h4 x a).2.1,c.apart x a⟩) c.lt).mono ?_;rintro e w' ⟨⟨S',q1,q2⟩,q3,q4⟩;have l:w'.heap[b]? =w.heap[b]? :=q3.block b h1.lt fun h=>(h4 b h).2.1 rfl
 refine⟨⟨⟨fun x=>S' x/\x<w'.heap.size,⟨⟨u,h1.kept l,q1.cut⟩,jf G t key h3,fun x a=>?_⟩,fun x a=>q2 x a.1⟩,q3.mono fun x a=>.inl a⟩,?_⟩
 ·have h0:=c.bt.size;rcases q2 x a.1 with h|h
  ·exact⟨(h4 x h).1,(h4 x h).2.1,a.2⟩
  ·have:=h1.lt;exact⟨by omega,by omega,a.2⟩
 ·rcases q4 with⟨e0,g,d,i,bl,e1,e2⟩|⟨e0,e1⟩
  ·exact⟨g,d,i,bl,by rw[e1];unfold aE aC at*;rw[e0];rfl,fun _=>e2⟩
  ·exact⟨none,[],0,false,e1,fun h=>absurd h e0⟩
theorem dH.now{w w' b a S t}(h:dH w b a S t)(c:yW w w'):fQ w b a S t w':=
 fQ.below ⟨⟨S,h,fun _ hx=>.inl hx⟩,bG.refl _ _⟩ c
theorem rL{w d a V}(f:rp w w.heap.size d a V)(c:Nat)(bl:Bool)(W)(g:yW w W):
 Calls yP 78 #[cd (pV d) (str a) c bl] W fun e w'=>e=rV (sV (str V))/\yW W w':=by
 rcases f with⟨rfl,rfl⟩|⟨b,t,i,j,rfl,h,B,rfl⟩
 ·exact Im _ _ _ _
 ·exact Iq b t i j a c bl W ((g.block b h).trans B)
def bg(G:yB->Option yB)(t:Nd)(key:yB):Nd:=if 40<key.size then t else(aE G t key).1
def iQ(G:yB->Option yB)(t:Nd)(key:yB):yB:=if 40<key.size then⟨#[]⟩ else if(aE G t key).2=0 then str (aG (aE G t key).1 (aC key)) else⟨#[]⟩
def cE(G:yB->Option yB)(t:Nd)(key:yB):Nat:=if 40<key.size then 1 else(aE G t key).2
theorem Al{M w tb st S t G}(hT:dH w tb st S t)(hO:lp M w st G S)(key:yB)(A6:key.size<=maxLen):
 Calls yP 37 #[.pointer (some ⟨tb,0,none⟩),.string key] w fun e w'=>e=.returned (.tuple #[.string (iQ G t key),.int .i64 (cE G t key:Int)])/\fQ w tb st S (bg G t key) w':=by
 unfold maxLen at A6;by_cases hk:40<key.size
 ·have HE:Hid (iQ G t key=⟨#[]⟩/\cE G t key=1/\bg G t key=t):=by unfold iQ cE bg;rw[QX hk,QX hk,QX hk];exact⟨rfl,rfl,rfl⟩
  have HT:Hid (dH w tb st S t):=hT;have A5:(40:Int)<(key.size:Int):=by omega
  clear hT hO hk;generalize iQ G t key=V at*;generalize cE G t key=E at*;generalize bg G t key=T at*;go_enter func37,ntmps37
  go_wp2_with fail
  go_ret2
  obtain⟨h1,h2,h3⟩:=HE.out;rw[h1,h2,h3];exact⟨rfl,HT.out.now (Q1 _ _)⟩
 ·have A2:key.size<=40:=by omega
  have A0:=rJ hT hO key A2;have HE:Hid (cE G t key=(aE G t key).2/\bg G t key=(aE G t key).1/\iQ G t key=if(aE G t key).2=0 then str (aG (aE G t key).1 (aC key)) else⟨#[]⟩):=by unfold iQ cE bg;rw[QW hk,QW hk,QW hk];exact⟨rfl,rfl,rfl⟩
  have HW:Hid (Calls yP 77 #[.pointer (some ⟨tb,0,none⟩),.string key] w fun e w'=>fQ w tb st S (aE G t key).1 w'/\(∃(ul:Option Addr) (rl:yL) (dl:Nat) (bl:Bool),e=.returned (.tuple #[.agg #[.pointer ul,.string (str rl),.int .i64 (dl:Int),.bool bl],.int .i64 ((aE G t key).2:Int)])/\((aE G t key).2=0->rp w' w'.heap.size ul rl (aG (aE G t key).1 (aC key))))):=A0;have A5:decide ((40:Int)<(key.size:Int))=false:=by simp;omega
  clear hT hO hk A2 A0;generalize iQ G t key=V at*;generalize cE G t key=E at*;generalize bg G t key=T at*;generalize aG (aE G t key).1 (aC key)=F at*;generalize (aE G t key).1=T1 at*;generalize (aE G t key).2=E1 at*;by_cases h0:E1=0
  ·subst h0;go_enter func37,ntmps37
   go_wp2_with fail
   refine HW.out.mono ?_;rintro e w1 ⟨hN,ul,rl,dl,bl,rfl,hL⟩;have HN:Hid (fQ w tb st S T1 w1):=hN;have HV:Hid (∀W,Below w1.heap.size w1 W->Calls yP 78 #[.agg #[.pointer ul,.string (str rl),.int .i64 (dl:Int),.bool bl]] W fun e w'=>e=.returned (.string (str F))/\Below W.heap.size W w'):=fun W hW=>rL (hL (by first|trivial|rfl)) dl bl W hW
   clear hN hL HW;go_wp2_with fail
   refine(HV.out _ ((Q1 _ _).alloc (QU _) _)).mono ?_;rintro e w2 ⟨rfl,A1⟩;have A3:Hid (Below w1.heap.size w1 w2):=((Q1 w1.heap.size w1).alloc (QU _) _).trans (A1.mono (by simp));clear A1 HV;go_wp2_with fail
   go_ret2
   obtain⟨h1,h2,h3⟩:=HE.out;rw[h1,h2,h3];exact⟨rfl,HN.out.below A3.out⟩
  ·have A7:((E1:Int) != 0)=true:=by simp;omega
   have A4:Hid (E=E1/\T=T1/\V=⟨#[]⟩):=by
    obtain⟨h1,h2,h3⟩:=HE.out;rw[QW h0] at h3;exact⟨h1,h2,h3⟩
   clear HE h0;go_enter func37,ntmps37
   go_wp2_with fail
   refine HW.out.mono ?_;rintro e w1 ⟨hN,ul,rl,dl,bl,rfl,hL⟩;have HN:Hid (fQ w tb st S T1 w1):=hN;clear hN hL HW;go_wp2_with fail
   go_ret2
   obtain⟨h1,h2,h3⟩:=A4.out;rw[h1,h2,h3];exact⟨rfl,HN.out.below ((Q1 _ _).alloc (QU _) _)⟩
theorem gn(t:Nd):t.isNil=false↔t.some:=by cases t<;>simp[Nd.isNil,Nd.some]
theorem vE(v)(ks:Nat->Nd):∀n,2<=cW v ks n->∃i,i<n/\(ks i).some
 | 0,h=>by simp only[cW] at h;split at h<;>omega
 |n+1,h=>by
  by_cases e:(ks n).isNil=true
  ·simp only[cW,e,RJ,Nat.add_zero] at h
   obtain⟨i,h1,h2⟩:=vE v ks n h
   exact⟨i,by omega,h2⟩
  ·exact⟨n,by omega,(gn _).1 (by cases h:(ks n).isNil with|true=>exact absurd h e|false=>rfl)⟩
theorem mZ(v)(ks:Nat->Nd)(i:Nat)(h:(ks i).some):∀n,i<n->cW v ks n=cW v (aD ks i .nil) n+1
 | 0,hi=>by omega
 |n+1,hi=>by
  simp only[cW]
  by_cases e:i=n
  ·subst e
   have h1:∀m,m<=i->cW v ks m=cW v (aD ks i .nil) m:=fun m=>by
    induction m with
    |zero=>intro _;rfl
    |succ m ih=>intro a;simp only[cW,ih (by omega),dJ ks i .nil m (by omega)]
   rw[h1 i (QU _),df,(gn _).2 h];rfl
  ·rw[mZ v ks i h n (by omega),dJ ks i .nil n (by omega)];omega
theorem Ek(v)(ks:Nat->Nd)(h:v≠[]):∀n,1<=cW v ks n
 | 0=>by simp only[cW];rw[QW h];exact QU _
 |n+1=>by have:=Ek v ks h n;simp only[cW];omega
theorem NF(v)(ks:Nat->Nd)(i n:Nat)(h:(ks i).some)(hi:i<n):1<=cW v ks n:=by rw[mZ v ks i h n hi];omega
theorem NB(v)(ks:Nat->Nd)(i j:Nat)(hi:i<16)(a:j<16)(b:i≠j)(h1:(ks i).some)(h2:(ks j).some):2<=cW v ks 16:=by
 rw[mZ v ks i h1 16 hi];have:=NF v (aD ks i .nil) j 16 (by rw[dJ _ _ _ _ (Ne.symm b)];exact h2) a;omega
theorem Eo(v)(ks:Nat->Nd)(i:Nat)(hi:i<16)(h1:(ks i).some)(a:v≠[]):2<=cW v ks 16:=by
 rw[mZ v ks i h1 16 hi];have:=Ek v (aD ks i .nil) a 16;omega
theorem vS:∀(t:Nd) (dep:Nat),t.some->rA t->oO dep t->dep<=80:=by
 intro t;induction t with
 |nil=>intro dep h;exact h.elim
 |unread h=>intro dep _ _ a;exact a
 |leaf h p v=>intro dep _ _ a;have:dep+p.length<=80:=a;omega
 |ext h p k _=>intro dep _ _ a;have:=a.1;omega
 |branch h v ks ih=>
  intro dep _ b a;obtain⟨i,hi,c⟩:=vE v ks 16 b.1;have:=ih i (dep+1) c (b.2 i hi) (a i hi);omega
structure iv(t:Nd)(dep:Nat):Prop where
 bu:lP t
 full:rA t
 deep:oO dep t
theorem BF(dep:Nat):iv .nil dep:=⟨trivial,trivial,trivial⟩
theorem rX{p v:yL}{dep}(b:v≠[])(a:dep+p.length<=80):iv (da p v) dep:=⟨b,trivial,a⟩
theorem uz{p}{k:Nd}{dep}(c:p≠[])(b:k.fw)(a:iv k (dep+p.length)):iv (fq p k) dep:=
 ⟨⟨c,b,a.bu⟩,a.full,⟨vS k _ (nk b) a.full a.deep,a.deep⟩⟩
theorem uA{ks v dep}(h2:2<=cW v ks 16)(a:∀i,i<16->iv (ks i) (dep+1)):iv (cP ks v) dep:=
 ⟨fun i hi=>(a i hi).bu,⟨h2,fun i hi=>(a i hi).full⟩,fun i hi=>(a i hi).deep⟩
theorem xA{p:yL}{t:Nd}{dep}(c:t.some)(a:iv t (dep+p.length)):iv (aQ p t) dep:=by
 by_cases b:p=[]
 ·subst b;rw[lF];exact a
 ·cases t with
  |nil=>exact c.elim
  |leaf h q v=>
   simp only[aQ,QW b];exact rX a.bu (by have:dep+p.length+q.length<=80:=a.deep;rw[Q4];omega)
  |ext h q k=>
   simp only[aQ,QW b];refine uz (fun e=>b (List.append_eq_nil_iff.1 e).1) a.bu.2.1 ⟨a.bu.2.2,a.full,?_⟩;have:=a.deep.2;rw[Q4,<-Nat.add_assoc];exact this
  |unread h=>simp only[aQ,QW b];exact uz b trivial a
  |branch h v ks=>simp only[aQ,QW b];exact uz b trivial a
theorem xz{n:Nd}{dep s}(hk:n.kind=1\/n.kind=2)(hs:s<n.path.length)(hS:iv n dep):iv (fU n (n.path.drop (s+1))) (dep+s+1)/\(fU n (n.path.drop (s+1))).some:=by
 cases n with
 |nil=>rcases hk with h|h<;>cases h
 |unread _=>rcases hk with h|h<;>cases h
 |branch _ _ _=>rcases hk with h|h<;>cases h
 |leaf h q v=>
  have A0:s<q.length:=hs;exact⟨rX hS.bu (by have:dep+q.length<=80:=hS.deep;show dep+s+1+(q.drop (s+1)).length<=80;rw[Q8];omega),trivial⟩
 |ext h q k=>
  have A0:s<q.length:=hs;refine⟨xA (nk hS.bu.2.1) ⟨hS.bu.2.2,hS.full,?_⟩,nf _ _ (nk hS.bu.2.1)⟩;have e:dep+s+1+(q.drop (s+1)).length=dep+q.length:=by rw[Q8];omega
  show oO (dep+s+1+(q.drop (s+1)).length) k;rw[e];exact hS.deep.2
theorem BE{n:Nd}{p v dep}(a:n.kind=1\/n.kind=2)(k:ak n.path)(j:ak p)(c:iv n dep)(A:dep+p.length<=80)(m:v≠[])(y:n.kind=1->n.value≠[])(f:n.kind=2->aF n.path p≠n.path.length)(u:n.path≠p):iv (eM n p v (aF n.path p)) dep:=by
 obtain⟨s,b⟩:=yX (aF n.path p)
 have g:=g9 n.path p;have t:s<n.path.length->s<p.length->n.path.getD s 0≠p.getD s 0:=fun h1 h2=>by rw[b] at h1 h2⊢;exact xx _ _ h1 h2
 have z:¬(s=n.path.length/\s=p.length):=fun h=>u (xy n.path p (by rw[<-b];exact h.1) (by rw[<-b];exact h.2))
 rw[<-b] at g f⊢;unfold eM;have x:dep+(p.take s).length=dep+s:=by rw[Rs];omega
 refine xA trivial ?_;rw[x];have l:∀i,iv (dG n s i) (dep+s+1):=fun i=>by
  unfold dG;by_cases h:s<n.path.length
  ·rw[QX h];unfold aD;split
   ·exact(xz a h c).1
   ·exact BF _
  ·rw[QW h];exact BF _
 have w:∀i,iv (cM n p v s i) (dep+s+1):=fun i=>by
  unfold cM;by_cases h:s<p.length
  ·rw[QX h];unfold aD;split
   ·exact rX m (by rw[Q8];omega)
   ·exact l i
  ·rw[QW h];exact l i
 refine uA ?_ fun i _=>w i
 by_cases h2:s<p.length
 ·have o:(cM n p v s (p.getD s 0).toNat).some:=by unfold cM;rw[QX h2,df];trivial
  by_cases h1:s<n.path.length
  ·have q:=t h1 h2;have d:(n.path.getD s 0).toNat≠(p.getD s 0).toNat:=fun e=>q (UInt8.toNat_inj.1 e)
   refine NB _ _ (n.path.getD s 0).toNat (p.getD s 0).toNat (jU k s) (jU j s) d ?_ o;unfold cM;rw[QX h2,dJ _ _ _ _ d];unfold dG;rw[QX h1,df];exact(xz a h1 c).2
  ·have r:n.kind=1:=a.resolve_right fun h=>f h (by omega)
   refine Eo _ _ (p.getD s 0).toNat (jU j s) o ?_;unfold dy;rw[QX h2,QW h1];exact y r
 ·have h1:s<n.path.length:=by have:=g.1;omega
  refine Eo _ _ (n.path.getD s 0).toNat (jU k s) ?_ ?_
  ·unfold cM;rw[QW h2];unfold dG;rw[QX h1,df];exact(xz a h1 c).2
  ·unfold dy;rw[QW h2];exact m
theorem Ic(t p v)(h:dw t p):(bF t p v).some:=by
 cases t with
 |nil=>trivial
 |unread _=>exact h.elim
 |leaf h q x=>
  simp only[bF];split
  ·trivial
  ·exact nf _ _ trivial
 |ext h q k=>
  simp only[bF];split
  ·trivial
  ·exact nf _ _ trivial
 |branch h x ks=>cases p<;>trivial
theorem Em(v)(ks:Nat->Nd)(c:Nat)(k:Nd)(h:k.some):∀n,cW v ks n<=cW v (aD ks c k) n
 | 0=>QU _
 |n+1=>by
  have:=Em v ks c k h n
  simp only[cW]
  by_cases e:n=c
  ·subst e;rw[df,(gn _).2 h];simp only[Bool.false_eq_true,Ry];split<;>omega
  ·rw[dJ _ _ _ _ e];omega
theorem El(v a)(ks:Nat->Nd)(h:a≠[]):∀n,cW v ks n<=cW a ks n
 | 0=>by simp only[cW];rw[QW h];split<;>omega
 |n+1=>by have:=El v a ks h n;simp only[cW];omega
theorem JE:∀(t) (p v) (dep:Nat),aI t->iv t dep->dw t p->ak p->dep+p.length<=80->v≠[]->iv (bF t p v) dep:=by
 intro t;induction t with
 |nil=>intro p v dep _ _ _ _ d b;exact rX b d
 |unread h=>intro p v dep _ _ f;exact f.elim
 |leaf h q x=>
  intro p v dep j a _ g d b;simp only[bF];by_cases e:q=p
  ·rw[QX e];exact rX b d
  ·rw[QW e];exact BE (n:=.leaf h q x) (.inl rfl) j.2.1 g a d b (fun _=>a.bu) (fun h=>by cases h) e
 |ext h q k ih=>
  intro p v dep j a f g d b;simp only[bF];by_cases e:aF q p=q.length
  ·rw[QX e];have u:=(g9 q p).2;exact uz a.bu.1 (wM a.bu.2.1 (f e)) (ih _ v _ j.2.2.2.2 ⟨a.bu.2.2,a.full,a.deep.2⟩ (f e) (cS g _) (by rw[Q8];omega) b)
  ·rw[QW e];refine BE (n:=.ext h q k) (.inr rfl) j.2.1 g a d b (fun h=>by cases h) (fun _=>e) fun e1=>e ?_
   have:=rU q [];rw[Rz] at this;have e2:=e1;rw[<-e2];exact this
 |branch h x ks ih=>
  intro p v dep j a f g d b;have l:∀i,i<16->iv (ks i) (dep+1):=fun i hi=>⟨a.bu i hi,a.full.2 i hi,a.deep i hi⟩
  cases p with
  |nil=>exact uA (Q7 a.full.1 (El _ _ _ b 16)) l
  |cons c r=>
   have m:=g c (QY ..);have o:=ih c.toNat r v (dep+1) (j.2.2 _ m) (l _ m) f (fun y s=>g y (QZ _ s)) (by simp at d;omega) b;have h2:=Em x ks c.toNat (bF (ks c.toNat) r v) (Ic (ks c.toNat) r v f) 16;have h3:=a.full.1;refine uA (ks:=aD ks c.toNat (bF (ks c.toNat) r v)) (v:=x) (Q7 h3 h2) fun i hi=>?_
   by_cases e:i=c.toNat
   ·subst e;rw[df];exact o
   ·rw[dJ _ _ _ _ e];exact l i hi
theorem wK{t p v dep}(a:aw t dep)(b:dw t p)(c:ak p)(d:dep+p.length<=80)(e:v≠[])(f:v.length<=160):aw (bF t p v) dep:=by
 have:=JE t p v dep a.aJ ⟨a.bu,a.full,a.deep⟩ b c d e;exact⟨this.bu,this.full,this.deep,s6 a.aJ b c (by omega) f⟩
end Go.Proofs.YtiimkkahmpmhdaaGreatDoor
