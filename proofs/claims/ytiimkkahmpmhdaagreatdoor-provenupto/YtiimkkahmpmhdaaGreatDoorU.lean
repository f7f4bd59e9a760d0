import Derived.Test.YtiimkkahmpmhdaaGreatDoorT
open Go.Proofs.Tryz
open Go.Proofs.Tryz renaming prog→yP
open Go.Value renaming string→sV,pointer→pV,int→iV,slice→lV,bool→bV,tuple→tV,agg→gV
open Go.Ending renaming returned→rV
namespace Go.Proofs.YtiimkkahmpmhdaaGreatDoor
open Go.RowKit
set_option maxRecDepth 100000
set_option maxHeartbeats 0
set_option linter.all false
structure gX(base:Nat)(bx:List (Nat×Obj))(v:Value)(cs:List yB):Prop where
 own:∀W:World,(∀b∈bx,W.heap[b.1]? =some b.2)->W.ownsRow base 9 1 v cs.length (cs.map Value.string)
 len:cs.length<=81
 small:∀c∈cs,c.size<=4096
theorem Kb{w:World}{base v n d}(h:w.ownsRow base 9 1 v n d):∃bx:List (Nat×Obj),(∀b∈bx,w.heap[b.1]? =some b.2/\base<=b.1)/\∀W:World,(∀b∈bx,W.heap[b.1]? =some b.2)->W.ownsRow base 9 1 v n d:=by
 have e:=h;rcases e.2 with⟨rfl,rfl⟩|⟨g,cap,c,rfl,a,j,rest⟩
 ·refine⟨[],(fun b a=>absurd a Si),fun W _=>⟨h.1,.inl ⟨rfl,rfl⟩⟩⟩
 ·refine⟨[(g,.cells c 9 (0,0))],fun b i=>?_,fun W f=>⟨h.1,.inr ⟨g,cap,c,rfl,a,f _ (Q2.2 rfl),rest⟩⟩⟩;rw[Q2.1 i];exact⟨j,a⟩
theorem SC.GH{A K n g w w2}(h:SC A K n g w)(c:yW w w2)(L:List (Nat×Obj))(e:∀b∈L,w2.heap[b.1]? =some b.2/\w.heap.size<=b.1):SC A K n (L++g) w2:=by
 have p:=h.size;obtain⟨l',o,m,h1,h2,f,h3⟩:=h;obtain⟨l2,i⟩:=yX (fun k=>if k<w.heap.size then l' k else mx A)
 have lo:∀k,k<w.heap.size->l2 k=l' k:=fun k d=>by rw[i];simp[d]
 have q:∀k,w.heap.size<=k->l2 k=mx A:=fun k d=>by rw[i];simp[SE.2 d]
 have l:Mv (fun _=>False) l' l2 w w2:=⟨c.os,c.tape,c.output,c.size,lo,fun k d _=>c.block k d⟩
 refine⟨l2,o,m.trans (l.mono fun _ f=>f.elim),h1,h2,f.move l id id fun _=>id,fun b a=>?_⟩;rcases Re.1 a with a|a
 ·exact⟨(e b a).1,q _ (e b a).2,Q7 p (e b a).2⟩
 ·obtain⟨b1,b2,b3⟩:=h3 b a;have j:b.1<w.heap.size:=(Q0.1 b1).1;exact⟨(c.block _ j).trans b1,(lo _ j).trans b2,b3⟩
theorem SC.held{A K d a w}(h:SC A K d a w):∀b∈a,w.heap[b.1]? =some b.2/\A.w.heap.size<=b.1:=fun b c=>by
 obtain⟨l',e,m,h1,h2,f,h3⟩:=h
 exact⟨(h3 b c).1,(h3 b c).2.2⟩
def rm(A:jF)(K:Nat)(d:List Nat)(b:List (Nat×Obj))(e:Ending)(w':World):Prop:=∃(v:Value) (c:Nat) (cs:List yB) (a:List (Nat×Obj)),e=rV (tV #[v,iV .i64 c])/\gX A.w.heap.size a v cs/\SC A K d (a++b) w'
theorem SC.ly{A K a d w}(h:SC A K a d w){g}(j:pQ A a g)(key:yB)(o:key.size<=maxLen):
 Calls yP 45 #[pV (qA g),sV key] w (rm A (K+250) a d):=by
 refine(h.prove j key o).mono ?_;rintro e w' ⟨v,c,cs,w1,m,f,k,p,h1,h2⟩;have q:=f.size;obtain⟨b,l,i⟩:=Kb p;exact⟨v,c,cs,b,m,⟨fun W n=>l9 (i W n) q,h1,h2⟩,f.GH k b l⟩
theorem uE(base:Nat):gX base [] (lV none 0 0) []:=⟨fun W _=>RO _ _ _ _,by decide,fun c a=>absurd a Si⟩
theorem BN{A K b a w}(h:SC A K b a w)(addr:yB)(k:addr.size<=maxLen):
 Calls yP 60 #[pV (qA A.sp),sV addr] w fun e w'=>rm A (K+250) b a e w'/\True:=by
 have h32:(ai addr).size=32:=eL _;have o:=aa (h.drew.sum addr k);have m:Hid (∀W,SC A K b a W->Calls yP 45 #[pV (qA A.tw),sV (ai addr)] W (rm A (K+250) b a)):=fun W q=>q.ly (.inl rfl) _ (by rw[h32];decide)
 have i:Hid (rm A (K+250) b a (rV (tV #[lV none 0 0,iV .i64 2])) w):=⟨_,2,[],[],rfl,uE _,h.mono (by omega)⟩
 obtain⟨c0,c1⟩:=h.cells;clear h h32;unfold maxLen at k;generalize ai addr=HA at*;by_cases h20:addr.size=20
 ·have p:(addr.size:Int)=20:=by omega
  go_enter func60,ntmps60
  go_upto_region 3 with fail
  clear i;go_region_held3 (fun w'=>w'.cell? ⟨A.sp,1,none⟩=some (pV (qA A.tw))) (go_keep) (first| (go_at_call 24;refine o.out.mono ?_;rintro e r ⟨rfl,f⟩;obtain⟨_,c12⟩:=f.cells;have n:Hid (SC A K b a r):=f;clear f) | (go_at_call 45;refine(m.out _ n.out).mono ?_;rintro e s ⟨v,c,cs,d,rfl,l,g⟩;obtain⟨_,c13⟩:=g.cells;have j:Hid (gX A.w.heap.size d v cs/\SC A (K+250) b (d++a) s):=⟨l,g⟩;clear g l))
  all_goals
   go_wp2_with fail
   go_ret2
   exact⟨⟨v,c,cs,d,rfl,j.out.1,j.out.2⟩,trivial⟩
 ·have p:¬(addr.size:Int)=20:=by omega
  go_enter func60,ntmps60
  go_wp2_with fail
  go_ret2
  exact⟨i.out,trivial⟩
def nB(A:jF)(K:Nat)(d:List Nat)(a:List (Nat×Obj))(e:Ending)(w':World):Prop:=∃(u v:Value) (c:Nat) (cs b:List yB) (b1 b2:List (Nat×Obj)),e=rV (tV #[u,v,iV .i64 c])/\gX A.w.heap.size b1 u cs/\gX A.w.heap.size b2 v b/\SC A K d (b1++(b2++a)) w'
theorem Qt{t}(a:aI t)(b:t.read)(r):(t.at r).length<=160:=by
 unfold Nd.at;split
 ·cases t with
  |nil=>exact b.elim
  |unread _=>exact b.elim
  |leaf h p v=>exact a.2.2.2
  |ext h p k=>exact Ri _
  |branch h v ks=>exact a.2.1
 ·exact Ri _
theorem Hi{t r d}(e:aw t d)(b:ak r):aw (aA t r d).1 (aA t r d).2.2.1/\ak (aA t r d).2.1:=by
 have a:aw (Nd.nil) 0/\ak []:=⟨lB 0,fun _ h=>by cases h⟩
 cases t with
 |nil=>exact a
 |unread _=>exact a
 |leaf _ _ _=>exact a
 |ext h q k=>
  simp only[aA];split
  ·exact⟨dY e,cS b _⟩
  ·exact a
 |branch h v ks=>
  cases r with
  |nil=>exact a
  |cons c r=>exact⟨di e _ (b c (QY ..)),fun y f=>b y (QZ _ f)⟩
theorem Ot:∀(f:Nat) (t) (r) (d:Nat) (bl:Bool) (a:List yB) (V x:yL),aw t d->ak r->V.length<=160->iR f t r d bl a V=some x->x.length<=160:=by
 intro f;induction f with
 |zero=>
  intro t r d bl a V x _ _ c h;unfold iR oF at h;split at h
  ·split at h
   ·cases h;exact c
   ·cases h
  ·cases h
 |succ f ih=>
  intro t r d bl a V x b g c h;unfold iR at h;split at h
  ·unfold oF at h;split at h
   ·cases h;exact c
   ·cases h
  ·next hn=>
   cases hs:nK t d bl a with
   |none=>rw[hs] at h;cases h
   |some y=>
    rw[hs] at h;have key:aw y.1 d/\y.1.read:=by
     unfold nK at hs;cases t with
     |unread h0=>
      cases a with
      |nil=>cases hs
      |cons p q=>
       simp only at hs;cases hrd:gh h0 p.data.toList d bl with
       |error _=>rw[hrd] at hs;cases hs
       |ok n=>rw[hrd] at hs;cases hs;exact⟨(nP hrd).1,(nP hrd).2.1⟩
     |nil=>exact absurd rfl hn
     |leaf _ _ _=>cases hs;exact⟨b,trivial⟩
     |ext _ _ _=>cases hs;exact⟨b,trivial⟩
     |branch _ _ _=>cases hs;exact⟨b,trivial⟩
    have e:=Hi key.1 g;exact ih _ _ _ _ _ _ x e.1 e.2 (Qt key.1.aJ key.2 r) h
theorem tU(a key)(b:List yB):(eo a key b).size<=160:=by
 unfold eo;split
 ·exact Ri _
 ·next h32=>
  split
  ·exact Ri _
  ·unfold rK;cases hf:iR 81 (cl a.data.toList) (aC key) 0 false b [] with
   |none=>exact Ri _
   |some v=>
    show(str v).size<=160;rw[aH];have c:a.data.toList.length=a.size:=by simp
    exact Ot 81 _ _ 0 false b [] v (rO (by omega)) (ch key) (Ri _) hf
structure my(w:World)(v:Value)(ps:List yB):Prop where
 at_:fD w v ps
 len:ps.length<=maxLen
 small:∀p∈ps,p.size<=maxLen
theorem KE{w w' v b}(h:fD w v b)(c:yW w w'):fD w' v b:=by
 obtain⟨a,cap,e,h⟩:=h;refine⟨a,cap,e,?_⟩;rcases h with h|⟨g,o,e2,h⟩
 ·exact .inl h
 ·exact .inr ⟨g,o,e2,fun i p d=>dC c (h i p d)⟩
theorem my.below{w w' v a}(h:my w v a)(b:yW w w'):my w' v a:=⟨KE h.at_ b,h.len,h.small⟩
theorem tT{w v b}(h:my w v b)(d key:yB)(j:key.size<=maxLen)(T:az w):Calls yP 47 #[sV d,sV key,v] w fun e w'=>(∃c:Nat,e=rV (tV #[sV (eo d key b),iV .i64 c]))/\yW w w':=by
 obtain⟨a,cap,rfl,_⟩:=id h.at_;refine(zV w d key a cap b h.at_ h.len h.small j T).mono ?_;rintro e w' ⟨f,g⟩;rw[wP] at f;refine⟨?_,g⟩;have:∃c:Nat,gf d key b=(c:Int):=by
  unfold gf;split
  ·exact⟨2,rfl⟩
  ·split
   ·exact⟨1,rfl⟩
   ·cases rK d key b
    ·exact⟨12,rfl⟩
    ·exact⟨0,rfl⟩
 obtain⟨c,i⟩:=this;exact⟨c,by rw[f,i]⟩
theorem AF{w v l}(h:my w v l)(b addr:yB)(B:addr.size<=maxLen)(T:az w):
 Calls yP 62 #[sV b,sV addr,v] w fun e w'=>jK e/\yW w w':=by
 have h32:(ai addr).size=32:=eL _;have z:Hid (∀W,yW w W->Calls yP 24 #[sV addr] W fun e w'=>e=rV (sV (ai addr))/\yW W w'):=fun W g=>iE addr B W (T.below g)
 have A:Hid (∀W,yW w W->Calls yP 47 #[sV b,sV (ai addr),v] W fun e w'=>(∃c:Nat,e=rV (tV #[sV (eo b (ai addr) l),iV .i64 c]))/\yW W w'):=fun W g=>tT (h.below g) b _ (by rw[h32];decide) (T.below g)
 have E:Hid (∀W,yW w W->Calls yP 98 #[sV (eo b (ai addr) l)] W (wE W)):=fun W g=>GJ W _ (Q7 (tU _ _ _) (by decide)) (T.below g)
 obtain⟨a,cap,rfl,_⟩:=h.at_;have J:=h.len;clear h h32 T;unfold maxLen at B J;generalize eo b (ai addr) l=VS at*;generalize ai addr=HA at*;generalize l.length=NP at*;obtain⟨o,i⟩:=yX (w.alloc (.cells #[iV .i64 0,sV ⟨#[]⟩,sV ⟨#[]⟩,sV ⟨#[]⟩] 103))
 have f:Hid (yW w o):=by rw[i];exact(Q1 _ _).alloc (QU _) _
 have j:Hid (fH o w.heap.size 103 (iV .i64 0) (sV ⟨#[]⟩) (sV ⟨#[]⟩) (sV ⟨#[]⟩)):=by rw[i];exact fH.new _ _ _ _ _ _
 have s:Hid (∀c:Nat,c≠0->jK (rV (tV #[gV #[iV .i64 0,sV ⟨#[]⟩,sV ⟨#[]⟩,sV ⟨#[]⟩],bV false,iV .i64 c]))):=fun c k=>⟨pS,false,c,rfl,rH,fun h=>absurd h k⟩
 by_cases N:b.size=32
 ·have K:(b.size:Int)=32:=by omega
  by_cases h20:addr.size=20
  ·have I:(addr.size:Int)=20:=by omega
   go_enter func62,ntmps62
   go_wp2_with fail
   rw[<-i];clear i;refine(z.out _ f.out).mono ?_;rintro e w1 ⟨rfl,t⟩;have p:=aa (f.out.trans (t.mono f.out.size));have q:=aa (j.out.below t j.out.lt);clear t j z;go_wp2_with fail
   refine(A.out _ p.out).mono ?_;rintro e w2 ⟨⟨c,rfl⟩,u⟩;have m:=aa (p.out.trans (u.mono p.out.size));have r:=aa (q.out.below u q.out.lt);clear u q A;by_cases k:c=0
   ·subst k;go_wp2_with fail
    refine(E.out _ m.out).mono ?_;rintro e w3 ⟨⟨a3,y,c3,rfl,C,D⟩,x⟩;have F:=aa (m.out.trans (x.mono m.out.size));obtain⟨⟨k0,k1,k2,k3⟩,f0,f1,f2,f3⟩:=(r.out.below x r.out.lt).cells;have d:Hid (jK (rV (tV #[cy a3,bV y,iV .i64 c3]))):=⟨a3,y,c3,rfl,C,D⟩
    obtain⟨n,G,L,H⟩:=a3;unfold cy at d⊢;clear x C D;go_wp2_with fail
    exact Rf (v:=tV #[gV #[iV .i64 n,sV G,sV L,sV H],bV y,iV .i64 c3]) (by simp[results,results62,go_sem,k0,k1,k2,k3]) rfl ⟨d.out,jC F.out (QU _) _ _ _ _⟩
   ·have M:((c:Int) != 0)=true:=by simp;omega
    obtain⟨⟨k0,k1,k2,k3⟩,f0,f1,f2,f3⟩:=r.out.cells;have d:=aa (s.out c k);clear k;go_wp2_with fail
    exact Rf (v:=tV #[gV #[iV .i64 0,sV ⟨#[]⟩,sV ⟨#[]⟩,sV ⟨#[]⟩],bV false,iV .i64 c]) (by simp[results,results62,go_sem,k0,k1,k2,k3]) rfl ⟨d.out,jC m.out (QU _) _ _ _ _⟩
  ·have I:¬(addr.size:Int)=20:=by omega
   obtain⟨⟨k0,k1,k2,k3⟩,f0,f1,f2,f3⟩:=j.out.cells;have d:=aa (s.out 2 (by decide));go_enter func62,ntmps62
   go_wp2_with fail
   (try rw[<-i])
   exact Rf (v:=tV #[gV #[iV .i64 0,sV ⟨#[]⟩,sV ⟨#[]⟩,sV ⟨#[]⟩],bV false,iV .i64 2]) (by simp[results,results62,go_sem,k0,k1,k2,k3]) rfl ⟨d.out,by first|exact f.out|exact jC f.out (QU _) _ _ _ _⟩
 ·have K:¬(b.size:Int)=32:=by omega
  obtain⟨⟨k0,k1,k2,k3⟩,f0,f1,f2,f3⟩:=j.out.cells;have d:=aa (s.out 2 (by decide));go_enter func62,ntmps62
  go_wp2_with fail
  (try rw[<-i])
  exact Rf (v:=tV #[gV #[iV .i64 0,sV ⟨#[]⟩,sV ⟨#[]⟩,sV ⟨#[]⟩],bV false,iV .i64 2]) (by simp[results,results62,go_sem,k0,k1,k2,k3]) rfl ⟨d.out,by first|exact f.out|exact jC f.out (QU _) _ _ _ _⟩
theorem Ik{w v u N j}(h:my w v N)(q:my w u j)(C addr b:yB)(hk:addr.size<=maxLen)(K:b.size<=maxLen)(T:az w):
 Calls yP 63 #[sV C,sV addr,sV b,v,u] w fun e w'=>tF e/\yW w w':=by
 have h32:(ai b).size=32:=eL _;have F:=aa (AF h C addr hk T);have E:Hid (∀W,yW w W->Calls yP 24 #[sV b] W fun e w'=>e=rV (sV (ai b))/\yW W w'):=fun W m=>iE b K W (T.below m)
 have Y:Hid (∀g W,yW w W->Calls yP 47 #[sV g,sV (ai b),u] W fun e w'=>(∃(c:Nat) (x:yB),e=rV (tV #[sV x,iV .i64 c])/\x.size<=160)/\yW W w'):=fun g W m=>(tT (q.below m) g _ (by rw[h32];decide) (T.below m)).mono fun _ _ ⟨⟨c,h1⟩,h2⟩=>⟨⟨c,_,h1,tU _ _ _⟩,h2⟩
 have S:Hid (∀x W,x.size<=160->yW w W->Calls yP 97 #[sV x] W fun e w'=>tF e/\yW W w'):=fun x W r m=>(Bt W x (Q7 r (by decide))).mono fun _ _ ⟨⟨v,c,h1,h2,_⟩,h3⟩=>⟨⟨v,c,h1,h2⟩,h3⟩
 obtain⟨a,cap,rfl,_⟩:=h.at_;obtain⟨H,I,rfl,_⟩:=q.at_;have L:=q.len;have D:Hid (∀W,Calls yP 99 #[lV H j.length I] W fun e w'=>e=rV (tV #[sV ⟨#[]⟩,iV .i64 (if 0<j.length then 12 else 0)])/\w'=W):=fun W=>Mh W H _ I L
 have R:Hid (∃c:Nat,(if 0<j.length then(12:Int) else 0)=c):=by
  by_cases h0:0<j.length
  ·exact⟨12,by rw[QX h0];rfl⟩
  ·exact⟨0,by rw[QW h0];rfl⟩
 clear h q h32 T L;unfold maxLen at K;generalize ai b=HT at*;generalize (if 0<j.length then(12:Int) else 0)=NC at*;generalize N.length=NP at*;generalize j.length=NQ at*;obtain⟨nc,A2⟩:=R.out;subst A2;by_cases h32:b.size=32
 ·have A0:(b.size:Int)=32:=by omega
  go_enter func63,ntmps63
  go_wp2_with fail
  refine F.out.mono ?_;rintro e w2 ⟨⟨a3,th,c,rfl,A3,hz⟩,A⟩;obtain⟨n,y,g,z⟩:=a3;unfold cy;obtain⟨f,i⟩:=yX (w2.alloc (.cells #[iV .i64 n,sV y,sV g,sV z] 103))
  have d:Hid (yW w f):=by rw[i];exact A.alloc A.size _
  have l:Hid (fH f w2.heap.size 103 (iV .i64 n) (sV y) (sV g) (sV z)):=by rw[i];exact fH.new _ _ _ _ _ _
  obtain⟨⟨k0,k1,k2,k3⟩,_⟩:=l.out.cells;clear A A3 hz F;by_cases o:c=0
  ·subst o;cases th with
   |false=>
    go_wp2_with fail
    (try rw[<-i])
    refine(D.out _).mono ?_;rintro e P ⟨rfl,A4⟩;subst A4;go_wp2_with fail
    go_ret2
    (try rw[<-i])
    exact⟨⟨⟨#[]⟩,nc,rfl,by decide⟩,d.out⟩
   |true=>
    have U:Hid (Calls yP 24 #[sV b] f.drew fun e w'=>e=rV (sV HT)/\yW f w'):=(E.out f.drew ⟨d.out.os,d.out.tape,d.out.output,d.out.size,d.out.block⟩).mono fun _ _ ⟨h1,h2⟩=>⟨h1,⟨h2.os,h2.tape,h2.output,h2.size,h2.block⟩⟩
    go_upto_region 8 with fail
    rw[<-i];clear i E D;go_cut [14,15] (fun Z sv P=>∃(c:Nat) (x:yB),Z=iV .i64 c/\sv=sV x/\Hid (x.size<=160)/\Hid (yW w P))
    case first=>
     go_region_held3 (fun w'=>w'.cell? ⟨w2.heap.size,2,none⟩=some (sV g)) (go_keep) (first| (go_at_call 24;refine U.out.mono ?_;rintro e O ⟨rfl,p⟩;obtain⟨⟨n0,n1,n2,n3⟩,_⟩:=(l.out.below p l.out.lt).cells;have s:Hid (yW w O):=d.out.trans (p.mono d.out.size);have G:Hid (fH O w2.heap.size 103 (iV .i64 n) (sV y) (sV g) (sV z)):=l.out.below p l.out.lt;clear p) | (go_at_call 47;refine(Y.out _ _ s.out).mono ?_;rintro e wb ⟨⟨c,x,rfl,r⟩,B⟩;obtain⟨⟨p0,p1,p2,p3⟩,_⟩:=(G.out.below B G.out.lt).cells;have k:Hid (yW w wb):=s.out.trans (B.mono s.out.size);have t:Hid (x.size<=160):=r;clear B r))
     all_goals
      go_wp2_with fail
      go_meet
      exact⟨c,x,rfl,rfl,t,k⟩
    case rest=>
     obtain⟨c,x,rfl,rfl,t,k⟩:=hcut;by_cases o:c=0
     ·subst o;have V:=aa (S.out x wc t.out k.out);go_wp2_with fail
      refine V.out.mono ?_;rintro e w6 ⟨⟨v6,c6,rfl,M⟩,J⟩;have Q:=aa (k.out.trans (J.mono k.out.size));have X:=aa M;clear J M;go_wp2_with fail
      go_ret2
      exact⟨⟨v6,c6,rfl,X.out⟩,Q.out⟩
     ·have A1:((c:Int) != 0)=true:=by simp;omega
      clear o;go_wp2_with fail
      go_ret2
      exact⟨⟨⟨#[]⟩,c,rfl,by decide⟩,k.out⟩
  ·have A1:((c:Int) != 0)=true:=by simp;omega
   clear o;go_wp2_with fail
   go_ret2
   (try rw[<-i])
   exact⟨⟨⟨#[]⟩,c,rfl,by decide⟩,d.out⟩
 ·have A0:¬(b.size:Int)=32:=by omega
  go_enter func63,ntmps63
  go_wp2_with fail
  go_ret2
  exact⟨⟨⟨#[]⟩,2,rfl,by decide⟩,Q1 _ _⟩
theorem nB.nil{A K b a w}(h:SC A K b a w)(c:Nat):nB A K b a (rV (tV #[lV none 0 0,lV none 0 0,iV .i64 c])) w:=⟨_,_,c,[],[],[],[],rfl,uE _,uE _,h⟩
theorem SC.LZ{A K c b a w}(h:SC A K (c::b) a w):SC A K b a w:=h.drop (fun _ ht=>QZ _ ht) fun _ hb=>hb
theorem SC.nV{A K b b1 a w}(h:SC A K b (b1++a) w):SC A K b a w:=h.drop (fun _ ht=>ht) fun _ hb=>Ru _ hb
theorem Ci{A K ts bx w}(h:SC A K ts bx w)(addr A1:yB)(hk:addr.size<=maxLen)(hl:A1.size<=maxLen)(hN:A.N+K+1000<4000000000):
 Calls yP 61 #[pV (some ⟨A.sp,0,none⟩),sV addr,sV A1] w fun e w'=>nB A (K+800) ts bx e w'/\True:=by
 have h32:(ai addr).size=32:=eL _;have C4:(ai A1).size=32:=eL _;have C3:Hid (Calls yP 24 #[sV addr] w fun e w'=>e=rV (sV (ai addr))/\SC A K ts bx w'):=h.sum addr hk;have B7:Hid (∀W,SC A K ts bx W->Calls yP 94 #[pV (some ⟨A.sp,0,none⟩),sV (ai addr)] W fun e w'=>jK e/\SC A (K+250) ts bx w'):=fun W hW=>tC hW _ (by rw[h32];decide)
 have C1:Hid (∀A0 W,A0.size=32->SC A (K+250) ts bx W->Calls yP 96 #[pV (some ⟨A.sp,0,none⟩),sV (ai addr),sV A0] W fun e w'=>∃tb,e=rV (pV (some ⟨tb,0,none⟩))/\SC A (K+250+1) (tb::ts) bx w'):=fun A0 W hr hW=>hW.slotsOf _ A0 (by rw[h32];decide) hr (by omega)
 have D3:Hid (∀tb W,SC A (K+250+1) (tb::ts) bx W->Calls yP 24 #[sV A1] W fun e w'=>e=rV (sV (ai A1))/\SC A (K+250+1) (tb::ts) bx w'):=fun tb W hW=>hW.sum A1 hl
 have D2:Hid (∀tb W,SC A (K+250+1) (tb::ts) bx W->Calls yP 45 #[pV (some ⟨tb,0,none⟩),sV (ai A1)] W (rm A (K+250+1+250) (tb::ts) bx)):=fun tb W hW=>hW.ly (.inr (QY ..)) _ (by rw[C4];decide)
 have B8:Hid (∀B4 W,SC A (K+501) ts B4 W->Calls yP 45 #[pV (some ⟨A.tw,0,none⟩),sV (ai addr)] W (rm A (K+501+250) ts B4)):=fun B4 W hW=>hW.ly (.inl rfl) _ (by rw[h32];decide)
 have B1:Hid (SC A (K+800) ts bx w):=h.mono (by omega);clear h h32 C4;unfold maxLen at hk hl;generalize ai addr=HA at*;generalize ai A1=HT at*;by_cases h20:addr.size=20
 ·have D4:(addr.size:Int)=20:=by omega
  by_cases D7:A1.size=32
  ·have D6:(A1.size:Int)=32:=by omega
   go_enter func61,ntmps61
   go_wp2_with fail
   refine C3.out.mono ?_;rintro e w1 ⟨rfl,C5⟩;have B9:Hid (SC A K ts bx w1):=C5;clear C5 C3 B1;go_wp2_with fail
   refine(B7.out _ B9.out).mono ?_;rintro e w2 ⟨⟨a,th,c,rfl,D5,hz⟩,C6⟩;obtain⟨n,A5,A0,A6⟩:=a;simp only at hz;have A3:Hid (SC A (K+250) ts bx (w2.alloc (.cells #[iV .i64 n,sV A5,sV A0,sV A6] 103))):=(C6.box #[iV .i64 n,sV A5,sV A0,sV A6] 103).unbox;have B3:Hid (SC A (K+800) ts bx (w2.alloc (.cells #[iV .i64 n,sV A5,sV A0,sV A6] 103))):=A3.out.mono (by omega);unfold cy;clear C6 D5 B7 B9;by_cases hc:c=0
   ·subst hc;have B6:=(hz rfl).1;clear hz;cases th with
    |false=>
     have A4:Hid (SC A (K+501) ts bx (w2.alloc (.cells #[iV .i64 n,sV A5,sV A0,sV A6] 103))):=A3.out.mono (by omega);obtain⟨d0,d1⟩:=A4.out.cells;clear B6 B3 A3;go_wp2_with fail
     refine(B8.out _ _ A4.out).mono ?_;rintro e w5 ⟨u,c,cs,br,rfl,A9,A7⟩;have A2:Hid (gX A.w.heap.size br u cs/\SC A (K+800) ts (br++([]++bx)) w5):=⟨A9,A7.mono (by omega)⟩
     clear A9 A7 d0 d1;by_cases A8:c=0
     ·subst A8;go_wp2_with fail
      go_ret3
      exact⟨⟨u,_,0,cs,[],br,[],rfl,A2.out.1,uE _,A2.out.2⟩,trivial⟩
     ·have B5:((c:Int) != 0)=true:=by simp;omega
      clear A8;go_wp2_with fail
      go_ret3
      exact⟨nB.nil A2.out.2.nV c,trivial⟩
    |true=>
     have C2:Hid (Calls yP 96 #[pV (some ⟨A.sp,0,none⟩),sV HA,sV A0] (w2.alloc (.cells #[iV .i64 n,sV A5,sV A0,sV A6] 103)) fun e w'=>∃tb,e=rV (pV (some ⟨tb,0,none⟩))/\SC A (K+250+1) (tb::ts) bx w'):=C1.out A0 _ B6 A3.out;clear C1 B6 B3;go_wp2_with fail
     refine C2.out.mono ?_;rintro e w3 ⟨tb,rfl,C7⟩;have A4:Hid (SC A (K+250+1) (tb::ts) bx w3):=C7;clear C7 C2 A3;go_wp2_with fail
     refine(D3.out _ _ A4.out).mono ?_;rintro e w4 ⟨rfl,C8⟩;have C0:Hid (SC A (K+250+1) (tb::ts) bx w4):=C8;clear C8;go_wp2_with fail
     refine(D2.out _ _ C0.out).mono ?_;rintro e w5 ⟨v,c,ds,B0,rfl,D1,A7⟩;have A2:Hid (gX A.w.heap.size B0 v ds/\SC A (K+501) ts (B0++bx) w5):=⟨D1,A7.LZ⟩
     clear D1 A7 C0 A4;by_cases A8:c=0
     ·subst A8;obtain⟨d0,d1⟩:=A2.out.2.cells;go_wp2_with fail
      refine(B8.out _ _ A2.out.2).mono ?_;rintro e w6 ⟨u,c,cs,br,rfl,A9,C9⟩;have B2:Hid (gX A.w.heap.size br u cs/\SC A (K+800) ts (br++(B0++bx)) w6):=⟨A9,C9.mono (by omega)⟩
      clear A9 C9 d0 d1;by_cases D0:c=0
      ·subst D0;go_wp2_with fail
       go_ret3
       exact⟨⟨u,v,0,cs,ds,br,B0,rfl,B2.out.1,A2.out.1,B2.out.2⟩,trivial⟩
      ·have B5:((c:Int) != 0)=true:=by simp;omega
       clear D0;go_wp2_with fail
       go_ret3
       exact⟨nB.nil B2.out.2.nV.nV c,trivial⟩
     ·have B5:((c:Int) != 0)=true:=by simp;omega
      clear A8;go_wp2_with fail
      go_ret3
      exact⟨nB.nil (A2.out.2.nV.mono (by omega)) c,trivial⟩
   ·have B5:((c:Int) != 0)=true:=by simp;omega
    clear hc hz;go_wp2_with fail
    go_ret3
    exact⟨nB.nil B3.out c,trivial⟩
  ·have D6:¬(A1.size:Int)=32:=by omega
   go_enter func61,ntmps61
   go_wp2_with fail
   go_ret3
   exact⟨nB.nil B1.out 2,trivial⟩
 ·have D4:¬(addr.size:Int)=20:=by omega
  go_enter func61,ntmps61
  go_wp2_with fail
  go_ret3
  exact⟨nB.nil B1.out 2,trivial⟩
theorem Hc:zeroCells98=#[pV none,pV none]++iL fun _=>lV none 0 0:=by kernel_rfl
theorem JF(x y a b)(s:Array Value):((#[x,y]++s).setIfInBounds 0 a).setIfInBounds 1 b=#[a,b]++s:=by
 apply Array.ext';simp
theorem JO(w b f)(P:Nat->World->Prop)(c:Hid (Calls yP 12 #[pV b,sV f] w fun e w'=>∃a,e=rV (tV #[pV (qA a),iV .i64 0])/\P a w')):
 Calls yP 23 #[pV b,sV f] w fun e w'=>∃a w1,P a w1/\e=rV (tV #[pV (qA w1.heap.size),iV .i64 0])/\w'=w1.alloc (.cells (#[pV b,pV (qA a)]++iL fun _=>lV none 0 0) 98):=by
 go_enter func23,ntmps23
 go_wp2_with fail
 refine c.out.mono ?_;rintro e w1 ⟨a,rfl,d⟩;have g:=aa d;clear d c;go_wp2_with fail
 go_ret2
 refine⟨a,w1,g.out,rfl,?_⟩;rw[Hc,JF]
theorem xH{l w sb v t}(r:eI w sb v t)(J:∀x,bW sb v x->l x=pr sb 0)(T:az w)(l3:∀k,k<3->l k=0)(b:yB)(G:b.size=32):
 Calls yP 23 #[pV (qA sb),sV b] w fun e w'=>∃sp tw l',e=rV (tV #[pV (qA sp),iV .i64 0])/\w.heap.size<=sp/\Mv (fun _=>False) l l' w w'/\SX l' w' sp sb tw [tw] 1 v t:=by
 have H:str b.data.toList=b:=by unfold str;simp
 have A:b.data.toList.length=32:=by rw[<-G];simp
 have z:=rn w (qA sb) b.data.toList A T;rw[H] at z;refine(JO w (qA sb) b (fun a w1=>∃u,w.heap.size<=a/\eU w1 a (qA sb) u/\At w1 (cl b.data.toList) (fun x=>w.heap.size<=x/\x≠a) (pV u)/\yW w w1) (z.mono fun _ _ ⟨a,u,h1,h2,h3,h4,h5⟩=>⟨a,h1,u,h2,h3,h4,h5⟩)).mono ?_;rintro e w' ⟨a,w1,⟨u,h1,h2,h3,h4⟩,n,rfl⟩;have D:=h4.size;have K:=T.size;have B:=h2.lt;have L:sb<w.heap.size:=r.st.dQ sb (.inl rfl);have q:yW w1 (w1.alloc (.cells (#[pV (qA sb),pV (qA a)]++iL fun _=>lV none 0 0) 98)):=(Q1 _ _).alloc (QU _) _;have i:=h4.trans (q.mono D);obtain⟨l',s⟩:∃l':Nat->Nat,l'=fun k=>if k<w.heap.size then l k else if k<w1.heap.size then pr w1.heap.size (a+1) else pr w1.heap.size 0:=⟨_,rfl⟩
 have lo:∀k,k<w.heap.size->l' k=l k:=fun k p=>by rw[s];simp[p]
 have E:∀k,w.heap.size<=k->k<w1.heap.size->l' k=pr w1.heap.size (a+1):=fun k h1 h2=>by rw[s];simp[SE.2 h1,h2]
 have I:∀k,w1.heap.size<=k->l' k=pr w1.heap.size 0:=fun k h1=>by rw[s];simp[SE.2 h1,show ¬k<w.heap.size by omega]
 have m:Mv (fun _=>False) l l' w (w1.alloc (.cells (#[pV (qA sb),pV (qA a)]++iL fun _=>lV none 0 0) 98)):=⟨i.os,i.tape,i.output,i.size,lo,fun k p _=>i.block k p⟩
 have F:dH (w1.alloc (.cells (#[pV (qA sb),pV (qA a)]++iL fun _=>lV none 0 0) 98)) a (qA sb) (fun x=>(w.heap.size<=x/\x≠a)/\x<w1.heap.size) (cl b.data.toList):=
  ⟨⟨u,h2.kept (q.block a B),h3.cut.below q⟩,rO A,fun x h=>⟨by omega,h.1.2,by have:=q.size;omega⟩⟩
 refine⟨w1.heap.size,a,l',n,D,m,⟨⟨fun _=>lV none 0 0,fun _=>[],fun _=>cl b.data.toList,fun _ x=>(w.heap.size<=x/\x≠a)/\x<w1.heap.size,?_,?_⟩,r.kept fun x h=>i.block x (r.st.dQ x h),fun x h=>(lo x (r.st.dQ x h)).trans (J x h),T.below i,fun k p=>(lo k (by omega)).trans (l3 k p),by omega⟩⟩
 ·exact
   {ah:=⟨Rl w1 _,fun _ _=>RO _ _ _ _,fun c d g _ _ o=>by simp[Value.ownBlock] at o,fun c g _ o=>by simp[Value.ownBlock] at o⟩
    jh:=I _ (QU _)
    ji:=fun c g _ o=>by simp[Value.ownBlock] at o
    gU:=fun c k e _ n=>by simp at n
    fT:=fun c k d j e f _ _ n=>by simp at n
    g7:=Q2.2 rfl
    kZ:=by simp
    gF:=fun x h=>by
     rw[Q2.1 h];exact⟨F,by unfold cl;split<;>trivial,E _ h1 B,fun y C=>E y C.1.1 C.2⟩}
 ·show cO (e9 t) (cl b.data.toList)+1+0<=1;rw[yg];exact QU _
theorem x8{c:yL}{d}(b:c.length<=4096):∀x∈ig c d,x.length<=4096:=fun x a=>by
 unfold ig at a
 split at a
 ·rw[Q2.1 a];exact b
 ·cases a
theorem Mw:∀(t) (d:Bool),aI t->∀c∈bY t d,c.length<=4096:=by
 intro t;induction t with
 |nil=>intro d _ c a;cases a
 |unread h=>intro d _ c a;cases a
 |leaf h p v=>intro d b;exact x8 (b.nw trivial).2
 |ext h p k ih=>
  intro d b c a;rcases Re.1 a with a|a
  ·exact ih false b.2.2.2.2 c a
  ·exact x8 (b.nw trivial).2 c a
 |branch h v ks ih=>
  intro d b c a;rcases Re.1 a with a|a
  ·obtain⟨i,hi,a⟩:=List.mem_flatMap.1 a;exact ih i false (b.2.2 i (Sg.1 hi)) c a
  ·exact x8 (b.nw trivial).2 c a
theorem Ga{l a w sb n S t q f}(o:dH w n (qA sb) S t)(r:bD t)(u:∀x,S x->l x≠a)(z:l n≠a)(b:eI w sb q f)(k:∀x,bW sb q x->l x=a)(T:az w)(p:Fits f (bY t true)):
 Calls yP 39 #[pV (qA n)] w fun e w'=>e=rV (sV (str (bM t)))/\∃l' g,Mv (fun x=>x=a) l l' w w'/\eI w' sb g (dt f (bY t true))/\∀x,bW sb g x->l' x=a:=by
 have h3:=T.size;refine(QQ o r b.st (fun i=>z (k _ i)) (fun x j i=>u x j (k _ i)) b.m3 h3 (QU _) T p).mono ?_;rintro e w' ⟨y,s⟩;obtain⟨l',g,m,h1,h2,h4⟩:=Bi k s (b.st.dQ sb (.inl rfl));refine⟨y,l',g,m,⟨h1,?_,fun h A d=>?_,fun x j=>?_⟩,h2⟩
 ·exact p _ fun _ h=>h
 ·rcases vl (bY t true) f h with⟨h5,_⟩|⟨c,v,h5,_⟩
  ·rw[h5] at d;exact b.sm h A d
  ·rw[h5] at d;cases d
   rw[aH];exact Mw t true o.ok.aJ c v
 ·rcases h4 x j with h5|h5
  ·exact b.m3 x h5
  ·omega
theorem LI{a h}(c:ae a h≠none):(others a h).length+1<=a.length:=by
 induction a with
 |nil=>exact absurd rfl c
 |cons p a ih=>
  by_cases e:p.1=h
  ·have b:(p.1.toList == h.toList)=true:=by rw[fZ];exact Ra e
   unfold others;rw[List.filter_cons_of_neg (by rw[b];simp),Ro];exact Nat.succ_le_succ (List.length_filter_le _ _)
  ·have b:(p.1.toList == h.toList)=false:=by rw[fZ];exact Q9 e
   have d:ae a h≠none:=fun h0=>c (by unfold ae;rw[QW (by rw[b];simp)];exact h0)
   have:=ih d;unfold others at this⊢;rw[List.filter_cons_of_pos (by rw[b];rfl),Ro,Ro];omega
theorem M9(a h t):(eO a h t).length=(others a h).length+1:=by
 have h2:=sq (others a h) h;unfold eO;simp only[Q4,Rs,Q8,Ro,List.length_nil];omega
theorem M8(a c):(∀d,e9 (eO a (ai (str c)) (str c)) d=true->e9 a d=true)/\e9 (eO a (ai (str c)) (str c)) c=false/\(eO a (ai (str c)) (str c)).length<=a.length+(if e9 a c=true then 1 else 0):=by
 refine⟨fun d b=>?_,?_,?_⟩
 ·unfold e9 at b⊢;rw[vm] at b;split at b
  ·cases b
  ·exact b
 ·unfold e9;rw[vm,QX rfl];rfl
 ·rw[M9];have h1:=nR a (ai (str c));split
  ·omega
  ·next hn=>
   have:ae a (ai (str c))≠none:=fun h=>hn (by unfold e9;rw[h];rfl)
   have:=LI this;omega
theorem tk{P Q}(h:∀d,Q d=true->P d=true):∀(l:List yL),l.countP Q<=l.countP P
 | []=>QU _
 |c::l=>by
  have b:=tk h l
  rw[List.countP_cons,List.countP_cons]
  by_cases a:Q c=true
  ·rw[QX a,QX (h c a)];omega
  ·rw[QW a];omega
theorem FY{P Q}(h:∀d,Q d=true->P d=true){c}(h1:P c=true)(h2:Q c=false):∀(l:List yL),c∈l->l.countP Q+1<=l.countP P
 | [],hc=>by cases hc
 |d::l,hc=>by
  rw[List.countP_cons,List.countP_cons]
  by_cases e:d=c
  ·subst e
   have:=tk h l
   rw[QX h1,QW (by rw[h2];simp)];omega
  ·have f:=FY h h1 h2 l ((Rh.1 hc).resolve_left fun b=>e b.symm)
   by_cases a:Q d=true
   ·rw[QX a,QX (h d a)];omega
   ·rw[QW a];omega
def fN(a:List (yB×yB))(b:Nat->Nd)(D:List Nat):Nat:=a.length+dq (fI a b) D
theorem uL(f:Nat->Nd)(D:List Nat)(g:Nat)(n:g∈D):∀(l:List yL) (b),(∀c∈l,c∈bY (f g) true)->fN (dt b l) f D<=fN b f D/\∀d,e9 (dt b l) d=true->e9 b d=true
 | [],b,_=>⟨QU _,fun _ h=>h⟩
 |c::l,b,hl=>by
  obtain⟨h1,h2⟩:=uL f D g n l (eO b (ai (str c)) (str c)) fun d i=>hl d (QZ _ i)
  obtain⟨k1,k2,k3⟩:=M8 b c
  refine⟨Q7 h1 ?_,fun d i=>k1 d (h2 d i)⟩
  unfold fN
  have j:∀x,fI (eO b (ai (str c)) (str c)) f x<=fI b f x:=fun x=>Nat.succ_le_succ (tk k1 _)
  have p:=rQ j D
  by_cases k:e9 b c=true
  ·rw[QX k] at k3
   have q:fI (eO b (ai (str c)) (str c)) f g+1<=fI b f g:=Nat.succ_le_succ (FY k1 k k2 _ (hl c (QY ..)))
   have key:∀A:List Nat,g∈A->dq (fI (eO b (ai (str c)) (str c)) f) A+1<=dq (fI b f) A:=by
    intro A m;induction A with
    |nil=>cases m
    |cons a r ih=>
     show fI _ f a+dq _ r+1<=fI b f a+dq _ r;by_cases e:a=g
     ·subst e;have:=rQ j r;omega
     ·have:=ih ((Rh.1 m).resolve_left fun o=>e o.symm);have:=j a;omega
   have:=key D n;omega
  ·rw[QW k] at k3;omega
theorem KR{c D b}(d:b∈D){a}(h:fN a c D<4000000000000):Fits a (bY (c b) true):=fun l' e=>by
 have:=(uL c D b d l' a e).1
 unfold fN at this h
 omega
def Cm(l:Nat->Nat)(w:World)(f sb g:Nat)(D:List Nat)(h:Nat->Value)(e:Nat->List b6)(a:Nat->Nd)(c:Nat->Nat->Prop)(b:List (yB×yB))(_:List Nat)(w':World):Prop:=∃l' us' ps',Mv (fun x=>x=pr sb 0) l l' w w'/\jD l' w' f sb g D h e a c/\eI w' sb us' ps'/\(∀x,bW sb us' x->l' x=pr sb 0)/\az w'/\(∀k,k<3->l' k=0)/\fN ps' a D<=fN b a D/\∀d,e9 ps' d=true->e9 b d=true
theorem Cm.one{l w w1 g sb u a D v t f p o A}(h:Cm l w g sb u D v t f p o A w1)(J:g≠sb)(i:a∈D)(M:fN o f D<4000000000000):
 Calls yP 39 #[pV (qA a)] w1 fun e w'=>(∃r:yB,e=rV (sV r)/\r.size=32)/\Cm l w g sb u D v t f p o (a::A) w':=by
 obtain⟨l',N,K,m,q,C,H,T,l3,B,F⟩:=h;have c:=q.gF a i;have n:∀b,pr g b≠pr sb 0:=fun b e=>J (gz e).1
 have s:=uL f D a i (bY (f a) true) K fun _ h=>h
 refine(Ga c.tr c.loose (fun x G=>by rw[c.lS x G];exact n _) (by rw[c.lt];exact n _) C H T (KR i (by omega))).mono ?_;rintro e w' ⟨z,l2,L,m2,E,I⟩;refine⟨⟨_,z,by rw[aH,oV c.tr.ok.aJ]⟩,l2,L,_,m.trans m2,q.move m2 (fun b e=>n b e),E,I,T.mv m2 (fun k j e=>by rw[l3 k j] at e;have:=ie sb 0;omega),fun k j=>(m2.aM k (by have:=T.size;omega)).trans (l3 k j),Q7 s.1 B,fun d y=>F d (s.2 d y)⟩
theorem Cm.cells{l w w1 b sb f D n e k g j A}(h:Cm l w b sb f D n e k g j A w1):w1.cell? ⟨b,1,none⟩=some (pV (qA f))/\∀c,c<256->∃a cap,wm w1 b c a cap (e c):=by
 obtain⟨l',p,o,m,d,_⟩:=h;refine⟨by rw[Q5 w1 b 1 _ _ _ d.ah.ah];exact Bl _ _ _,fun c i=>?_⟩;obtain⟨a,cap,_,S⟩:=d.ah.kx c i;exact⟨a,cap,S⟩
def nE(a:Nat->List b6)(D A:List Nat)(c k:Nat):Prop:=A.Nodup/\(∀x∈A,x∈D)/\∀x∈A,∃c' k' e,(c'<c\/(c'=c/\k'<k))/\c'<256/\(a c')[k']? =some e/\e.2=some ⟨x,0,none⟩
theorem JR(w:World)(t u:Nat)(b:Nat->List b6)(C:List Nat->World->Prop)(D:List Nat)(F:World->Prop)
 (L:∀c,c<256->(b c).length<4000000000)
 (M:Hid (C [] w))
 (v:Hid (∀A W,C A W->W.cell? ⟨t,1,none⟩=some (pV (qA u))/\∀c,c<256->∃a cap,wm W t c a cap (b c)))
 (Q:Hid (∀(A:List Nat) (c k:Nat) (e:b6),c<256->(b c)[k]? =some e->nE b D A c k->∃d,e.2=some ⟨d,0,none⟩/\nE b D (d::A) c (k+1)/\∀W,C A W->Calls yP 39 #[pV (qA d)] W fun e w'=>(∃r:yB,e=rV (sV r)/\r.size=32)/\C (d::A) w'))
 (U:Hid (∀A W,nE b D A 256 0->C A W->Calls yP 39 #[pV (qA u)] W fun e w'=>(∃r:yB,e=rV (sV r)/\r.size=32)/\F w')):
 Calls yP 57 #[pV (qA t)] w fun e w'=>(∃r:yB,e=rV (sV r)/\r.size=32)/\F w':=by
 have V:=aa L;have P:Hid (nE b D [] 0 0):=⟨List.nodup_nil,(fun x j=>absurd j Si),fun x j=>absurd j Si⟩
 have X:Hid (∀A c k,nE b D A c k->(b c).length<=k->nE b D A (c+1) 0):=fun A c k h _=>⟨h.1,h.2.1,fun x j=>by
  obtain⟨Y,k',e,Z,r⟩:=h.2.2 x j;exact⟨Y,k',e,by omega,r⟩⟩
 clear L;go_enter func57,ntmps57
 go_wp2_with fail
 go_loopg [3] 256 (fun g r wr=>∃c:Nat,g=256 - c/\c<=256/\r=iV .i64 c/\∃A,Hid (nE b D A c 0)/\Hid (C A wr))
 case atStart=>exact⟨0,rfl,by omega,rfl,[],P,M⟩
 case round=>
  obtain⟨c,i,hc,rfl,A,y,m⟩:=hrel;have R:=aa i;clear i;by_cases q:c<256
  ·have A1:(c:Int)<256:=by omega
   have A3:=V.out c q;generalize wr=WR at*;generalize gk=GK at*;go_wp2_with fail
   go_loopg [4] (b c).length (fun g r wr=>∃k:Nat,g=(b c).length - k/\k<=(b c).length/\r=iV .i64 k/\∃A,Hid (nE b D A c k)/\Hid (C A wr))
   case atStart=>exact⟨0,rfl,by omega,rfl,A,y,m⟩
   case round=>
    obtain⟨k,i,Z,rfl,f,z,n⟩:=hrel;have S:=aa i;clear i;obtain⟨_,p⟩:=v.out f wr n.out;obtain⟨a,cap,l⟩:=p c q;have x0:=l.cell;by_cases K:k<(b c).length
    ·have s:(b c)[k]? =some ((b c)[k]'K):=QV K;obtain⟨g,rfl,y0,y1⟩:=l.at_ k _ s;obtain⟨d,E,J,I⟩:=Q.out f c k _ q s z.out;rw[E] at y1;have o:=aa J;have O:=aa (I wr n.out);have A0:(k:Int)<((b c).length:Int):=by omega
     clear s E J I l p y0;go_wp2_with fail
     refine O.out.mono ?_;rintro e w3 ⟨⟨r,rfl,_⟩,G⟩;have N:=aa G;clear G x0 y1;go_wp2_with fail
     go_roundg ((b c).length - (k+1))
     case measure=>have:=S.out;omega
     case rel=>exact⟨k+1,rfl,by omega,by go_num,_,o,N⟩
    ·obtain rfl:k=(b c).length:=by omega
     have A0:¬((b c).length:Int)<((b c).length:Int):=by omega
     have o:=aa (X.out f c _ z.out (QU _));clear l p;go_wp2_with fail
     go_roundg (256 - (c+1))
     case measure=>have:=R.out;omega
     case rel=>exact⟨c+1,rfl,by omega,by go_num,f,o,n⟩
  ·obtain rfl:c=256:=by omega
   obtain⟨x1,_⟩:=v.out A wr m.out;have T:=aa (U.out A wr y.out m.out);go_wp2_with fail
   refine T.out.mono ?_;rintro e w3 ⟨⟨r,rfl,h32⟩,H⟩;have B:Hid (r.size=32/\F w3):=⟨h32,H⟩
   clear h32 H;go_wp2_with fail
   go_ret
   exact⟨⟨r,rfl,B.out.1⟩,B.out.2⟩
theorem SX.Pd{l w g sb q D N F a}(h:SX l w g sb q D N F a)(J:N<4000000000)(X:a.length+N<4000000000000):
 Calls yP 57 #[pV (qA g)] w fun e w'=>(∃r:yB,e=rV (sV r)/\r.size=32)/\∃l' s b N',Mv (fun x=>x=pr sb 0) l l' w w'/\SX l' w' g sb q D N' s b/\b.length+N'<=a.length+N/\∀d,e9 b d=true->e9 a d=true:=by
 obtain⟨G,t,v,C,j,S⟩:=h.st;have E:fN a v D<4000000000000:=by unfold fN;omega
 refine JR w g q t (Cm l w g sb q D G t v C a) D (fun w'=>∃l' s b N',Mv (fun x=>x=pr sb 0) l l' w w'/\SX l' w' g sb q D N' s b/\b.length+N'<=a.length+N/\∀d,e9 b d=true->e9 a d=true) (fun c o=>Nat.lt_of_le_of_lt (Q7 (j.qT a c o) S) J) ?_ (fun A W n=>n.cells) ?_ ?_
 ·exact⟨l,F,a,Mv.refl _ _ _,j,h.ko,h.ls,h.bt,h.l3,QU _,fun _ h=>h⟩
 ·intro A c k e o p i;obtain⟨u,h1,h2⟩:=j.gU c k e o p;have Q:u∉A:=fun P=>by
   obtain⟨y,B,z,O,K,L,h3⟩:=i.2.2 u P;have:=j.fT y B c k z e K o L p (by rw[h3,h1]);omega
  have H:nE t D (u::A) c (k+1):=⟨List.nodup_cons.2 ⟨Q,i.1⟩,fun x f=>by rcases Rh.1 f with rfl|f;exact h2;exact i.2.1 x f,fun x f=>by
   rcases Rh.1 f with rfl|f
   ·exact⟨c,k,e,.inr ⟨rfl,by omega⟩,o,p,h1⟩
   ·obtain⟨y,B,z,O,r⟩:=i.2.2 x f;exact⟨y,B,z,by omega,r⟩⟩
  exact⟨u,h1,H,fun W n=>n.one h.ne h2 E⟩
 ·intro A W i n;refine(n.one h.ne j.g7 E).mono ?_;rintro e w' ⟨p,l',s,b,m,I,R,V,T,l3,M,U⟩;refine⟨p,l',s,b,dq (fI b v) D,m,⟨⟨G,t,v,C,I,QU _⟩,R,V,T,l3,h.ne⟩,?_,U⟩;unfold fN at M;omega
theorem SX.store{l l' w w' f sb j D N y g i c}(h:SX l w f sb j D N y i)(m:Mv (fun x=>x=pr sb 0) l l' w w')(q:eI w' sb g c)(t:∀x,bW sb g x->l' x=pr sb 0)(s:∀d,e9 c d=true->e9 i d=true):SX l' w' f sb j D N g c:=by
 obtain⟨z,u,v,n,o,r⟩:=h.st;have p:∀b,pr f b≠pr sb 0:=fun b e=>h.ne (gz e).1
 have h0:∀k,k<3->l k≠pr sb 0:=fun k a e=>by rw[h.l3 k a] at e;have:=ie sb 0;omega
 exact⟨⟨z,u,v,n,o.move m p,Q7 (rQ (fun x=>Nat.succ_le_succ (tk s _)) D) r⟩,q,t,h.bt.mv m h0,fun k a=>(m.aM k (by have:=h.bt.size;omega)).trans (h.l3 k a),h.ne⟩
structure a6 where
 addr:yB
 n:Int
 aj:yB
 code:yB
 sa:Option Addr
 sc:Nat
 aS:List (yB×yB)
def a6.sv(h:a6):Value:=lV h.sa h.aS.length h.sc
def eC(h:a6):Value:=gV #[sV h.addr,iV .i64 h.n,sV h.aj,sV h.code,h.sv]
def gI(a:List a6):List Value:=a.flatMap fun h=>[sV h.addr,iV .i64 h.n,sV h.aj,sV h.code,h.sv]
structure iA(w:World)(h:a6):Prop where
 addr:h.addr.size<=1073741824
 n:Rg h.n
 aj:h.aj.size<=1073741824
 code:h.code.size<=1073741824
 at_:dP w h.sv h.aS
 len:h.aS.length<4000000000
 small:∀p∈h.aS,p.1.size<=1073741824/\p.2.size<=1073741824
def fE(w:World)(v:Value)(a:List a6):Prop:=w.ownsRow 3 107 5 v a.length (gI a)/\∀h∈a,iA w h
theorem iA.below{w w' h}(k:iA w h)(a:yW w w'):iA w' h:=⟨k.addr,k.n,k.aj,k.code,k.at_.below a,k.len,k.small⟩
theorem fE.below{w w' v b}(h:fE w v b)(a:yW w w'):fE w' v b:=⟨cK h.1 fun g c=>a.block g (h.1.lt g c).2,fun x d=>(h.2 x d).below a⟩
theorem EO(a b:List a6):gI (a++b)=gI a++gI b:=by simp[gI]
theorem EN:∀(a:List a6) (k:Nat) (h:a6),a[k]? =some h->(gI a)[k*5]? =some (sV h.addr)/\(gI a)[k*5+1]? =some (iV .i64 h.n)/\(gI a)[k*5+2]? =some (sV h.aj)/\(gI a)[k*5+3]? =some (sV h.code)/\(gI a)[k*5+4]? =some h.sv
 | [],k,h,e=>by simp at e
 |q::t,0,h,e=>by simp at e;subst e;exact⟨rfl,rfl,rfl,rfl,rfl⟩
 |q::t,k+1,h,e=>by
  have:=EN t k h (by simpa using e)
  refine⟨?_,?_,?_,?_,?_⟩
  ·rw[show(k+1)*5=k*5+5 by omega];exact this.1
  ·rw[show(k+1)*5+1=k*5+1+5 by omega];exact this.2.1
  ·rw[show(k+1)*5+2=k*5+2+5 by omega];exact this.2.2.1
  ·rw[show(k+1)*5+3=k*5+3+5 by omega];exact this.2.2.2.1
  ·rw[show(k+1)*5+4=k*5+4+5 by omega];exact this.2.2.2.2
theorem fE.form{w v b}(h:fE w v b):∃a cap,v=lV a b.length cap:=by
 obtain⟨a,cap,e,_⟩:=dr h.1;exact⟨a,cap,e⟩
theorem fE.at_{w a n cap b}(h:fE w (lV a n cap) b)(k:Nat)(x:a6)(c:b[k]? =some x):
 ∃g,a=some ⟨g,0,none⟩/\g<w.heap.size/\w.cell? ⟨g,k*5,none⟩=some (sV x.addr)/\w.cell? ⟨g,k*5+1,none⟩=some (iV .i64 x.n)/\w.cell? ⟨g,k*5+2,none⟩=some (sV x.aj)/\w.cell? ⟨g,k*5+3,none⟩=some (sV x.code)/\w.cell? ⟨g,k*5+4,none⟩=some x.sv:=by
 obtain⟨d,i,e,_,_,f⟩:=dr h.1;cases e
 have j:=(Rb.1 c).1;rcases f with⟨_,h0,_⟩|⟨g,rfl⟩
 ·omega
 ·obtain⟨p0,p1,p2,p3,p4⟩:=EN b k x c;exact⟨g,rfl,(h.1.lt g rfl).2,dK h.1 rfl _ _ p0,dK h.1 rfl _ _ p1,dK h.1 rfl _ _ p2,dK h.1 rfl _ _ p3,dK h.1 rfl _ _ p4⟩
def bE(e:Ending):Prop:=∃b:Bool,e=rV (bV b)
theorem sL(t:yB)(c:t.size<=maxLen)(w):Calls yP 67 #[sV t] w fun e w'=>bE e/\w'=w:=by
 unfold maxLen at c;by_cases h32:t.size<=32
 ·have a:(t.size:Int)<=32:=by omega
  by_cases h0:0<t.size
  ·have b:t.toList.isEmpty=false:=by rw[gT];omega
   have d:(0:Int)<(t.size:Int):=by omega
   cases hz:(((t[0]'h0).toNat:Int) != 0)<;>
    (go_enter func67,ntmps67;go_wp2_with fail;go_ret;exact⟨⟨_,rfl⟩,rfl⟩)
  ·have b:t.toList.isEmpty=true:=by rw[gH];omega
   go_enter func67,ntmps67
   go_wp2_with fail
   go_ret
   exact⟨⟨_,rfl⟩,rfl⟩
 ·have a:¬(t.size:Int)<=32:=by omega
  go_enter func67,ntmps67
  go_wp2_with fail
  go_ret
  exact⟨⟨_,rfl⟩,rfl⟩
def g6(W:World)(n:Nat)(t:TypeId)(x0 x1 x2 x3 x4:Value):Prop:=W.heap[n]? =some (.cells #[x0,x1,x2,x3,x4] t (0,0))
theorem g6.new(w:World)(t x0 x1 x2 x3 x4):g6 (w.alloc (.cells #[x0,x1,x2,x3,x4] t)) w.heap.size t x0 x1 x2 x3 x4:=Rl w _
theorem g6.below{w W n m t x0 x1 x2 x3 x4}(h:g6 w n t x0 x1 x2 x3 x4)(a:Below m w W)(b:n<m):g6 W n t x0 x1 x2 x3 x4:=(a.block n b).trans h
theorem g6.cells{W n t x0 x1 x2 x3 x4}(h:g6 W n t x0 x1 x2 x3 x4):(W.cell? ⟨n,0,none⟩=some x0/\W.cell? ⟨n,1,none⟩=some x1/\W.cell? ⟨n,2,none⟩=some x2/\W.cell? ⟨n,3,none⟩=some x3/\W.cell? ⟨n,4,none⟩=some x4)/\W.frozen? ⟨n,0,none⟩=false/\W.frozen? ⟨n,1,none⟩=false/\W.frozen? ⟨n,2,none⟩=false/\W.frozen? ⟨n,3,none⟩=false/\W.frozen? ⟨n,4,none⟩=false:=by
 refine⟨⟨?_,?_,?_,?_,?_⟩,Rx W n 0 _ _ h,Rx W n 1 _ _ h,Rx W n 2 _ _ h,Rx W n 3 _ _ h,Rx W n 4 _ _ h⟩
 ·rw[Q5 W n 0 _ _ _ h];rfl
 ·rw[Q5 W n 1 _ _ _ h];rfl
 ·rw[Q5 W n 2 _ _ _ h];rfl
 ·rw[Q5 W n 3 _ _ _ h];rfl
 ·rw[Q5 W n 4 _ _ _ h];rfl
theorem g6.lt{W n t x0 x1 x2 x3 x4}(h:g6 W n t x0 x1 x2 x3 x4):n<W.heap.size:=(Q0.1 h).1
theorem Gx{b n w w1}(h:Below b w w1)(a:b<=n)(x0 x1 x2 x3 x4):Below b w (((((w1.setCell ⟨n,0,none⟩ x0).setCell ⟨n,1,none⟩ x1).setCell ⟨n,2,none⟩ x2).setCell ⟨n,3,none⟩ x3).setCell ⟨n,4,none⟩ x4):=
 ((((h.setCell a _).setCell a _).setCell a _).setCell a _).setCell a _
def dW:List a6->yB->Option a6
 | [],_=>none
 |h::t,a=>if h.addr=a then some h else dW t a
def lN(a:yB):a6:=⟨a,0,⟨#[]⟩,fO,none,0,[]⟩
def bz(b:List a6)(a:yB):a6×Bool:=match dW b a with
 |some h=>(h,true)
 |none=>(lN a,false)
theorem OC(b:List a6)(a)(k:Nat)(h:a6)(c:b[k]? =some h)(e:h.addr≠a):dW (b.drop k) a=dW (b.drop (k+1)) a:=by
 have d:=(Rb.1 c).1;rw[RF d,(Rb.1 c).2];conv=>lhs;unfold dW
 rw[QW e]
theorem OD(c:List a6)(a)(k:Nat)(h:a6)(b:c[k]? =some h)(d:h.addr=a):dW (c.drop k) a=some h:=by
 have e:=(Rb.1 b).1;rw[RF e,(Rb.1 b).2];unfold dW;rw[QX d]
theorem Ej(w v)(b:List a6)(addr:yB)(H:fE w v b)(Y:b.length<4000000000)(T:az w):
 Calls yP 53 #[v,sV addr] w fun e w'=>e=rV (tV #[eC (bz b addr).1,bV (bz b addr).2])/\yW w w':=by
 obtain⟨a,cap,rfl⟩:=H.form;obtain⟨c,j⟩:=yX (w.alloc (.cells #[sV ⟨#[]⟩,iV .i64 0,sV ⟨#[]⟩,sV ⟨#[]⟩,lV none 0 0] 107))
 have h:Hid (yW w c):=by rw[j];exact(Q1 _ _).alloc (QU _) _
 have o:Hid (g6 c w.heap.size 107 (sV ⟨#[]⟩) (iV .i64 0) (sV ⟨#[]⟩) (sV ⟨#[]⟩) (lV none 0 0)):=by rw[j];exact g6.new _ _ _ _ _ _ _
 have s:=aa (H.below h.out);have t:Hid (∀W,yW w W->Calls yP 95 #[] W fun e w'=>e=rV (sV fO)/\yW W w'):=fun W J=>yM W (T.below J)
 have l:Hid (∀k (_:k<b.length),∃x g,b[k]? =some x/\a=some ⟨g,0,none⟩/\c.cell? ⟨g,k*5,none⟩=some (sV x.addr)/\c.cell? ⟨g,k*5+1,none⟩=some (iV .i64 x.n)/\c.cell? ⟨g,k*5+2,none⟩=some (sV x.aj)/\c.cell? ⟨g,k*5+3,none⟩=some (sV x.code)/\c.cell? ⟨g,k*5+4,none⟩=some x.sv):=fun k D=>by
  have d:b[k]? =some b[k]:=QV D;obtain⟨g,e,_,r⟩:=s.out.at_ k _ d;exact⟨_,g,d,e,r⟩
 have q:Hid (dW b addr=dW (b.drop 0) addr):=rfl;have y:Hid (∀x,dW b addr=some x->bz b addr=(x,true)):=fun x e=>by unfold bz;rw[e]
 have u:Hid (dW b addr=none->bz b addr=(lN addr,false)):=fun e=>by unfold bz;rw[e]
 have F:Hid (eC (lN addr)=gV #[sV addr,iV .i64 0,sV ⟨#[]⟩,sV fO,lV none 0 0]):=rfl;clear H T s;generalize hN:b.length=N at*;generalize fO=NC at*;go_enter func53,ntmps53
 go_wp2_with fail
 rw[<-j];clear j;go_loopg [6] N (fun g r wr=>∃k:Nat,g=N - k/\k<=N/\r=iV .i64 k/\Hid (dW b addr=dW (b.drop k) addr)/\wr=c)
 case atStart=>exact⟨0,rfl,by omega,rfl,q,rfl⟩
 case round=>
  obtain⟨k,C,D,rfl,i,M⟩:=hrel;subst M;have I:=aa C;clear C;by_cases L:k<N
  ·obtain⟨x,g,d,rfl,c0,c1,c2,c3,c4⟩:=l.out k L;have K:(k:Int)<(N:Int):=by omega
   by_cases f:x.addr=addr
   ·have B:dW b addr=some x:=by rw[i.out,OD b addr k x d f]
    have m:=aa (y.out x B);have z:(x.addr.toList == addr.toList)=true:=by rw[fZ];exact Ra f
    obtain⟨⟨k0,k1,k2,k3,k4⟩,f0,f1,f2,f3,f4⟩:=o.out.cells;obtain⟨O,S,P,Q,U,V,R⟩:=x;simp only[a6.sv] at c0 c1 c2 c3 c4 z;clear d f B l t y u i q;have X:w.heap.size<wr.heap.size:=Rj wr _ k0;go_wp2_with fail
    exact Rf (v:=tV #[gV #[sV O,iV .i64 S,sV P,sV Q,lV U R.length V],bV true]) (by simp[results,results53,go_sem,k0,k1,k2,k3,k4]) rfl ⟨by rw[m.out];rfl,Gx h.out (QU _) _ _ _ _ _⟩
   ·have G:Hid (dW b addr=dW (b.drop (k+1)) addr):=by rw[i.out];exact OC b addr k x d f
    have z:(x.addr.toList == addr.toList)=false:=by rw[fZ];exact Q9 f
    clear d f c1 c2 c3 c4;go_wp2_with fail
    go_roundg (N - (k+1))
    case measure=>have:=I.out;omega
    case rel=>exact⟨k+1,rfl,by omega,by go_num,G,rfl⟩
  ·obtain rfl:k=N:=by omega
   have K:¬(k:Int)<(k:Int):=by omega
   have A:dW b addr=none:=by rw[i.out,<-hN,List.drop_length];rfl
   have m:=aa (u.out A);clear A l;go_wp2_with fail
   refine(t.out _ h.out).mono ?_;rintro e w2 ⟨rfl,p⟩;have E:=aa (h.out.trans (p.mono h.out.size));obtain⟨⟨k0,k1,k2,k3,k4⟩,f0,f1,f2,f3,f4⟩:=(o.out.below p o.out.lt).cells;clear p;go_wp2_with fail
   exact Rf (v:=tV #[gV #[sV addr,iV .i64 0,sV ⟨#[]⟩,sV NC,lV none 0 0],bV false]) (by simp[results,results53,go_sem,k0,k1,k2,k3,k4]) rfl ⟨by rw[m.out,F.out],Gx E.out (QU _) _ _ _ _ _⟩
theorem N3:(yP.info? 107).map (fun i=>(i.zero,i.size,i.bytes))=some (some (gV #[sV ⟨#[]⟩,iV .i64 0,sV ⟨#[]⟩,sV ⟨#[]⟩,lV none 0 0]),5,80):=by kernel_rfl
def dz(b:List a6)(a:yB):List a6:=b.filter fun h=>!(h.addr.toList == a.toList)
theorem CU(b:List a6)(a):(dz b a).length<=b.length:=List.length_filter_le _ _
theorem LJ(b:List a6)(a)(k:Nat)(h:a6)(c:b[k]? =some h):dz (b.take (k+1)) a=dz (b.take k) a++(if(h.addr.toList == a.toList) then [] else [h]):=by
 unfold dz;rw[Sx,c,SI];cases hh:(h.addr.toList == a.toList)<;>simp[hh]
theorem Fw(w:World)(x0 x1 x2 x3 x4 t){n}(b:n=w.heap.size):∀j u,[x0,x1,x2,x3,x4][j]? =some u->(w.alloc (.cells #[x0,x1,x2,x3,x4] t)).cell? ((⟨n,0,none⟩:Addr).add j)=some u:=by
 subst b;intro j u c;have a:(⟨w.heap.size,0,none⟩:Addr).add j=⟨w.heap.size,j,none⟩:=by unfold Addr.add;split<;>simp_all
 rw[a,Q5 _ _ j _ _ _ (Rl w (.cells #[x0,x1,x2,x3,x4] t))];simpa using c
def wA(w:World)(b:List a6)(h:a6)(e:Ending)(w':World):Prop:=(∃(c:Value) (a:List a6),e=rV c/\w'.ownsRow w.heap.size 107 5 c a.length (gI a)/\(a=dz b h.addr\/a=dz b h.addr++[h]))/\yW w w'
theorem Nj(w v)(hs:List a6)(h:a6)(H:fE w v hs)(hn:hs.length<4000000000)(hl:h.aS.length<4000000000)(T:az w):
 Calls yP 104 #[v,eC h] w fun e w'=>wA w hs h e w'/\True:=by
 obtain⟨a,cap,rfl⟩:=H.form;obtain⟨ha,A0,hb,hc,hp,hq,A1⟩:=h;simp only at hl;obtain⟨R,hR⟩:=yX (wA w hs ⟨ha,A0,hb,hc,hp,hq,A1⟩)
 have C0:Hid (∀v' W,W.ownsRow w.heap.size 107 5 v' (dz hs ha).length (gI (dz hs ha))->Below w.heap.size w W->R (rV v') W):=fun v' W h1 h2=>by rw[hR];exact⟨⟨v',_,rfl,h1,.inl rfl⟩,h2⟩
 have D7:Hid (∀v' W,W.ownsRow w.heap.size 107 5 v' (dz hs ha++[(⟨ha,A0,hb,hc,hp,hq,A1⟩:a6)]).length (gI (dz hs ha++[(⟨ha,A0,hb,hc,hp,hq,A1⟩:a6)]))->Below w.heap.size w W->R (rV v') W):=fun v' W h1 h2=>by rw[hR];exact⟨⟨v',_,rfl,h1,.inr rfl⟩,h2⟩
 have D3:Hid (gI (dz hs ha++[(⟨ha,A0,hb,hc,hp,hq,A1⟩:a6)])=gI (dz hs ha)++[sV ha,iV .i64 A0,sV hb,sV hc,lV hp A1.length hq]):=EO _ _;rw[<-hR];clear hR;unfold eC a6.sv;simp only;obtain⟨W0,A5⟩:=yX (w.alloc (.cells #[sV ha,iV .i64 A0,sV hb,sV hc,lV hp A1.length hq] 107))
 have B6:Hid (Below w.heap.size w W0):=by rw[A5];exact(Q1 _ _).alloc (QU _) _
 have D8:Hid (W0.heap.size=w.heap.size+1):=by rw[A5];show _=_;simp
 have A8:Hid (g6 W0 w.heap.size 107 (sV ha) (iV .i64 A0) (sV hb) (sV hc) (lV hp A1.length hq)):=by rw[A5];exact g6.new _ _ _ _ _ _ _
 have HH:Hid (fE W0 (lV a hs.length cap) hs):=H.below B6.out;have B7:Hid (∀W,Below w.heap.size w W->Calls yP 95 #[] W fun e w'=>e=rV (sV fO)/\Below W.heap.size W w'):=fun W hW=>yM W (T.below hW)
 have HA:Hid (∀k (_:k<hs.length),∃xa xn xb xc xp xq xl g,a=some ⟨g,0,none⟩/\(∀W,Below W0.heap.size W0 W->W.cell? ⟨g,k*5,none⟩=some (sV xa)/\W.cell? ⟨g,k*5+1,none⟩=some (iV .i64 xn)/\W.cell? ⟨g,k*5+2,none⟩=some (sV xb)/\W.cell? ⟨g,k*5+3,none⟩=some (sV xc)/\W.cell? ⟨g,k*5+4,none⟩=some (lV xp xl xq))/\dz (hs.take (k+1)) ha=dz (hs.take k) ha++(if(xa.toList == ha.toList) then [] else [hs.getD k (lN ha)])/\gI [hs.getD k (lN ha)]=[sV xa,iV .i64 xn,sV xb,sV xc,lV xp xl xq]):=fun k hk=>by
  have hx:hs[k]? =some hs[k]:=QV hk;obtain⟨g,e,_,c0,c1,c2,c3,c4⟩:=HH.out.at_ k _ hx;have C2:hs.getD k (lN ha)=hs[k]:=by rw[Q3,hx];rfl
  refine⟨_,_,_,_,hs[k].sa,hs[k].sc,hs[k].aS.length,g,e,fun W hW=>⟨dC hW c0,dC hW c1,dC hW c2,dC hW c3,dC hW c4⟩,?_,?_⟩
  ·rw[C2];exact LJ hs ha k _ hx
  ·rw[C2];rfl
 have HE:Hid (dz (hs.take hs.length) ha=dz hs ha):=by show _=_;rw[SG]
 have D4:Hid (∀k,(dz (hs.take k) ha).length<=k):=fun k=>Q7 (CU _ _) (by rw[Rs];omega)
 have D5:Hid ((dz hs ha).length<=hs.length):=CU _ _;obtain⟨i0,C5,C8,C9,D0⟩:=Sf N3;clear H T HH;generalize hs.length=N at*;generalize fO=NC at*;generalize A1.length=SL at*;go_enter func104,ntmps104
 go_wp2_with fail
 rw[<-A5];clear A5;go_loopg [5,6] N (fun g v r wr=>∃i:Nat,g=N - i/\i<=N/\r=iV .i64 i/\Hid (wr.ownsRow (w.heap.size+1) 107 5 v (dz (hs.take i) ha).length (gI (dz (hs.take i) ha)))/\Hid (Below W0.heap.size W0 wr))
 case atStart=>exact⟨0,rfl,by omega,rfl,RO _ _ _ _,Q1 _ _⟩
 case round=>
  obtain⟨i,hg,hi,rfl,HO,HB⟩:=hrel;have HG:Hid (gk=N - i):=hg;clear hg;have E6:=HB.out.size;have F1:=D8.out;obtain⟨⟨k0,k1,k2,k3,k4⟩,_⟩:=(A8.out.below HB.out A8.out.lt).cells;by_cases E3:i<N
  ·obtain⟨xa,xn,xb,xc,xp,xq,xl,g,rfl,B4,A2,B5⟩:=HA.out i E3;obtain⟨c0,c1,c2,c3,c4⟩:=B4 wr HB.out;have E2:(i:Int)<(N:Int):=by omega
   have E9:=D4.out i;cases hls:(xa.toList == ha.toList)
   ·rw[hls] at A2;have B1:Hid (dz (hs.take (i+1)) ha=dz (hs.take i) ha++[hs.getD i (lN ha)]):=A2;have D2:Hid (gI [hs.getD i (lN ha)]=[sV xa,iV .i64 xn,sV xb,sV xc,lV xp xl xq]):=B5;have B9:Hid (wr.drew.ownsRow (w.heap.size+1) 107 5 u5 (dz (hs.take i) ha).length (gI (dz (hs.take i) ha))):=HO.out.drew;have A9:Hid (Below W0.heap.size W0 wr.drew):=⟨HB.out.os,HB.out.tape,HB.out.output,HB.out.size,HB.out.block⟩
    clear A2 B5 B4 k1 k2 k3 k4;generalize dz (hs.take i) ha=os at*;go_upto_region 5 with fail
    go_region
    go_wp2_with (at_builtin;refine RG _ rfl (.tmp 22) (.tmp 27) 62 rfl (w.heap.size+1) 107 i0 (gV #[sV ⟨#[]⟩,iV .i64 0,sV ⟨#[]⟩,sV ⟨#[]⟩,lV none 0 0]) 5 80 underlying62 C5 C8 C9 D0 rfl (by decide) _ os.length (gI os) rfl (B9.out.alloc _) ⟨wr.heap.size,0,none⟩ 1 1 [sV xa,iV .i64 xn,sV xb,sV xc,lV xp xl xq] rfl rfl (Fw _ _ _ _ _ _ _ rfl) ?c2 (by omega) ?c3 ?c4 ?c5 _ rfl ?c6)
    case c2=>first|exact⟨rfl,rfl,rfl,rfl,rfl⟩| (intro v hv;simp at hv;rcases hv with rfl|rfl|rfl|rfl|rfl<;>rfl)
    case c3=>unfold maxLen;omega
    case c4=>omega
    case c5=>first|omega| (simp;omega)
    intro g2 B2 w2 C6 C3 D9 E4;have A4:Hid (w2.ownsRow (w.heap.size+1) 107 5 (lV (some ⟨g2,0,none⟩) (os.length+1) B2) (dz (hs.take (i+1)) ha).length (gI (dz (hs.take (i+1)) ha))):=by
     show World.ownsRow _ _ _ _ _ _ _;rw[B1.out,EO,D2.out,Q4];exact C6
    have A3:Hid (Below W0.heap.size W0 w2):=(A9.out.alloc E6 _).grown C3 (by simp;omega) (fun k hk=>by have:=(B9.out.lt k hk).1;omega);clear C6 C3 D9 E4;go_wp2_with fail
    go_roundg (N - (i+1))
    case measure=>have:=HG.out;omega
    case rel=>exact⟨i+1,rfl,by omega,by go_num,A4,A3⟩
   ·rw[hls] at A2;have B1:Hid (dz (hs.take (i+1)) ha=dz (hs.take i) ha):=by rw[A2];show _=_;simp
    have D6:Hid (wr.drew.ownsRow (w.heap.size+1) 107 5 u5 (dz (hs.take (i+1)) ha).length (gI (dz (hs.take (i+1)) ha))):=by rw[B1.out];exact HO.out.drew
    have A9:Hid (Below W0.heap.size W0 wr.drew):=⟨HB.out.os,HB.out.tape,HB.out.output,HB.out.size,HB.out.block⟩
    clear A2 B5 B4 k1 k2 k3 k4;go_upto_region 5 with fail
    go_region
    go_wp2_with fail
    go_roundg (N - (i+1))
    case measure=>have:=HG.out;omega
    case rel=>exact⟨i+1,rfl,by omega,by go_num,D6,A9⟩
  ·obtain rfl:i=N:=by omega
   have E2:¬(i:Int)<(i:Int):=by omega
   rw[HE.out] at HO;have F0:=D5.out;have B0:Hid (Below w.heap.size w wr):=B6.out.trans (HB.out.mono (by omega));generalize dz hs ha=os at*;clear HA;go_wp2_with fail
   refine(B7.out _ B0.out).mono ?_;rintro e w2 ⟨rfl,A6⟩;have A3:Hid (Below w.heap.size w w2):=B0.out.trans (A6.mono B0.out.size);have A4:Hid (w2.ownsRow (w.heap.size+1) 107 5 u5 os.length (gI os)):=cK HO.out fun g hg=>A6.block g (HO.out.lt g hg).2
   have A7:Hid (R (rV u5) w2):=C0.out u5 w2 (l9 A4.out (by omega)) A3.out;have E7:=A3.out.size;have E8:w.heap.size<w2.heap.size:=by have:=A6.size;omega
   obtain⟨⟨m0,m1,m2,m3,m4⟩,_⟩:=((A8.out.below HB.out A8.out.lt).below A6 (by show w.heap.size<wr.heap.size;omega)).cells;clear A6 k0 k1 k2 k3 k4 C0 B7;by_cases B3:A0=0/\hb.size=0/\hc=NC/\SL=0
   ·obtain⟨rfl,C1,rfl,rfl⟩:=B3;have hE:hb.toList.isEmpty=true:=by rw[gH];exact C1
    clear C1;go_wp2_with fail
    go_ret
    exact⟨A7.out,trivial⟩
   ·have E1:(A0 == 0)=false\/(A0=0/\hb.toList.isEmpty=false)\/(A0=0/\hb.toList.isEmpty=true/\(hc.toList == NC.toList)=false)\/(A0=0/\hb.toList.isEmpty=true/\(hc.toList == NC.toList)=true/\((SL:Int) == 0)=false):=by
     by_cases h1:A0=0
     ·by_cases h2:hb.size=0
      ·by_cases h3:hc=NC
       ·refine .inr (.inr (.inr ⟨h1,by rw[gH];exact h2,by rw[fZ];exact Ra h3,?_⟩));have:SL≠0:=fun h4=>B3 ⟨h1,h2,h3,h4⟩
        simp;omega
       ·exact .inr (.inr (.inl ⟨h1,by rw[gH];exact h2,by rw[fZ];exact Q9 h3⟩))
      ·exact .inr (.inl ⟨h1,by rw[gT];exact h2⟩)
     ·exact .inl (by simpa using h1)
    clear B3 A7;rcases E1 with h1|⟨rfl,h1⟩|⟨rfl,h1,h2⟩|⟨rfl,h1,h2,h4⟩;all_goals
     go_wp2_with (at_builtin;refine RG _ rfl (.tmp 51) (.tmp 53) 62 rfl (w.heap.size+1) 107 i0 (gV #[sV ⟨#[]⟩,iV .i64 0,sV ⟨#[]⟩,sV ⟨#[]⟩,lV none 0 0]) 5 80 underlying62 C5 C8 C9 D0 rfl (by decide) _ os.length (gI os) rfl (A4.out.alloc _) ⟨w2.heap.size,0,none⟩ 1 1 [sV ha,_,sV hb,sV hc,lV hp SL hq] rfl rfl (Fw _ _ _ _ _ _ _ rfl) (by first|exact⟨rfl,rfl,rfl,rfl,rfl⟩| (intro v hv;simp at hv;rcases hv with rfl|rfl|rfl|rfl|rfl<;>rfl)) (by omega) (by unfold maxLen;omega) (by omega) (by first|omega| (simp;omega)) _ rfl ?_)
     intro g2 B2 w3 C7 C4 E0 E5;have B8:=l9 (base':=w.heap.size) C7 (by omega);have D1:Hid (Below w.heap.size w w3):=(A3.out.alloc E7 _).grown C4 (by simp;omega) (fun k hk=>by have:=(A4.out.lt k hk).1;omega);have A7:Hid (R (rV (lV (some ⟨g2,0,none⟩) (os.length+1) B2)) w3):=D7.out _ w3 (by rw[D3.out,Q4];exact B8) D1.out;clear C7 C4 E0 E5 B8;go_wp2_with fail
     go_ret
     exact⟨A7.out,trivial⟩
structure bN where
 rb:Nat
 sb:Nat
 sp:Nat
 tw:Nat
 tt:Nat
 D:List Nat
 N:Nat
 mv:Value
 m:List a6
 bv:Value
 base:List a6
 sv:Value
 seen:List yB
 yes:Bool
def mE(l:Nat->Nat)(v:Value)(a:List a6):Prop:=(∀g,v.ownBlock=some g->l g=0)/\∀h∈a,∀g,h.sv.ownBlock=some g->l g=0
theorem fE.mv{T l l' w w' v d}(h:fE w v d)(c:mE l v d)(m:Mv T l l' w w')(h0:¬T 0):fE w' v d/\mE l' v d:=
 ⟨⟨cK h.1 fun g a=>m.kept (h.1.lt g a).2 (c.1 g a) h0,fun x b=>by
  have k:=h.2 x b
  exact⟨k.addr,k.n,k.aj,k.code,(k.at_.mv (c.2 x b) m h0).1,k.len,k.small⟩⟩,
  ⟨fun g a=>(m.aM g (h.1.lt g a).2).trans (c.1 g a),fun x b=>((h.2 x b).at_.mv (c.2 x b) m h0).2⟩⟩
structure j9(l:Nat->Nat)(w:World)(R:bN):Prop where
 ah:w.heap[R.rb]? =some (.cells #[pV (qA R.sb),pV (qA R.sp),R.mv,R.bv,R.sv,pV (qA R.tt)] 65 (0,0))
 lb:l R.rb=pr R.rb 0
 pm:fE w R.mv R.m
 lm:mE l R.mv R.m
 pb:fE w R.bv R.base
 lv:mE l R.bv R.base
 sn:w.ownsRow 3 9 1 R.sv R.seen.length (R.seen.map Value.string)
 ls:∀g,R.sv.ownBlock=some g->l g=pr R.rb 0
 sm:∀s∈R.seen,s.size<=1073741824
 tn:w.heap[R.tt]? =some (.cells #[bV R.yes] 61 (0,0))
 lt:l R.tt=pr R.tt 0
 nm:R.m.length<1000000000
 nb:R.base.length<1000000000
 ns:R.seen.length<1000000000
theorem j9.ij{l w R}(h:j9 l w R):R.rb<w.heap.size:=(Q0.1 h.ah).1
theorem j9.pf{l w R}(h:j9 l w R):R.tt<w.heap.size:=(Q0.1 h.tn).1
theorem j9.move{T l l' w w' R}(h:j9 l w R)(m:Mv T l l' w w')(h0:¬T 0)(h1:¬T (pr R.rb 0))(h2:¬T (pr R.tt 0)):j9 l' w' R:=
 {ah:=(m.kept h.ij h.lb h1).trans h.ah
  lb:=(m.aM _ h.ij).trans h.lb
  pm:=(h.pm.mv h.lm m h0).1
  lm:=(h.pm.mv h.lm m h0).2
  pb:=(h.pb.mv h.lv m h0).1
  lv:=(h.pb.mv h.lv m h0).2
  sn:=cK h.sn fun g a=>m.kept (h.sn.lt g a).2 (h.ls g a) h1
  ls:=fun g a=>(m.aM g (h.sn.lt g a).2).trans (h.ls g a)
  sm:=h.sm
  tn:=(m.kept h.pf h.lt h2).trans h.tn
  lt:=(m.aM _ h.pf).trans h.lt
  nm:=h.nm
  nb:=h.nb
  ns:=h.ns}
theorem j9.cells{l w R}(h:j9 l w R):w.cell? ⟨R.rb,0,none⟩=some (pV (qA R.sb))/\w.cell? ⟨R.rb,1,none⟩=some (pV (qA R.sp))/\w.cell? ⟨R.rb,2,none⟩=some R.mv/\w.cell? ⟨R.rb,3,none⟩=some R.bv/\w.cell? ⟨R.rb,4,none⟩=some R.sv/\w.cell? ⟨R.rb,5,none⟩=some (pV (qA R.tt))/\w.cell? ⟨R.tt,0,none⟩=some (bV R.yes):=by
 refine⟨?_,?_,?_,?_,?_,?_,?_⟩
 ·rw[Q5 w _ 0 _ _ _ h.ah];rfl
 ·rw[Q5 w _ 1 _ _ _ h.ah];rfl
 ·rw[Q5 w _ 2 _ _ _ h.ah];rfl
 ·rw[Q5 w _ 3 _ _ _ h.ah];rfl
 ·rw[Q5 w _ 4 _ _ _ h.ah];rfl
 ·rw[Q5 w _ 5 _ _ _ h.ah];rfl
 ·rw[Q5 w _ 0 _ _ _ h.tn];rfl
structure bS(l:Nat->Nat)(w:World)(R:bN)(us:Nat->Value)(ps:List (yB×yB)):Prop where
 y:j9 l w R
 x:SX l w R.sp R.sb R.tw R.D R.N us ps
theorem bS.ne{l w R d c}(h:bS l w R d c):R.sp≠R.rb/\R.sp≠R.tt/\R.rb≠R.tt/\R.rb≠R.sb/\R.tt≠R.sb:=by
 obtain⟨j,g,i,f,a,_⟩:=h.x.st;have b1:=h.y.ah;have b2:=h.y.tn;have b3:=a.ah.ah;obtain⟨_,b,_⟩:=h.x.ko.st;have b4:=b.ah;refine⟨fun e=>?_,fun e=>?_,fun e=>?_,fun e=>?_,fun e=>?_⟩
 ·rw[e,b1] at b3;injection b3 with b3;injection b3 with _ b3;cases b3
 ·rw[e,b2] at b3;injection b3 with b3;injection b3 with _ b3;cases b3
 ·rw[e,b2] at b1;injection b1 with b1;injection b1 with _ b1;cases b1
 ·rw[e,b4] at b1;injection b1 with b1;injection b1 with _ b1;cases b1
 ·rw[e,b4] at b2;injection b2 with b2;injection b2 with _ b2;cases b2
def bN.arg(R:bN)(l:Nat->Nat)(w:World)(b:Nat->Value)(a:List (yB×yB)):jF:=⟨l,w,R.sp,R.sb,R.tw,R.D,R.N,b,a⟩
theorem bS.start{l w R b a}(h:bS l w R b a):SC (R.arg l w b a) 0 [] [] w:=SC.start h.x
theorem bS.after{l w w' R d c K i e}(h:bS l w R d c)(f:SC (R.arg l w d c) K i e w'):∃l' b,Mv (Of R.sp) l l' w w'/\bS l' w' {R with D:=b,N:=R.N+K} d c:=by
 obtain⟨n1,n2,_⟩:=h.ne;obtain⟨l',b,m,_,_,g,_⟩:=f;have a:=h.y.move m (mf _) (mg n1) (mg n2);exact⟨l',b,m,⟨⟨a.ah,a.lb,a.pm,a.lm,a.pb,a.lv,a.sn,a.ls,a.sm,a.tn,a.lt,a.nm,a.nb,a.ns⟩,g⟩⟩
theorem bS.below{l w w' R c b}(h:bS l w R c b)(a:yW w w'):bS (fA l w.heap.size) w' R c b:=
 ⟨h.y.move (Mv.below (fun _=>False) l a) id id id,h.x.below a⟩
theorem bS.cells{l w w' R c b K f d}(h:bS l w R c b)(e:SC (R.arg l w c b) K f d w'):(w'.cell? ⟨R.rb,0,none⟩=some (pV (qA R.sb))/\w'.cell? ⟨R.rb,1,none⟩=some (pV (qA R.sp))/\w'.cell? ⟨R.rb,2,none⟩=some R.mv/\w'.cell? ⟨R.rb,3,none⟩=some R.bv/\w'.cell? ⟨R.rb,4,none⟩=some R.sv/\w'.cell? ⟨R.rb,5,none⟩=some (pV (qA R.tt))/\w'.cell? ⟨R.tt,0,none⟩=some (bV R.yes))/\fE w' R.mv R.m/\fE w' R.bv R.base/\fD w' R.sv R.seen:=by
 obtain⟨l',g,m,a⟩:=h.after e;exact⟨a.y.cells,a.y.pm,a.y.pb,oZ a.y.sn⟩
theorem xK{w:World}{rb i j c b}(c5:w.cell? ⟨rb,5,none⟩=some (pV (qA i)))(c4:w.cell? ⟨rb,4,none⟩=some c)(d0:w.cell? ⟨i,0,none⟩=some (bV j))(f:fD w c b)(m:b.length<1000000000)(g:∀s∈b,s.size<=1073741824)(T:az w):
 Calls yP 54 #[pV (qA rb)] w fun e w'=>bE e/\yW w w':=by
 have l:Hid (Calls yP 46 #[c] w fun e w'=>e=rV (bV (cQ b b.length))/\yW w w'):=oh w c b f (by omega) (fun p h=>by have:=g p h;unfold maxLen;omega) T;obtain⟨a,cap,rfl,_⟩:=f;clear T g;generalize b.length=NS at*;generalize cQ b NS=CK at*;cases j with
 |true=>
  go_enter func54,ntmps54
  go_wp2_with fail
  go_ret
  exact⟨⟨true,rfl⟩,Q1 _ _⟩
 |false=>
  go_enter func54,ntmps54
  go_wp2_with fail
  refine l.out.mono ?_;rintro e w1 ⟨rfl,d⟩;have k:=aa d;clear d;go_wp2_with fail
  go_ret
  exact⟨⟨CK,rfl⟩,k.out⟩
theorem bS.may{l w w' R c b K f d}(h:bS l w R c b)(a:SC (R.arg l w c b) K f d w'):Calls yP 54 #[pV (qA R.rb)] w' fun e w2=>bE e/\SC (R.arg l w c b) K f d w2:=by
 obtain⟨⟨_,_,_,_,c4,c5,d0⟩,_,_,g⟩:=h.cells a;exact(xK c5 c4 d0 g h.y.ns h.y.sm a.bt).mono fun _ _ ⟨h1,h2⟩=>⟨h1,a.below h2⟩
structure pN(A:jF)(rb tt:Nat)(mv bv sv:Value)(yes:Bool)(m base:List a6)(seen:List yB):Prop where
 cells:∀K ts bx W,SC A K ts bx W->(W.cell? ⟨rb,0,none⟩=some (pV (qA A.sb))/\W.cell? ⟨rb,1,none⟩=some (pV (qA A.sp))/\W.cell? ⟨rb,2,none⟩=some mv/\W.cell? ⟨rb,3,none⟩=some bv/\W.cell? ⟨rb,4,none⟩=some sv/\W.cell? ⟨rb,5,none⟩=some (pV (qA tt))/\W.cell? ⟨tt,0,none⟩=some (bV yes))/\fE W mv m/\fE W bv base/\fD W sv seen
 may:∀K ts bx W,SC A K ts bx W->Calls yP 54 #[pV (qA rb)] W fun e w2=>bE e/\SC A K ts bx w2
 nm:m.length<1000000000
 nb:base.length<1000000000
theorem bS.facts{l w R b a}(h:bS l w R b a):pN (R.arg l w b a) R.rb R.tt R.mv R.bv R.sv R.yes R.m R.base R.seen:=
 ⟨fun _ _ _ _ hS=>h.cells hS,fun _ _ _ _ hS=>h.may hS,h.y.nm,h.y.nb⟩
theorem Gt(W){a:yB}(b:a.size<=1073741824):iA W (lN a):=by
 refine⟨b,?_,?_,?_,dP.nil W,?_,fun p c=>absurd c Si⟩
 ·show Rg 0;exact⟨by decide,by decide⟩
 ·show(⟨#[]⟩:yB).size<=_;decide
 ·show fO.size<=_;rw[show fO.size=32 from eL _];decide
 ·show 0<4000000000;decide
theorem kI{W v m}{addr:yB}(h:fE W v m)(a:addr.size<=1073741824):iA W (bz m addr).1:=by
 unfold bz;have key:∀(l:List a6) x,dW l addr=some x->x∈l:=by
  intro l;induction l with
  |nil=>intro x e;cases e
  |cons y t ih=>
   intro x e;unfold dW at e;split at e
   ·cases e;exact QY ..
   ·exact QZ _ (ih x e)
 cases hf:dW m addr with
 |some x=>exact h.2 x (key m x hf)
 |none=>exact Gt W a
theorem SC.find{A K c a W}(b:SC A K c a W){v m}(h:fE W v m)(d:m.length<1000000000)(addr):Calls yP 53 #[v,sV addr] W fun e w'=>e=rV (tV #[eC (bz m addr).1,bV (bz m addr).2])/\SC A K c a w':=
 (Ej W v m addr h (by omega) b.bt).mono fun _ _ ⟨h1,h2⟩=>⟨h1,b.below h2⟩
theorem Qu{A:jF}{rb tt:Nat}{mv bv sv:Value}{D5:Bool}{m base:List a6}{D4:List yB}(F:pN A rb tt mv bv sv D5 m base D4){K:Nat}{ts:List Nat}{bx:List (Nat×Obj)}{w:World}(hS:SC A K ts bx w)(addr A1:yB)(ha:addr.size<=1073741824)(D7:A1.size<=1073741824)(hN:A.N+K+1000<4000000000):
 Calls yP 25 #[pV (some ⟨rb,0,none⟩),sV addr,sV A1] w fun e w'=>bE e/\SC A (K+800) ts bx w':=by
 have C2:Hid (Calls yP 52 #[pV (some ⟨A.sp,0,none⟩),sV addr] w fun e w'=>jK e/\SC A (K+250) ts bx w'):=(Hb hS addr (by unfold maxLen;omega)).mono fun _ _ ⟨⟨h1,_⟩,h2⟩=>⟨h1,h2⟩
 have D0:Hid (∀A0 W,SC A (K+250) ts A0 W->Calls yP 55 #[pV (some ⟨A.sp,0,none⟩),sV addr,sV A1] W fun e w'=>tF e/\SC A (K+800) ts A0 w'):=fun A0 W hW=>(QD hW addr A1 (by unfold maxLen;omega) (by unfold maxLen;omega) (by omega)).mono fun _ _ ⟨h1,h2⟩=>⟨h1,h2.mono (by omega)⟩
 have B6:Hid (∀K' A0 W,SC A K' ts A0 W->Calls yP 54 #[pV (some ⟨rb,0,none⟩)] W fun e w2=>bE e/\SC A K' ts A0 w2):=fun K' A0 W hW=>F.may K' ts A0 W hW
 have A7:Hid (∀A0 W,SC A (K+250) ts A0 W->Calls yP 53 #[mv,sV addr] W fun e w'=>e=rV (tV #[eC (bz m addr).1,bV (bz m addr).2])/\SC A (K+250) ts A0 w'):=fun A0 W hW=>hW.find (F.cells _ _ _ _ hW).2.1 F.nm addr
 have B5:Hid (∀K' A0 W,SC A K' ts A0 W->Calls yP 36 #[(bz m addr).1.sv,sV A1] W fun e w'=>e=rV (sV (dj (bz m addr).1.aS A1))/\w'=W):=fun K' A0 W hW=>by
  have k:=kI (F.cells _ _ _ _ hW).2.1 ha;exact mY W _ _ A1 k.at_ (by have:=k.len;omega)
 have B3:Hid (∀K' A0 W,SC A K' ts A0 W->W.cell? ⟨rb,1,none⟩=some (pV (some ⟨A.sp,0,none⟩))/\W.cell? ⟨rb,2,none⟩=some mv):=fun K' A0 W hW=>⟨(F.cells _ _ _ _ hW).1.2.1,(F.cells _ _ _ _ hW).1.2.2.1⟩
 obtain⟨c1,_⟩:=B3.out _ _ _ hS;obtain⟨ma,mc,C7⟩:=(F.cells _ _ _ _ hS).2.1.form;rw[C7] at A7 B3;have D6:=F.nm;generalize (bz m addr).2=ok at*;generalize (bz m addr).1=h at*;obtain⟨xa,xn,xb,xc,xp,xq,xl⟩:=h;unfold eC a6.sv at A7;unfold a6.sv at B5;simp only at A7 B5;generalize dj xl A1=HV at*;generalize xl.length=XL at*;generalize m.length=MN at*;clear F hS C7;go_enter func25,ntmps25
 go_wp2_with fail
 refine C2.out.mono ?_;rintro e w1 ⟨⟨a,th,c,rfl,D2,hz⟩,C4⟩;obtain⟨n,A2,A6,A4⟩:=a;have A8:=C4.box #[iV .i64 n,sV A2,sV A6,sV A4] 103;obtain⟨W2,B0⟩:=yX (w1.alloc (.cells #[iV .i64 n,sV A2,sV A6,sV A4] 103))
 rw[<-B0] at A8;have C9:Hid (SC A (K+250) ts ((w1.heap.size,.cells #[iV .i64 n,sV A2,sV A6,sV A4] 103 (0,0))::bx) W2):=A8;have C3:Hid (SC A (K+800) ts bx W2):=A8.unbox.mono (by omega);obtain⟨d1,d2⟩:=B3.out _ _ _ A8;unfold cy;clear C4 A8 D2 hz C2 c1;by_cases h20:addr.size=20
 ·have D1:(addr.size:Int)=20:=by omega
  rw[B0] at d1 d2;go_wp2_with fail
  rw[<-B0];clear B0 d1 d2;refine(A7.out _ _ C9.out).mono ?_;rintro e w3 ⟨rfl,C5⟩;have A5:=C5.box #[sV xa,iV .i64 xn,sV xb,sV xc,lV xp XL xq] 107;obtain⟨W4,C0⟩:=yX (w3.alloc (.cells #[sV xa,iV .i64 xn,sV xb,sV xc,lV xp XL xq] 107))
  rw[<-C0] at A5;have B7:Hid (SC A (K+250) ts ((w3.heap.size,.cells #[sV xa,iV .i64 xn,sV xb,sV xc,lV xp XL xq] 107 (0,0))::(w1.heap.size,.cells #[iV .i64 n,sV A2,sV A6,sV A4] 103 (0,0))::bx) W4):=A5;obtain⟨d1,d2⟩:=B3.out _ _ _ A5;have C6:fH W4 w1.heap.size 103 (iV .i64 n) (sV A2) (sV A6) (sV A4):=(A5.held _ (QZ _ (QY ..))).1;have B1:g6 W4 w3.heap.size 107 (sV xa) (iV .i64 xn) (sV xb) (sV xc) (lV xp XL xq):=A5.at_;obtain⟨⟨k0,k1,k2,k3⟩,_⟩:=C6.cells;obtain⟨⟨p0,p1,p2,p3,p4⟩,_⟩:=B1.cells;clear C5 A5 C6 B1 C3 A7;go_upto_region 5 with fail
  rw[<-C0];clear C0;go_cut [12] (fun v wx=>∃b:Bool,v=bV b/\wx=W4)
  case first=>
   have B2:((c:Int) == 0)=false\/(((c:Int) == 0)=true/\(th == ok)=false)\/(((c:Int) == 0)=true/\(th == ok)=true/\((n:Int) == xn)=false)\/(((c:Int) == 0)=true/\(th == ok)=true/\((n:Int) == xn)=true/\(A2.toList == xb.toList)=false)\/(((c:Int) == 0)=true/\(th == ok)=true/\((n:Int) == xn)=true/\(A2.toList == xb.toList)=true):=by
    cases ((c:Int) == 0)<;>cases (th == ok)<;>cases ((n:Int) == xn)<;>cases (A2.toList == xb.toList)<;>simp
   rcases B2 with h1|⟨h1,h2⟩|⟨h1,h2,h3⟩|⟨h1,h2,h3,h4⟩|⟨h1,h2,h3,h4⟩;all_goals
    go_wp2_with fail
    go_meet
    exact⟨_,rfl,rfl⟩
  case rest=>
   obtain⟨b,rfl,rfl⟩:=hcut;cases b with
   |false=>
    go_wp2_with fail
    refine(B6.out _ _ _ B7.out).mono ?_;rintro e w5 ⟨⟨b5,rfl⟩,A3⟩;have B4:Hid (SC A (K+800) ts bx w5):=A3.unbox.unbox.mono (by omega);clear A3;go_wp2_with fail
    go_ret
    exact⟨⟨b5,rfl⟩,B4.out⟩
   |true=>
    by_cases C1:A1.size=0
    ·have hE:A1.toList.isEmpty=true:=by rw[gH];exact C1
     have B4:Hid (SC A (K+800) ts bx wc):=B7.out.unbox.unbox.mono (by omega);go_wp2_with fail
     go_ret
     exact⟨⟨true,rfl⟩,B4.out⟩
    ·have hE:A1.toList.isEmpty=false:=by rw[gT];exact C1
     clear C1;go_wp2_with fail
     refine(D0.out _ _ B7.out).mono ?_;rintro e w5 ⟨⟨v5,c5,rfl,_⟩,A3⟩;have B4:Hid (SC A (K+800) ts ((w3.heap.size,.cells #[sV xa,iV .i64 xn,sV xb,sV xc,lV xp XL xq] 107 (0,0))::(w1.heap.size,.cells #[iV .i64 n,sV A2,sV A6,sV A4] 103 (0,0))::bx) w5):=A3;have B8:Hid (SC A (K+800) ts bx w5):=A3.unbox.unbox;have B1:g6 w5 w3.heap.size 107 (sV xa) (iV .i64 xn) (sV xb) (sV xc) (lV xp XL xq):=A3.at_;obtain⟨⟨q0,q1,q2,q3,q4⟩,_⟩:=B1.cells;have C8:Hid (Calls yP 36 #[lV xp XL xq,sV A1] w5 fun e w'=>e=rV (sV HV)/\w'=w5):=B5.out _ _ _ A3;clear A3 B1 k0 k1 k2 k3 p0 p1 p2 p3 p4 d1 d2;go_wp2_with fail
     refine C8.out.mono ?_;rintro e wx ⟨rfl,D3⟩;subst D3;have B2:((c5:Int) == 0)=false\/(((c5:Int) == 0)=true/\(v5.toList == HV.toList)=false)\/(((c5:Int) == 0)=true/\(v5.toList == HV.toList)=true):=by
      cases ((c5:Int) == 0)<;>cases (v5.toList == HV.toList)<;>simp
     rcases B2 with h1|⟨h1,h2⟩|⟨h1,h2⟩
     ·go_wp2_with fail
      refine(B6.out _ _ _ B8.out).mono ?_;rintro e w7 ⟨⟨b7,rfl⟩,A9⟩;have B9:Hid (SC A (K+800) ts bx w7):=A9;clear A9;go_wp2_with fail
      go_ret
      exact⟨⟨b7,rfl⟩,B9.out⟩
     ·go_wp2_with fail
      refine(B6.out _ _ _ B8.out).mono ?_;rintro e w7 ⟨⟨b7,rfl⟩,A9⟩;have B9:Hid (SC A (K+800) ts bx w7):=A9;clear A9;go_wp2_with fail
      go_ret
      exact⟨⟨b7,rfl⟩,B9.out⟩
     ·go_wp2_with fail
      go_ret
      exact⟨⟨true,rfl⟩,B8.out⟩
 ·have D1:¬(addr.size:Int)=20:=by omega
  have B2:((c:Int) == 2)=false\/((c:Int) == 2)=true:=by cases ((c:Int) == 2)<;>simp
  clear d1 d2;rcases B2 with h1|h1;all_goals
   go_wp2_with fail
   go_ret
   (try rw[<-B0])
   exact⟨⟨_,rfl⟩,C3.out⟩
end Go.Proofs.YtiimkkahmpmhdaaGreatDoor
