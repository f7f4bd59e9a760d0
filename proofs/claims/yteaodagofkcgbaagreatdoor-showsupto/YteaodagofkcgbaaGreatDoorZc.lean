import Derived.Test.YteaodagofkcgbaaGreatDoorZa
import Derived.Test.YteaodagofkcgbaaGreatDoorZb
open Go.Proofs.Tryz
open Go.Proofs.Tryz renaming prog→yP
open Go.Value renaming string→sV,pointer→pV,int→iV,slice→lV,bool→bV,tuple→tV,agg→gV
open Go.Ending renaming returned→rV
namespace Go.Proofs.YteaodagofkcgbaaGreatDoor
open Go.RowKit
set_option maxRecDepth 100000
set_option maxHeartbeats 0
set_option linter.all false
structure gO(base:Nat)(bx:List (Nat×Obj))(v:Value)(cs:List yB):Prop where
 own:∀W:World,(∀b∈bx,W.heap[b.1]? =some b.2)->W.ownsRow base 9 1 v cs.length (cs.map Value.string)
 len:cs.length<=81
 small:∀c∈cs,c.size<=4096
def MY{w:World}{base v n d}(h:w.ownsRow base 9 1 v n d):∃bx:List (Nat×Obj),(∀b∈bx,w.heap[b.1]? =some b.2/\base<=b.1)/\∀W:World,(∀b∈bx,W.heap[b.1]? =some b.2)->W.ownsRow base 9 1 v n d:=by
 have e:=h;rcases e.2 with⟨rfl,rfl⟩|⟨g,cap,c,rfl,a,j,rest⟩
 .refine⟨[],(λb a=>absurd a Vs),λW _=>⟨h.1,.inl ⟨rfl,rfl⟩⟩⟩
 refine⟨[(g,.cells c 9 (0,0))],λb i=>?_,λW f=>⟨h.1,.inr ⟨g,cap,c,rfl,a,f _ (Uo.2 rfl),rest⟩⟩⟩;rw[Uo.1 i];exact⟨j,a⟩
def SC.JI{A P K n g w w2}(h:SC A P K n g w)(c:yW w w2)(L:List (Nat×Obj))(e:∀b∈L,w2.heap[b.1]? =some b.2/\w.heap.size<=b.1):SC A P K n (L++g) w2:=by
 have p:=h.size;let⟨l',o,m,h1,h2,f,h3⟩:=h;let⟨l2,i⟩:=yX (λk=>if k<w.heap.size then l' k else nD A);have lo:∀k,k<w.heap.size->l2 k=l' k:=λk d=>by rw[i];simp[d]
 have q:∀k,w.heap.size<=k->l2 k=nD A:=λk d=>by rw[i];simp[VK.2 d]
 have l:Mv (λ_=>False) l' l2 w w2:=⟨c.os,c.tape,c.output,c.size,lo,λk d _=>c.block k d⟩
 refine⟨l2,o,m.trans (l.mono λ_ f=>f.elim),h1,h2,f.move l id id λ_=>id,λb a=>?_⟩;rcases UA.1 a with a|a
 .exact⟨(e b a).1,q _ (e b a).2,Ut p (e b a).2⟩
 let⟨b1,b2,b3⟩:=h3 b a;have j:b.1<w.heap.size:=(Um.1 b1).1;exact⟨(c.block _ j).trans b1,(lo _ j).trans b2,b3⟩
def SC.held{A P K d a w}(h:SC A P K d a w):∀b∈a,w.heap[b.1]? =some b.2/\A.w.heap.size<=b.1:=λb c=>by
 let⟨l',e,m,h1,h2,f,h3⟩:=h
 exact⟨(h3 b c).1,(h3 b c).2.2⟩
def sI(A:fm)(P:Nat->List yB->GP)(Z:Nat->List yB->Prop)(K:Nat)(d:List Nat)(b:List (Nat×Obj))(e:Ending)(w':World):Prop:=∃(v:Value)(c:Nat)(cs:List yB)(a:List (Nat×Obj)),e=rV (tV #[v,iV .i64 c])/\gO A.w.heap.size a v cs/\Z c cs/\SC A (P c cs) K d (a++b) w'
def lU(A:fm)(X:Gh)(a:Nat)(key:yB)(c:Nat)(cs:List yB):Prop:=A.k.ok->c=0/\cT (X.g a)/\cs=(aQ bj (aR (X.g a) 1) key).map ae
def SC.mq{A X K b f w}(h:SC A (aj X) K b f w){a}(j:qT A b a)(key:yB)(o:key.size<=40):yC 44 #[pV (qA a),sV key] w (sI A (λ_ _=>aj X) (lU A X a key) (K+250) b f):=by
 refine(h.prove j key o).mono ?_;rintro e w'⟨v,c,cs,w1,m,g,k,p,h1,h2,h3⟩;have q:=g.size;let⟨d,l,i⟩:=MY p;exact⟨v,c,cs,d,m,⟨λW n=>nj (i W n) q,h1,h2⟩,h3,g.JI k d l⟩
def SC.provesW{A X K f b w}(h:SC A (aj X) K f b w)(key:yB)(o:key.size<=40):yC 44 #[pV (qA A.tw),sV key] w (sI A (λc cs Y t=>Y=X/\(c=0->Wc A.ps t key cs)) (lU A X A.tw key) (K+250) f b):=by
 let⟨l',s,m,h1,h2,q,h3⟩:=h;refine(q.proveW key o).mono ?_;rintro e w'⟨v,c,cs,w1,k,l,i,p,r1,r2,r3⟩;have d:=SC.step m h1 h2 h3 l;have r:=d.size;let⟨a,j,g⟩:=MY p;exact⟨v,c,cs,a,k,⟨λW n=>nj (g W n) r,r1,r2⟩,r3,d.JI i a j⟩
def SC.provesR{A X K d b w key cs}(h:SC A (λY t=>Y=X/\Wc A.ps t key cs) K d b w)(n:key.size<=40):yC 44 #[pV (qA A.tw),sV key] w λe w'=>∃v a,e=rV (tV #[v,i6 0])/\gO A.w.heap.size a v cs/\SC A (aj X) (K+250) d (a++b) w':=by
 let⟨l',r,m,h1,h2,p,h3⟩:=h;refine(p.proveR n).mono ?_;rintro e w'⟨v,w1,j,k,g,o,r1,r2⟩;have c:=SC.step m h1 h2 h3 k;have q:=c.size;let⟨a,i,f⟩:=MY o;exact⟨v,a,j,⟨λW l=>nj (f W l) q,r1,r2⟩,c.JI g a i⟩
def vS(base:Nat):gO base [] (lV none 0 0) []:=⟨λW _=>U8 _ _ _ _,by decide,λc a=>absurd a Vs⟩
def x6(A:fm)(m:Mp)(a addr:yB)(c:Nat)(cs:List yB):Prop:=addr.size=20->A.k.ok->c=0/\∀L,uV m L->cs=(aQ bj (aR L 1) a).map ae
def Ei{A m K a b w}(h:SC A (Wm A m) K a b w)(addr:yB)(q:addr.size<=maxLen):yC 59 #[pV (qA A.sp),sV addr] w λe w'=>sI A (λ_ _=>Wm A m) (x6 A m (ag addr) addr) (K+250) a b e w'/\True:=by
 obtain⟨X,_,d,h⟩:=h.nB;have h32:(ag addr).size=32:=dz _;have z:=aa (h.drew.sum addr q);have t:yH (∀W,SC A (aj X) K a b W->yC 44 #[pV (qA A.tw),sV (ag addr)] W (sI A (λ_ _=>aj X) (lU A X A.tw (ag addr)) (K+250) a b)):=λW d=>d.mq (.inl rfl) _ (by rw[h32];decide)
 have o:yH (∀j W,SC A (aj X) (K+250) a j W->SC A (Wm A m) (K+250) a j W):=λj W D=>D.ev λY _ E=>by rw[show Y=X from E];exact d
 have B:yH (∀c cs,lU A X A.tw (ag addr) c cs->x6 A m (ag addr) addr c cs):=λc cs f _ s=>by
  obtain⟨h1,h2,h3⟩:=f s;exact⟨h1,λL p=>by rw[h3,wm h2 p.1 (λk=>((d s).dJ k).trans (p.2 k).symm) (by rw[h32];decide)]⟩
 have u:yH (addr.size≠20->sI A (λ_ _=>Wm A m) (x6 A m (ag addr) addr) (K+250) a b (rV (tV #[lV none 0 0,i6 2])) w):=λF=>⟨_,2,[],[],rfl,vS _,λh=>absurd h F,o.o _ _ (h.mono (by omega))⟩
 obtain⟨c0,c1⟩:=h.cells;clear h h32 d;unfold maxLen at q;generalize ag addr=HA at*;by_cases h20:addr.size=20
 .have C:(addr.size:Int)=20:=by omega
  go_enter func59,ntmps59
  go_upto_region 3 with fail
  go_region_held3 (λw'=>w'.cell? ⟨A.sp,1,none⟩=some (pV (qA A.tw))) (go_keep) (first| (go_at_call 23;apply z.m;rintro e G⟨rfl,l⟩;obtain⟨_,c12⟩:=l.cells;have y:yH (SC A (aj X) K a b G):=l;clear l) | (go_at_call 44;refine(t.o _ y.o).mono ?_;rintro e H⟨v,c,cs,i,rfl,r,f,n⟩;obtain⟨_,c13⟩:=n.cells;have g:yH (gO A.w.heap.size i v cs/\x6 A m HA addr c cs/\SC A (Wm A m) (K+250) a (i++b) H):=⟨r,B.o _ _ f,o.o _ _ n⟩;clear n r f))
  all_goals
   go_wp2;go_ret2;exact⟨⟨v,c,cs,i,rfl,g.o.1,g.o.2.1,g.o.2.2⟩,trivial⟩
 have C:¬(addr.size:Int)=20:=by omega
 have x:=aa (u.o h20);go_enter func59,ntmps59
 go_wp2;go_ret2;exact⟨x.o,trivial⟩
def SC.fixR{A:fm}{Q:Gh->Prop}{R:Nd->Prop}{K:Nat}{c:List Nat}{b:List (Nat×Obj)}{w:World}(h:SC A (λY t=>Q Y/\R t) K c b w):∃X,Q X/\SC A (λY t=>Y=X/\R t) K c b w:=by
 let⟨l',d,m,h1,h2,a,h3⟩:=h;let⟨j,g,i,e,X,i1,i2,f,q,r⟩:=a.st;exact⟨X,q,l',d,m,h1,h2,⟨⟨j,g,i,e,X,i1,i2,f,rfl,r⟩,a.jw,a.ls,a.bz,a.l3,a.ne⟩,h3⟩
def We{A m K b c w cs}(addr)(h:SC A (λY t=>Wm A m Y t/\Wc A.ps t (ag addr) cs) K b c w)(h20:addr.size=20):yC 59 #[pV (qA A.sp),sV addr] w λe w'=>(∃v a,e=rV (tV #[v,i6 0])/\gO A.w.heap.size a v cs/\SC A (Wm A m) (K+250) b (a++c) w')/\True:=by
 obtain⟨X,d,h⟩:=SC.fixR (Q:=λY=>A.k.ok->Wd A.k A.ps A.tw Y m gK) h;have h32:(ag addr).size=32:=dz _;have p:=aa (h.drew.sum addr (by rw[h20];decide));have n:yH (∀W,SC A (λY t=>Y=X/\Wc A.ps t (ag addr) cs) K b c W->yC 44 #[pV (qA A.tw),sV (ag addr)] W λe w'=>∃v a,e=rV (tV #[v,i6 0])/\gO A.w.heap.size a v cs/\SC A (aj X) (K+250) b (a++c) w'):=λW d=>d.provesR (by rw[h32];decide)
 have q:yH (∀f W,SC A (aj X) (K+250) b f W->SC A (Wm A m) (K+250) b f W):=λf W r=>r.ev λY _ s=>by rw[show Y=X from s];exact d
 obtain⟨c0,c1⟩:=h.cells;clear h h32 d;generalize ag addr=HA at*;have y:(addr.size:Int)=20:=by omega
 go_enter func59,ntmps59
 go_upto_region 3 with fail
 go_region_held3 (λw'=>w'.cell? ⟨A.sp,1,none⟩=some (pV (qA A.tw))) (go_keep) (first| (go_at_call 23;apply p.m;rintro e u⟨rfl,g⟩;obtain⟨_,c12⟩:=g.cells;have o:yH (SC A (λY t=>Y=X/\Wc A.ps t HA cs) K b c u):=g;clear g) | (go_at_call 44;refine(n.o _ o.o).mono ?_;rintro e x⟨v,a,rfl,l,i⟩;obtain⟨_,c13⟩:=i.cells;have j:yH (gO A.w.heap.size a v cs/\SC A (Wm A m) (K+250) b (a++c) x):=⟨l,q.o _ _ i⟩;clear i l))
 all_goals
  go_wp2;go_ret2;exact⟨⟨v,a,rfl,j.o.1,j.o.2⟩,trivial⟩
def sJ(A:fm)(P:Nat->List yB->GP)(Z:Nat->List yB->List yB->Prop)(K:Nat)(d:List Nat)(b:List (Nat×Obj))(e:Ending)(w':World):Prop:=∃(u v:Value)(c:Nat)(cs a:List yB)(b1 b2:List (Nat×Obj)),e=rV (tV #[u,v,iV .i64 c])/\gO A.w.heap.size b1 u cs/\gO A.w.heap.size b2 v a/\Z c cs a/\SC A (P c cs) K d (b1++(b2++b)) w'
def TF{t}(a:aO t)(b:t.read)(r):(t.at r).length<=160:=by
 unfold Nd.at;split
 .cases t with
  |nil=>exact b.elim
  |unread _=>exact b.elim
  |leaf h p v=>exact a.2.2.2
  |ext h p k=>exact UD _
  |branch h v ks=>exact a.2.1
 exact UD _
def Kq{t r d}(e:aA t d)(b:aw r):aA (ay t r d).1 (ay t r d).2.2.1/\aw (ay t r d).2.1:=by
 have a:aA (Nd.nil) 0/\aw []:=⟨mE 0,λ_ h=>by cases h⟩
 cases t with
 |nil=>exact a
 |unread _=>exact a
 |leaf _ _ _=>exact a
 |ext h q k=>
  simp only[ay];split
  .exact⟨fq e,da b _⟩
  exact a
 |branch h v ks=>
  cases r with
  |nil=>exact a
  |cons c r=>exact⟨dA e _ (b c (Uk ..)),λy f=>b y (Ul _ f)⟩
def Rw:∀(f:Nat) (t) (r) (d:Nat) (bl:Bool) (a:List yB) (V x:yL),aA t d->aw r->V.length<=160->jo f t r d bl a V=some x->x.length<=160:=by
 intro f;induction f with
 |zero=>
  intro t r d bl a V x _ _ c h;unfold jo pE at h;split at h
  .split at h
   .cases h;exact c
   cases h
  cases h
 |succ f ih=>
  intro t r d bl a V x b g c h;unfold jo at h;split at h
  .unfold pE at h;split at h
   .cases h;exact c
   cases h
  next hn=>
  cases hs:oO t d bl a with
  |none=>rw[hs] at h;cases h
  |some y=>
   rw[hs] at h;have key:aA y.1 d/\y.1.read:=by
    unfold oO at hs;cases t with
    |unread h0=>
     cases a with
     |nil=>cases hs
     |cons p q=>
      simp only at hs;cases hrd:gS h0 p.data.toList d bl with
      |error _=>rw[hrd] at hs;cases hs
      |ok n=>rw[hrd] at hs;cases hs;exact⟨(oT hrd).1,(oT hrd).2.1⟩
    |nil=>exact absurd rfl hn
    |leaf _ _ _=>cases hs;exact⟨b,trivial⟩
    |ext _ _ _=>cases hs;exact⟨b,trivial⟩
    |branch _ _ _=>cases hs;exact⟨b,trivial⟩
   have e:=Kq key.1 g;exact ih _ _ _ _ _ _ x e.1 e.2 (TF key.1.aK key.2 r) h
def vu(a key)(b:List yB):(e8 a key b).size<=160:=by
 unfold e8;split
 .exact UD _
 next h32=>
 split
 .exact UD _
 unfold tj;cases hf:jo 81 (bP a.data.toList) (aD key) 0 false b [] with
 |none=>exact UD _
 |some v=>
  show(ae v).size<=160;rw[aN];have c:a.data.toList.length=a.size:=by simp
  exact Rw 81 _ _ 0 false b [] v (qZ (by omega)) (b8 key) (UD _) hf
structure nE(w:World)(v:Value)(ps:List yB):Prop where
 at_:gQ w v ps
 len:ps.length<=maxLen
 small:∀p∈ps,p.size<=maxLen
def NM{w w' v b}(h:gQ w v b)(c:yW w w'):gQ w' v b:=by
 let⟨a,cap,e,h⟩:=h;refine⟨a,cap,e,?_⟩;rcases h with h|⟨g,o,e2,h⟩
 .exact .inl h
 exact .inr ⟨g,o,e2,λi p d=>eg c (h i p d)⟩
def nE.below{w w' v a}(h:nE w v a)(b:yW w w'):nE w' v a:=⟨NM h.at_ b,h.len,h.small⟩
def vt{w v b}(h:nE w v b)(d key:yB)(j:key.size<=maxLen)(T:aB w):yC 46 #[sV d,sV key,v] w λe w'=>(∃c:Nat,e=rV (tV #[sV (e8 d key b),i6 c])/\gR d key b=(c:Int))/\yW w w':=by
 obtain⟨a,cap,rfl,_⟩:=id h.at_;refine(BK w d key a cap b h.at_ h.len h.small j T).mono ?_;rintro e w'⟨g,i⟩;rw[yp] at g;refine⟨?_,i⟩;have:∃c:Nat,gR d key b=(c:Int):=by
  unfold gR;split
  .exact⟨2,rfl⟩
  split
  .exact⟨1,rfl⟩
  cases tj d key b
  .exact⟨12,rfl⟩
  exact⟨0,rfl⟩
 let⟨c,f⟩:=this;exact⟨c,by rw[g,f],f⟩
def Wf(b addr:yB)(d:List yB)(a:Acc)(e:Bool)(c:Nat):Prop:=b.size=32->addr.size=20->gR b (ag addr) d=0->j7 (e8 b (ag addr) d) a e c
def Cx{w v d}(h:nE w v d)(b addr:yB)(E:addr.size<=maxLen)(T:aB w):yC 61 #[sV b,sV addr,v] w λe w'=>j6 (Wf b addr d) e/\yW w w':=by
 obtain⟨Z,m⟩:=yX (Wf b addr d);have M:yH (∀a i c,j7 (e8 b (ag addr) d) a i c->Z a i c):=λa i c h=>by rw[m];exact λ_ _ _=>h
 have N:yH (∀c:Nat,gR b (ag addr) d=(c:Int)->c≠0->Z mT false c):=λc h h0=>by rw[m];exact λ_ _ q=>absurd (by rw[h] at q;omega) h0
 have C:yH (¬(b.size=32/\addr.size=20)->Z mT false 2):=λh=>by rw[m];exact λq1 q2=>absurd ⟨q1,q2⟩ h
 rw[<-m];clear m;have h32:(ag addr).size=32:=dz _;have J:yH (∀W,yW w W->yC 23 #[sV addr] W λe w'=>e=rV (sV (ag addr))/\yW W w'):=λW j=>ja addr E W (T.below j)
 have L:yH (∀W,yW w W->yC 46 #[sV b,sV (ag addr),v] W λe w'=>(∃c:Nat,e=rV (tV #[sV (e8 b (ag addr) d),i6 c])/\gR b (ag addr) d=(c:Int))/\yW W w'):=λW j=>vt (h.below j) b _ (by rw[h32];decide) (T.below j)
 have H:yH (∀W,yW w W->yC 97 #[sV (e8 b (ag addr) d)] W (Co (e8 b (ag addr) d) W)):=λW j=>JK W _ (Ut (vu _ _ _) (by decide)) (T.below j)
 obtain⟨a,cap,rfl,_⟩:=h.at_;have R:=h.len;clear h h32 T;unfold maxLen at E R;generalize e8 b (ag addr) d=VS at*;generalize gR b (ag addr) d=VC at*;generalize ag addr=HA at*;generalize d.length=NP at*;obtain⟨r,k⟩:=yX (w.alloc (.cells #[i6 0,sV ⟨#[]⟩,sV ⟨#[]⟩,sV ⟨#[]⟩] 103));have g:yH (yW w r):=by rw[k];exact(Un _ _).alloc (Ug _) _
 have p:yH (gf r w.heap.size 103 (i6 0) (sV ⟨#[]⟩) (sV ⟨#[]⟩) (sV ⟨#[]⟩)):=by rw[k];exact gf.new _ _ _ _ _ _
 have x:yH (∀c:Nat,c≠0->Z mT false c->j6 Z (rV (tV #[gV #[i6 0,sV ⟨#[]⟩,sV ⟨#[]⟩,sV ⟨#[]⟩],bV false,i6 c]))):=λc l s=>⟨mT,false,c,rfl,vl,λh=>absurd h l,s⟩
 by_cases S:b.size=32
 .have U:(b.size:Int)=32:=by omega
  by_cases h20:addr.size=20
  .have Q:(addr.size:Int)=20:=by omega
   go_enter func61,ntmps61
   go_wp2_with fail
   rw[<-k];clear k;refine(J.o _ g.o).mono ?_;rintro e w1⟨rfl,y⟩;have t:=aa (g.o.trans (y.mono g.o.size));have B:=aa (p.o.below y p.o.lt);clear y;go_wp2_with fail
   refine(L.o _ t.o).mono ?_;rintro e w2⟨⟨c,rfl,G⟩,z⟩;have K:=aa G;clear G;have o:=aa (t.o.trans (z.mono t.o.size));have u:=aa (B.o.below z B.o.lt);clear z;by_cases l:c=0
   .subst l;go_wp2_with fail
    refine(H.o _ o.o).mono ?_;rintro e w3⟨⟨a3,i,c3,rfl,F,s,D⟩,A⟩;have I:=aa (o.o.trans (A.mono o.o.size));obtain⟨⟨k0,k1,k2,k3⟩,f0,f1,f2,f3⟩:=(u.o.below A u.o.lt).cells;have f:yH (j6 Z (rV (tV #[cE a3,bV i,i6 c3]))):=⟨a3,i,c3,rfl,F,s,M.o _ _ _ D⟩
    obtain⟨n,O,V,P⟩:=a3;unfold cE at f⊢;clear A F s D;go_wp2;exact UB (v:=tV #[gV #[i6 n,sV O,sV V,sV P],bV i,i6 c3]) (by simp[results,results61,go_sem,k0,k1,k2,k3]) rfl ⟨f.o,jW I.o (Ug _) _ _ _ _⟩
   have X:((c:Int) != 0)=true:=by simp;omega
   obtain⟨⟨k0,k1,k2,k3⟩,f0,f1,f2,f3⟩:=u.o.cells;have f:=aa (x.o c l (N.o c K.o l));clear l;go_wp2;exact UB (v:=tV #[gV #[i6 0,sV ⟨#[]⟩,sV ⟨#[]⟩,sV ⟨#[]⟩],bV false,i6 c]) (by simp[results,results61,go_sem,k0,k1,k2,k3]) rfl ⟨f.o,jW o.o (Ug _) _ _ _ _⟩
  have Q:¬(addr.size:Int)=20:=by omega
  obtain⟨⟨k0,k1,k2,k3⟩,f0,f1,f2,f3⟩:=p.o.cells;have f:yH (j6 Z (rV (tV #[gV #[i6 0,sV ⟨#[]⟩,sV ⟨#[]⟩,sV ⟨#[]⟩],bV false,i6 2]))):=x.o 2 (by decide) (C.o λq=>h20 q.2);go_enter func61,ntmps61
  go_wp2;(try rw[<-k])
  exact UB (v:=tV #[gV #[i6 0,sV ⟨#[]⟩,sV ⟨#[]⟩,sV ⟨#[]⟩],bV false,i6 2]) (by simp[results,results61,go_sem,k0,k1,k2,k3]) rfl ⟨f.o,by first|exact g.o|exact jW g.o (Ug _) _ _ _ _⟩
 have U:¬(b.size:Int)=32:=by omega
 obtain⟨⟨k0,k1,k2,k3⟩,f0,f1,f2,f3⟩:=p.o.cells;have f:yH (j6 Z (rV (tV #[gV #[i6 0,sV ⟨#[]⟩,sV ⟨#[]⟩,sV ⟨#[]⟩],bV false,i6 2]))):=x.o 2 (by decide) (C.o λq=>S q.1);go_enter func61,ntmps61
 go_wp2;(try rw[<-k])
 exact UB (v:=tV #[gV #[i6 0,sV ⟨#[]⟩,sV ⟨#[]⟩,sV ⟨#[]⟩],bV false,i6 2]) (by simp[results,results61,go_sem,k0,k1,k2,k3]) rfl ⟨f.o,by first|exact g.o|exact jW g.o (Ug _) _ _ _ _⟩
def Wg(Z:yB->Nat->Prop)(e:Ending):Prop:=∃(v:yB)(c:Nat),e=rV (tV #[sV v,iV .i64 c])/\v.size<=maxLen/\Z v c
def Wh(b addr slot:yB)(d e:List yB)(v:yB)(c:Nat):Prop:=slot.size=32->b.size=32->addr.size=20->gR b (ag addr) d=0->((e8 b (ag addr) d).size=0->e.length=0->v=⟨#[]⟩/\c=0)/\∀a,Fit a->e8 b (ag addr) d=ir a->gR a.root (ag slot) e=0->iU (e8 a.root (ag slot) e) v c
def La{w v u k d}(h:nE w v k)(G:nE w u d)(i addr slot:yB)(hk:addr.size<=maxLen)(X:slot.size<=maxLen)(T:aB w):yC 62 #[sV i,sV addr,sV slot,v,u] w λe w'=>Wg (Wh i addr slot k d) e/\yW w w':=by
 obtain⟨Z,p⟩:=yX (Wh i addr slot k d);have B4:yH (slot.size≠32->Z ⟨#[]⟩ 2):=λh=>by rw[p];exact λq=>absurd q h
 have B5:yH (∀a D c,Wf i addr k a D c->c≠0->Z ⟨#[]⟩ c):=λa D c j h0=>by
  rw[p];exact λ_ q2 q3 q4=>⟨λe=>absurd ((j q2 q3 q4).1 e).2.2 h0,λb s e _=>absurd ((j q2 q3 q4).2 b s e).2.2 h0⟩
 have B6:yH (∀a y,Wf i addr k a false 0->(d.length=0->y=0)->Z ⟨#[]⟩ y):=λa y j h0=>by
  rw[p];exact λ_ q2 q3 q4=>⟨λ_ e=>⟨rfl,h0 e⟩,λb s e _=>absurd ((j q2 q3 q4).2 b s e).2.1 (by decide)⟩
 have P:yH (∀(a:Acc) (c:Nat),Wf i addr k a true 0->gR a.root (ag slot) d=(c:Int)->c≠0->Z ⟨#[]⟩ c):=λa c j g h0=>by
  rw[p];exact λ_ q2 q3 q4=>⟨λe=>absurd ((j q2 q3 q4).1 e).2.1 (by decide),λb s e q=>by rw[<-((j q2 q3 q4).2 b s e).1,g] at q;omega⟩
 have Q:yH (∀(a:Acc) v c,Wf i addr k a true 0->iU (e8 a.root (ag slot) d) v c->Z v c):=λa v c j g=>by
  rw[p];exact λ_ q2 q3 q4=>⟨λe=>absurd ((j q2 q3 q4).1 e).2.1 (by decide),λb s e _=>by rw[<-((j q2 q3 q4).2 b s e).1];exact g⟩
 rw[<-p];clear p;have h32:(ag slot).size=32:=dz _;have B3:=aa (Cx h i addr hk T);have A9:yH (∀W,yW w W->yC 23 #[sV slot] W λe w'=>e=rV (sV (ag slot))/\yW W w'):=λW C=>ja slot X W (T.below C)
 have N:yH (∀f W,yW w W->yC 46 #[sV f,sV (ag slot),u] W λe w'=>(∃(c:Nat)(x:yB),e=rV (tV #[sV x,i6 c])/\x.size<=160/\x=e8 f (ag slot) d/\gR f (ag slot) d=(c:Int))/\yW W w'):=λf W C=>(vt (G.below C) f _ (by rw[h32];decide) (T.below C)).mono λ_ _⟨⟨c,h1,h3⟩,h2⟩=>⟨⟨c,_,h1,vu _ _ _,rfl,h3⟩,h2⟩
 have A8:yH (∀x W,x.size<=160->yW w W->yC 96 #[sV x] W λe w'=>Wg (iU x) e/\yW W w'):=λx W H C=>(DI W x (Ut H (by decide))).mono λ_ _⟨⟨v,c,h1,h2,_,h4⟩,h3⟩=>⟨⟨v,c,h1,h2,h4⟩,h3⟩
 obtain⟨a,cap,rfl,_⟩:=h.at_;obtain⟨a',R,rfl,_⟩:=G.at_;have Y:=G.len;have A7:yH (∀W,yC 98 #[lV a' d.length R] W λe w'=>e=rV (tV #[sV ⟨#[]⟩,i6 (if 0<d.length then 12 else 0)])/\w'=W):=λW=>Pu W a' _ R Y
 have A6:yH (∃c:Nat,(if 0<d.length then(12:Int) else 0)=c/\(d.length=0->c=0)):=by
  by_cases h0:0<d.length
  .exact⟨12,by rw[Uj h0];rfl,λh=>by omega⟩
  exact⟨0,by rw[Ui h0];rfl,λ_=>rfl⟩
 clear h G h32 T Y;unfold maxLen at X;generalize Wf i addr k=ZA at*;generalize hVSQ:(λr:yB=>e8 r (ag slot) d)=VSQ at*;generalize hVCQ:(λr:yB=>gR r (ag slot) d)=VCQ at*;have U:∀r,e8 r (ag slot) d=VSQ r:=λr=>by rw[<-hVSQ]
 have S:∀r,gR r (ag slot) d=VCQ r:=λr=>by rw[<-hVCQ]
 simp only[U,S] at P Q N;clear hVSQ hVCQ U S;generalize ag slot=HT at*;generalize (if 0<d.length then(12:Int) else 0)=NC at*;generalize k.length=NP at*;generalize d.length=NQ at*;obtain⟨y,C0,A0⟩:=A6.o;subst C0;have A5:=aa A0;clear A0;by_cases h32:slot.size=32
 .have B8:(slot.size:Int)=32:=by omega
  go_enter func62,ntmps62
  go_wp2_with fail
  apply B3.m;rintro e w2⟨⟨a3,D,c,rfl,C1,hz,A3⟩,L⟩;have E:=aa A3;clear A3;have C2:a3.root=a3.root:=rfl;obtain⟨n,J,f,K⟩:=a3;clear C2;unfold cE;obtain⟨m,o⟩:=yX (w2.alloc (.cells #[i6 n,sV J,sV f,sV K] 103));have l:yH (yW w m):=by rw[o];exact L.alloc L.size _
  have B:yH (gf m w2.heap.size 103 (i6 n) (sV J) (sV f) (sV K)):=by rw[o];exact gf.new _ _ _ _ _ _
  obtain⟨⟨k0,k1,k2,k3⟩,_⟩:=B.o.cells;clear L C1 hz;by_cases g:c=0
  .subst g;cases D with
   |false=>
    go_wp2_with fail
    (try rw[<-o])
    refine(A7.o _).mono ?_;rintro e wx⟨rfl,C3⟩;subst C3;go_wp2;go_ret2;(try rw[<-o])
    exact⟨⟨⟨#[]⟩,y,rfl,by decide,B6.o _ _ E.o A5.o⟩,l.o⟩
   |true=>
    have B0:yH (yC 23 #[sV slot] m.drew λe w'=>e=rV (sV HT)/\yW m w'):=(A9.o m.drew ⟨l.o.os,l.o.tape,l.o.output,l.o.size,l.o.block⟩).mono λ_ _⟨h1,h2⟩=>⟨h1,⟨h2.os,h2.tape,h2.output,h2.size,h2.block⟩⟩
    go_upto_region 8 with fail
    rw[<-o];clear o;go_cut [14,15] (λcv sv wx=>∃(c:Nat)(x:yB),cv=i6 c/\sv=sV x/\yH (x.size<=160/\x=VSQ f/\VCQ f=(c:Int))/\yH (yW w wx))
    .go_region_held3 (λw'=>w'.cell? ⟨w2.heap.size,2,none⟩=some (sV f)) (go_keep) (first| (go_at_call 23;apply B0.m;rintro e wa⟨rfl,F⟩;obtain⟨⟨n0,n1,n2,n3⟩,_⟩:=(B.o.below F B.o.lt).cells;have I:yH (yW w wa):=l.o.trans (F.mono l.o.size);have O:yH (gf wa w2.heap.size 103 (i6 n) (sV J) (sV f) (sV K)):=B.o.below F B.o.lt;clear F) | (go_at_call 46;refine(N.o _ _ I.o).mono ?_;rintro e wb⟨⟨c,x,rfl,H⟩,M⟩;obtain⟨⟨p0,p1,p2,p3⟩,_⟩:=(O.o.below M O.o.lt).cells;have t:yH (yW w wb):=I.o.trans (M.mono I.o.size);have A:yH (x.size<=160/\x=VSQ f/\VCQ f=(c:Int)):=H;clear M H))
     all_goals
      go_wp2;go_meet;exact⟨c,x,rfl,rfl,A,t⟩
    obtain⟨c,x,rfl,rfl,A,t⟩:=hcut;by_cases g:c=0
    .subst g;have B1:=aa (A8.o x wc A.o.1 t.o);go_wp2_with fail
     apply B1.m;rintro e w6⟨⟨v6,c6,rfl,A2,A1⟩,V⟩;have z:=aa (Q.o _ _ _ E.o (by rw[<-A.o.2.1];exact A1));clear A1;have A4:=aa (t.o.trans (V.mono t.o.size));have B2:=aa A2;clear V A2;go_wp2;go_ret2;exact⟨⟨v6,c6,rfl,B2.o,z.o⟩,A4.o⟩
    have B9:((c:Int) != 0)=true:=by simp;omega
    have z:=aa (P.o _ _ E.o A.o.2.2 g);clear g;go_wp2;go_ret2;exact⟨⟨⟨#[]⟩,c,rfl,by decide,z.o⟩,t.o⟩
  have B9:((c:Int) != 0)=true:=by simp;omega
  have z:=aa (B5.o _ _ _ E.o g);clear g;go_wp2;go_ret2;(try rw[<-o])
  exact⟨⟨⟨#[]⟩,c,rfl,by decide,z.o⟩,l.o⟩
 have B8:¬(slot.size:Int)=32:=by omega
 have B7:=aa (B4.o h32);go_enter func62,ntmps62
 go_wp2;go_ret2;exact⟨⟨⟨#[]⟩,2,rfl,by decide,B7.o⟩,Un _ _⟩
def sJ.nil{A P a Z K d b w}(h:SC A P K d b w)(c:Nat)(f:Z c [] [])(e:∀X r,P X r->a c [] X r):sJ A a Z K d b (rV (tV #[lV none 0 0,lV none 0 0,i6 c])) w:=⟨_,_,c,[],[],[],[],rfl,vS _,vS _,f,h.ev e⟩
def SC.o6{A P K b b1 a w}(h:SC A P K b (b1++a) w):SC A P K b a w:=h.drop (λ_ ht=>ht) λ_ hb=>UP _ hb
def Wi(A:fm)(m:Mp)(a:yB)(c:Nat)(cs:List yB):GP:=λY t=>Wm A m Y t/\(c=0->Wc A.ps t a cs)
def JS(A:fm)(m:Mp)(a b addr slot:yB)(c:Nat)(cs d:List yB):Prop:=(addr.size≠20->c=2)/\(addr.size=20->slot.size=32->A.k.ok->c=0/\(∀L,uV m L->cs=(aQ bj (aR L 1) a).map ae)/\d=(aQ bj (aR (aY m a).ss 1) b).map ae)
def EG{A m K j l w}(h:SC A (Wm A m) K j l w)(addr slot:yB)(hk:addr.size<=maxLen)(hl:slot.size<=maxLen)(hN:A.N+K+1000<4000000000):yC 60 #[pV (qA A.sp),sV addr,sV slot] w λe w'=>sJ A (Wi A m (ag addr)) (JS A m (ag addr) (ag slot) addr slot) (K+800) j l e w'/\True:=by
 obtain⟨X,_,p,h⟩:=h.nB;obtain⟨x,hx⟩:=yX ((aY m (ag addr)).ss);have h32:(ag addr).size=32:=dz _;have A5:(ag slot).size=32:=dz _;have D5:yH (yC 23 #[sV addr] w λe w'=>e=rV (sV (ag addr))/\SC A (aj X) K j l w'):=h.sum addr hk;have B8:yH (∀W,SC A (aj X) K j l W->yC 93 #[pV (qA A.sp),sV (ag addr)] W λe w'=>j6 (jM A X (ag addr)) e/\SC A (aj X) (K+250) j l w'):=λW p=>uT p _ (by rw[h32];decide)
 have D2:yH (∀r W,r.size=32->(A.k.ok->r=cY x)->SC A (aj X) (K+250) j l W->yC 95 #[pV (qA A.sp),sV (ag addr),sV r] W λe w'=>∃i b,e=rV (pV (qA i))/\jF X (ag addr) x i b/\i≠A.tw/\SC A (aj b) (K+250+1) (i::j) l w'):=λr W V U D=>D.slotsOf _ r (by rw[h32];decide) V (by omega) x λd ho=>by rw[U d,hx];exact((p d).rH _).2 ho
 have D4:yH (∀i b W,SC A (aj b) (K+250+1) (i::j) l W->yC 23 #[sV slot] W λe w'=>e=rV (sV (ag slot))/\SC A (aj b) (K+250+1) (i::j) l w'):=λi b W p=>p.sum slot hl
 have C7:yH (∀i b W,SC A (aj b) (K+250+1) (i::j) l W->yC 44 #[pV (qA i),sV (ag slot)] W (sI A (λ_ _=>aj b) (lU A b i (ag slot)) (K+250+1+250) (i::j) l)):=λi b W p=>p.mq (.inr (Uk ..)) _ (by rw[A5];decide)
 have B0:yH (∀A3 b W,SC A (aj b) (K+501) j A3 W->yC 44 #[pV (qA A.tw),sV (ag addr)] W (sI A (λc cs Y t=>Y=b/\(c=0->Wc A.ps t (ag addr) cs)) (lU A b A.tw (ag addr)) (K+501+250) j A3)):=λA3 b W p=>p.provesW _ (by rw[h32];decide)
 obtain⟨R,J⟩:=yX (sJ A (Wi A m (ag addr)) (JS A m (ag addr) (ag slot) addr slot) (K+800) j l);have B1:yH (¬(addr.size=20/\slot.size=32)->R (rV (tV #[lV none 0 0,lV none 0 0,i6 (2:Nat)])) w):=λq=>by
  rw[J];exact sJ.nil (h.mono (by omega)) 2 ⟨λ_=>rfl,λh1 h2=>(q ⟨h1,h2⟩).elim⟩ λY _ y=>⟨by rw[show Y=X from y];exact p,λq=>by cases q⟩
 have C6:yH (∀(c:Nat) P W,addr.size=20->(A.k.ok->c=0)->c≠0->SC A P (K+800) j l W->R (rV (tV #[lV none 0 0,lV none 0 0,i6 c])) W):=λc P W h20 q h0 D=>by
  rw[J];exact sJ.nil D c ⟨λh=>absurd h20 h,λ_ _ d=>absurd (q d) h0⟩ λ_ _ _=>⟨λd=>absurd (q d) h0,λq=>absurd q h0⟩
 have C0:yH (∀u cs f W,addr.size=20->(A.k.ok->false=(m (ag addr)).isSome)->lU A X A.tw (ag addr) 0 cs->gO A.w.heap.size f u cs->SC A (λY t=>Y=X/\Wc A.ps t (ag addr) cs) (K+800) j (f++([]++l)) W->R (rV (tV #[u,lV none 0 0,i6 (0:Nat)])) W):=λu cs f W h20 q C V D=>by
  rw[J];refine⟨u,_,0,cs,[],f,[],rfl,V,vS _,⟨λh=>absurd h20 h,λ_ _ d=>⟨rfl,λL T=>?_,?_⟩⟩,D.ev λY _ y=>⟨by rw[show Y=X from y.1];exact p,λ_=>y.2⟩⟩
  .obtain⟨_,h2,h3⟩:=C d;rw[h3,wm h2 T.1 (λk=>((p d).dJ k).trans (T.2 k).symm) (by rw[h32];decide)]
  have q:=q d;cases hm:m (ag addr) with
  |none=>
   have e:aY m (ag addr)=lP:=by unfold aY;rw[hm];rfl
   rw[e,p8 (jV (m:=lP.ss) o9 1).all (by rw[A5];decide)];rfl
  |some a=>rw[hm] at q;cases q
 have C2:yH (∀(i:Nat) b u v cs z f s W,addr.size=20->jF X (ag addr) x i b->i≠A.tw->(A.k.ok->true=(m (ag addr)).isSome)->lU A b i (ag slot) 0 z->lU A b A.tw (ag addr) 0 cs->gO A.w.heap.size f u cs->gO A.w.heap.size s v z->SC A (λY t=>Y=b/\Wc A.ps t (ag addr) cs) (K+800) j (f++(s++l)) W->R (rV (tV #[u,v,i6 (0:Nat)])) W):=λi b u v cs z f s W h20 s1 s2 s3 z1 z2 r1 r2 D=>by
  rw[J];rw[hx] at s1;have A4:A.k.ok->Wd A.k A.ps A.tw b m gK/\b.g i=(aY m (ag addr)).ss:=λd=>by
   obtain⟨o1,o2,o3⟩:=(p d).open_ s1 s2;exact⟨o1.full o2 o3 (s3 d).symm,o3⟩
  refine⟨u,v,0,cs,z,f,s,rfl,r1,r2,⟨λh=>absurd h20 h,λ_ _ d=>⟨rfl,λL T=>?_,?_⟩⟩,D.ev λY _ y=>⟨λd=>by rw[show Y=b from y.1];exact(A4 d).1,λ_=>y.2⟩⟩
  .obtain⟨_,h2,h3⟩:=z2 d;rw[h3,wm h2 T.1 (λk=>((A4 d).1.dJ k).trans (T.2 k).symm) (by rw[h32];decide)]
  rw[(z1 d).2.2,(A4 d).2]
 have B9:yH (∀a G c,jM A X (ag addr) a G c->A.k.ok->c=0/\a.root=cY x/\G=(m (ag addr)).isSome):=λa G c C d=>by
  obtain⟨e1,e2,e3⟩:=(p d).acc (C d);exact⟨e3,by rw[e1,hx];rfl,e2⟩
 rw[<-J];clear h h32 A5 p hx J;unfold maxLen at hk hl;generalize ag addr=HA at*;generalize ag slot=HT at*;by_cases h20:addr.size=20
 .have D7:(addr.size:Int)=20:=by omega
  by_cases D9:slot.size=32
  .have E0:(slot.size:Int)=32:=by omega
   go_enter func60,ntmps60
   go_wp2_with fail
   apply D5.m;rintro e w1⟨rfl,B2⟩;have C8:yH (SC A (aj X) K j l w1):=B2;clear B2;go_wp2_with fail
   refine(B8.o _ C8.o).mono ?_;rintro e w2⟨⟨a,G,c,rfl,D8,C,B7⟩,B3⟩;have U:=B9.o a G c B7;clear B7;have E:=C6.o;have A0:yH (∀(c:Nat) P W,(A.k.ok->c=0)->c≠0->SC A P (K+800) j l W->R (rV (tV #[lV none 0 0,lV none 0 0,i6 c])) W):=λc P W=>E c P W h20
   clear E;obtain⟨n,H,r,I⟩:=a;simp only at C U;have HQ:yH (A.k.ok->c=0/\r=cY x/\G=(m HA).isSome):=U;clear U;have A2:yH (SC A (aj X) (K+250) j l (w2.alloc (.cells #[i6 n,sV H,sV r,sV I] 103))):=(B3.box #[i6 n,sV H,sV r,sV I] 103).unbox;have D1:yH (SC A (aj X) (K+800) j l (w2.alloc (.cells #[i6 n,sV H,sV r,sV I] 103))):=A2.o.mono (by omega);unfold cE;clear B3 D8;by_cases hc:c=0
   .subst hc;have A9:=(C rfl).1;clear C;cases G with
    |false=>
     have A1:yH (SC A (aj X) (K+501) j l (w2.alloc (.cells #[i6 n,sV H,sV r,sV I] 103))):=A2.o.mono (by omega);obtain⟨d0,d1⟩:=A1.o.cells;have E:=C0.o;have C1:yH (∀u cs f W,lU A X A.tw HA 0 cs->gO A.w.heap.size f u cs->SC A (λY t=>Y=X/\Wc A.ps t HA cs) (K+800) j (f++([]++l)) W->R (rV (tV #[u,lV none 0 0,i6 (0:Nat)])) W):=λu cs f W=>E u cs f W h20 λd=>(HQ.o d).2.2
     clear A9 E;go_wp2_with fail
     refine(B0.o _ _ _ A1.o).mono ?_;rintro e w5⟨u,c,cs,f,rfl,Z,B,M⟩;have Q:yH (c=0->R (rV (tV #[u,lV none 0 0,i6 (0:Nat)])) w5):=λh0=>C1.o u cs f w5 (by rw[<-h0];exact B) Z ((M.mono (by omega)).ev λY t y=>⟨y.1,y.2 h0⟩)
     have S:yH (c≠0->R (rV (tV #[lV none 0 0,lV none 0 0,i6 c])) w5):=λh0=>A0.o c _ w5 (λd=>(B d).1) h0 (M.o6.mono (by omega))
     clear Z M B d0 d1;by_cases F:c=0
     .subst F;have o:=Q.o rfl;have o:yH (R (rV (tV #[u,lV none 0 0,i6 (0:Nat)])) w5):=o;go_wp2;go_ret3;exact⟨o.o,trivial⟩
     have A8:((c:Int) != 0)=true:=by simp;omega
     have o:=S.o F;have o:yH (R (rV (tV #[lV none 0 0,lV none 0 0,i6 c])) w5):=o;clear F;go_wp2;go_ret3;exact⟨o.o,trivial⟩
    |true=>
     have D3:yH (yC 95 #[pV (qA A.sp),sV HA,sV r] (w2.alloc (.cells #[i6 n,sV H,sV r,sV I] 103)) λe w'=>∃i b,e=rV (pV (qA i))/\jF X HA x i b/\i≠A.tw/\SC A (aj b) (K+250+1) (i::j) l w'):=D2.o r _ A9 (λd=>(HQ.o d).2.1) A2.o;have D6:yH (A.k.ok->true=(m HA).isSome):=λd=>(HQ.o d).2.2
     clear A9;go_wp2_with fail
     apply D3.m;rintro e w3⟨i,b,rfl,s1,s2,B4⟩;have E:=C2.o i b;have C3:yH (∀u v cs z f s W,lU A b i HT 0 z->lU A b A.tw HA 0 cs->gO A.w.heap.size f u cs->gO A.w.heap.size s v z->SC A (λY t=>Y=b/\Wc A.ps t HA cs) (K+800) j (f++(s++l)) W->R (rV (tV #[u,v,i6 (0:Nat)])) W):=λu v cs z f s W=>E u v cs z f s W h20 s1 s2 D6.o
     clear E s1 s2;have A1:yH (SC A (aj b) (K+250+1) (i::j) l w3):=B4;clear B4;go_wp2_with fail
     refine(D4.o _ _ _ A1.o).mono ?_;rintro e w4⟨rfl,B5⟩;have C9:yH (SC A (aj b) (K+250+1) (i::j) l w4):=B5;clear B5;go_wp2_with fail
     refine(C7.o _ _ _ C9.o).mono ?_;rintro e w5⟨v,c,z,s,rfl,B6,B,M⟩;have Q:yH (SC A (aj b) (K+501) j (s++l) w5):=M.np;have O:=C3.o;have C4:yH (c=0->∀u cs f W,lU A b A.tw HA 0 cs->gO A.w.heap.size f u cs->SC A (λY t=>Y=b/\Wc A.ps t HA cs) (K+800) j (f++(s++l)) W->R (rV (tV #[u,v,i6 (0:Nat)])) W):=λh0 u cs f W C V D=>O u v cs z f s W (by rw[<-h0];exact B) C V B6 D
     have S:yH (c≠0->R (rV (tV #[lV none 0 0,lV none 0 0,i6 c])) w5):=λh0=>A0.o c _ w5 (λd=>(B d).1) h0 (Q.o.o6.mono (by omega))
     clear B6 M B O;by_cases F:c=0
     .subst F;have O:=C4.o rfl;have C5:yH (∀u cs f W,lU A b A.tw HA 0 cs->gO A.w.heap.size f u cs->SC A (λY t=>Y=b/\Wc A.ps t HA cs) (K+800) j (f++(s++l)) W->R (rV (tV #[u,v,i6 (0:Nat)])) W):=O;clear O;obtain⟨d0,d1⟩:=Q.o.cells;go_wp2_with fail
      refine(B0.o _ _ _ Q.o).mono ?_;rintro e w6⟨u,c,cs,f,rfl,Z,B,A6⟩;have S:yH (c=0->R (rV (tV #[u,v,i6 (0:Nat)])) w6):=λh0=>C5.o u cs f w6 (by rw[<-h0];exact B) Z ((A6.mono (by omega)).ev λY t y=>⟨y.1,y.2 h0⟩)
      have D0:yH (c≠0->R (rV (tV #[lV none 0 0,lV none 0 0,i6 c])) w6):=λh0=>A0.o c _ w6 (λd=>(B d).1) h0 (A6.o6.o6.mono (by omega))
      clear Z A6 d0 d1 B;by_cases A7:c=0
      .subst A7;have o:=S.o rfl;have o:yH (R (rV (tV #[u,v,i6 (0:Nat)])) w6):=o;go_wp2;go_ret3;exact⟨o.o,trivial⟩
      have A8:((c:Int) != 0)=true:=by simp;omega
      have o:=D0.o A7;have o:yH (R (rV (tV #[lV none 0 0,lV none 0 0,i6 c])) w6):=o;clear A7;go_wp2;go_ret3;exact⟨o.o,trivial⟩
     have A8:((c:Int) != 0)=true:=by simp;omega
     have o:=S.o F;have o:yH (R (rV (tV #[lV none 0 0,lV none 0 0,i6 c])) w5):=o;clear F;go_wp2;go_ret3;exact⟨o.o,trivial⟩
   have A8:((c:Int) != 0)=true:=by simp;omega
   have o:yH (R (rV (tV #[lV none 0 0,lV none 0 0,i6 c])) (w2.alloc (.cells #[i6 n,sV H,sV r,sV I] 103))):=A0.o c _ _ (λd=>(HQ.o d).1) hc D1.o;clear hc C;go_wp2;go_ret3;exact⟨o.o,trivial⟩
  have E0:¬(slot.size:Int)=32:=by omega
  have o:yH (R (rV (tV #[lV none 0 0,lV none 0 0,i6 (2:Nat)])) w):=B1.o λh=>D9 h.2
  go_enter func60,ntmps60
  go_wp2;go_ret3;exact⟨o.o,trivial⟩
 have D7:¬(addr.size:Int)=20:=by omega
 have o:yH (R (rV (tV #[lV none 0 0,lV none 0 0,i6 (2:Nat)])) w):=B1.o λh=>h20 h.1
 go_enter func60,ntmps60
 go_wp2;go_ret3;exact⟨o.o,trivial⟩
def Ki:zeroCells98=#[pV none,pV none]++jj λ_=>lV none 0 0:=by kernel_rfl
def Mz(x y a b)(s:Array Value):((#[x,y]++s).setIfInBounds 0 a).setIfInBounds 1 b=#[a,b]++s:=by
 apply Array.ext';simp
def MM(w b d)(P:Nat->World->Prop)(f:yH (yC 11 #[pV b,sV d] w λe w'=>∃a,e=rV (tV #[pV (qA a),i6 0])/\P a w')):yC 22 #[pV b,sV d] w λe w'=>∃a w1,P a w1/\e=rV (tV #[pV (qA w1.heap.size),i6 0])/\w'=w1.alloc (.cells (#[pV b,pV (qA a)]++jj λ_=>lV none 0 0) 98):=by
 go_enter func22,ntmps22
 go_wp2_with fail
 apply f.m;rintro e w1⟨a,rfl,c⟩;have g:=aa c;clear c;go_wp2;go_ret2;refine⟨a,w1,g.o,rfl,?_⟩;rw[Ki,Mz]
def zd{l w sb A v}(hs:fv w sb A v)(L:∀x,cy sb A x->l x=pr sb 0)(T:aB w)(l3:∀k,k<3->l k=0)(a:yB)(I:a.size=32)(k:Kn)(x)(h:k.ok->dI v k.B (bP a.data.toList) x):yC 22 #[pV (qA sb),sV a] w λe w'=>∃sp tw l',e=rV (tV #[pV (qA sp),i6 0])/\w.heap.size<=sp/\Mv (λ_=>False) l l' w w'/\SX l' w' sp sb tw [tw] 1 A v k (λX r=>X=⟨λ_=>x,λ_=>none⟩/\ae (bQ r)=a):=by
 have J:ae a.data.toList=a:=by unfold ae;simp
 have s:a.data.toList.length=32:=by rw[<-I];simp
 have C:=sL w (qA sb) a.data.toList s T;rw[J] at C;refine(MM w (qA sb) a (λb w1=>∃u,w.heap.size<=b/\fF w1 b (qA sb) u/\At w1 (bP a.data.toList) (λx=>w.heap.size<=x/\x≠b) (pV u)/\yW w w1) (C.mono λ_ _⟨b,u,h1,h2,h3,h4,h5⟩=>⟨b,h1,u,h2,h3,h4,h5⟩)).mono ?_;rintro e w'⟨b,w1,⟨u,h1,h2,h3,h4⟩,n,rfl⟩;have F:=h4.size;have N:=T.size;have D:=h2.lt;have O:sb<w.heap.size:=hs.st.eM sb (.inl rfl);have q:yW w1 (w1.alloc (.cells (#[pV (qA sb),pV (qA b)]++jj λ_=>lV none 0 0) 98)):=(Un _ _).alloc (Ug _) _;have i:=h4.trans (q.mono F);obtain⟨l',z⟩:∃l':Nat->Nat,l'=λk=>if k<w.heap.size then l k else if k<w1.heap.size then pr w1.heap.size (b+1) else pr w1.heap.size 0:=⟨_,rfl⟩
 have lo:∀k,k<w.heap.size->l' k=l k:=λk p=>by rw[z];simp[p]
 have G:∀k,w.heap.size<=k->k<w1.heap.size->l' k=pr w1.heap.size (b+1):=λk h1 h2=>by rw[z];simp[VK.2 h1,h2]
 have K:∀k,w1.heap.size<=k->l' k=pr w1.heap.size 0:=λk h1=>by rw[z];simp[VK.2 h1,show ¬k<w.heap.size by omega]
 have m:Mv (λ_=>False) l l' w (w1.alloc (.cells (#[pV (qA sb),pV (qA b)]++jj λ_=>lV none 0 0) 98)):=⟨i.os,i.tape,i.output,i.size,lo,λk p _=>i.block k p⟩
 have H:eX (w1.alloc (.cells (#[pV (qA sb),pV (qA b)]++jj λ_=>lV none 0 0) 98)) b (qA sb) (λx=>(w.heap.size<=x/\x≠b)/\x<w1.heap.size) (bP a.data.toList):=
  ⟨⟨u,h2.kept (q.block b D),h3.cut.below q⟩,qZ s,λx h=>⟨by omega,h.1.2,by have:=q.size;omega⟩⟩
 refine⟨w1.heap.size,b,l',n,F,m,⟨⟨λ_=>lV none 0 0,λ_=>[],λ_=>bP a.data.toList,λ_ x=>(w.heap.size<=x/\x≠b)/\x<w1.heap.size,⟨λ_=>x,λ_=>none⟩,?_,?_,⟨λ_ _=>List.Pairwise.nil,?_,(λc j e _ n=>by simp at n),λM b _=>h M⟩,rfl,?_⟩,hs.kept λx h=>i.block x (hs.st.eM x h),λx h=>(lo x (hs.st.eM x h)).trans (L x h),T.below i,λk p=>(lo k (by omega)).trans (l3 k p),by omega⟩⟩
 .exact
   {ai:=⟨UG w1 _,λ_ _=>U8 _ _ _ _,λc d g _ _ o=>by simp[Value.ownBlock] at o,λc g _ o=>by simp[Value.ownBlock] at o⟩
    jA:=K _ (Ug _)
    jB:=λc g _ o=>by simp[Value.ownBlock] at o
    ie:=λc k e _ n=>by simp at n
    gI:=λc k d j e f _ _ n=>by simp at n
    dJ:=Uo.2 rfl
    lO:=by simp
    gy:=λx h=>by
     rw[Uo.1 h];exact⟨H,by unfold bP;split<;>trivial,G _ h1 D,λy E=>G y E.1.1 E.2⟩}
 .show cS (gh v) (bP a.data.toList)+1+0<=1;rw[zM];exact Ug _
 .funext y
  show none=nU (λ_=>[]) y;unfold nU;split<;>rfl
 show ae (bQ (bP a.data.toList))=a;unfold bP;split
 .next e=>rw[<-gA a,e];rfl
 rw[nQ (t:=.unread a.data.toList) trivial];show ae (if a.data.toList=[] then _ else a.data.toList)=a;rw[Ui (λe=>by rw[e] at s;cases s),gA]
def zB{c:yL}{d}(b:c.length<=4096):∀x∈iO c d,x.length<=4096:=λx a=>by
 unfold iO at a
 split at a
 .rwa[Uo.1 a]
 cases a
def PJ:∀(t) (d:Bool),aO t->∀c∈cf t d,c.length<=4096:=by
 intro t;induction t with
 |nil=>intro d _ c a;cases a
 |unread h=>intro d _ c a;cases a
 |leaf h p v=>intro d b;exact zB (b.ow trivial).2
 |ext h p k ih=>
  intro d b c a;rcases UA.1 a with a|a
  .exact ih false b.2.2.2.2 c a
  exact zB (b.ow trivial).2 c a
 |branch h v ks ih=>
  intro d b c a;rcases UA.1 a with a|a
  .let⟨i,hi,a⟩:=List.mem_flatMap.1 a;exact ih i false (b.2.2 i (Vq.1 hi)) c a
  exact zB (b.ow trivial).2 c a
def Jb{l a w sb k S t p d}(n:eX w k (qA sb) S t)(q:bK t)(s:∀x,S x->l x≠a)(y:l k≠a)(hs:fv w sb p d)(j:∀x,cy sb p x->l x=a)(T:aB w)(o:Fits d (cf t true)):yC 38 #[pV (qA k)] w λe w'=>e=rV (sV (ae (bQ t)))/\∃l' f,Mv (λx=>x=a) l l' w w'/\fv w' sb f (aT d (cf t true))/\∀x,cy sb f x->l' x=a:=by
 have h3:=T.size;refine(Uc n q hs.st (λg=>y (j _ g)) (λx i g=>s x i (j _ g)) hs.m3 h3 (Ug _) T o).mono ?_;rintro e w'⟨v,r⟩;let⟨l',f,m,h1,h2,h4⟩:=Du j r (hs.st.eM sb (.inl rfl));refine⟨v,l',f,m,⟨h1,o _ λ_ h=>h,λh z b=>?_,λx i=>?_⟩,h2⟩
 .rcases wT (cf t true) d h with⟨h5,_⟩|⟨c,u,h5,_⟩
  .rw[h5] at b;exact hs.sm h z b
  rw[h5] at b;cases b;rw[aN];exact PJ t true n.ok.aK c u
 rcases h4 x i with h5|h5
 .exact hs.m3 x h5
 omega
def OU{a h}(c:ah a h≠none):(others a h).length+1<=a.length:=by
 induction a with
 |nil=>exact absurd rfl c
 |cons p a ih=>
  by_cases e:p.1=h
  .have b:(p.1.toList == h.toList)=true:=by rw[dV];exact Uw e
   unfold others;rw[List.filter_cons_of_neg (by rw[b];simp),UJ];exact Nat.succ_le_succ (List.length_filter_le _ _)
  have b:(p.1.toList == h.toList)=false:=by rw[dV];exact Uv e
  have d:ah a h≠none:=λh0=>c (by unfold ah;rw[Ui (by rw[b];simp)];exact h0)
  have:=ih d;unfold others at this⊢;rw[List.filter_cons_of_pos (by rw[b];rfl),UJ,UJ];omega
def Qr(a h t):(fp a h t).length=(others a h).length+1:=by
 have h2:=tO (others a h) h;unfold fp;simp only[Uq,UN,Uu,UJ,List.length_nil];omega
def Qq(a c):(∀d,gh (fp a (ag (ae c)) (ae c)) d=true->gh a d=true)/\gh (fp a (ag (ae c)) (ae c)) c=false/\(fp a (ag (ae c)) (ae c)).length<=a.length+(if gh a c=true then 1 else 0):=by
 refine⟨λd b=>?_,?_,?_⟩
 .unfold gh at b⊢;rw[uf] at b;split at b
  .cases b
  exact b
 .unfold gh;rw[uf,Uj rfl];rfl
 rw[Qr];have h1:=oW a (ag (ae c));split
 .omega
 next hn=>
 have:ah a (ag (ae c))≠none:=λh=>hn (by unfold gh;rw[h];rfl)
 have:=OU this;omega
def uL{P Q}(h:∀d,Q d=true->P d=true):∀(l:List yL),l.countP Q<=l.countP P
 | []=>Ug _
 |c::l=>by
  have b:=uL h l
  rw[List.countP_cons,List.countP_cons]
  by_cases a:Q c=true
  .rw[Uj a,Uj (h c a)];omega
  rw[Ui a];omega
def Ja{P Q}(h:∀d,Q d=true->P d=true){c}(h1:P c=true)(h2:Q c=false):∀(l:List yL),c∈l->l.countP Q+1<=l.countP P
 | [],hc=>by cases hc
 |d::l,hc=>by
  rw[List.countP_cons,List.countP_cons]
  by_cases e:d=c
  .subst e
   have:=uL h l
   rw[Uj h1,Ui (by rw[h2];simp)];omega
  have f:=Ja h h1 h2 l ((UC.1 hc).resolve_left λb=>e b.symm)
  by_cases a:Q d=true
  .rw[Uj a,Uj (h d a)];omega
  rw[Ui a];omega
def gB(a:List (yB×yB))(b:Nat->Nd)(D:List Nat):Nat:=a.length+dy (gg a b) D
def wv(f:Nat->Nd)(D:List Nat)(g:Nat)(n:g∈D):∀(l:List yL) (b),(∀c∈l,c∈cf (f g) true)->gB (aT b l) f D<=gB b f D/\∀d,gh (aT b l) d=true->gh b d=true
 | [],b,_=>⟨Ug _,λ_ h=>h⟩
 |c::l,b,hl=>by
  let⟨h1,h2⟩:=wv f D g n l (fp b (ag (ae c)) (ae c)) λd i=>hl d (Ul _ i)
  let⟨k1,k2,k3⟩:=Qq b c
  refine⟨Ut h1 ?_,λd i=>k1 d (h2 d i)⟩
  unfold gB
  have j:∀x,gg (fp b (ag (ae c)) (ae c)) f x<=gg b f x:=λx=>Nat.succ_le_succ (uL k1 _)
  have p:=tv j D
  by_cases k:gh b c=true
  .rw[Uj k] at k3
   have q:gg (fp b (ag (ae c)) (ae c)) f g+1<=gg b f g:=Nat.succ_le_succ (Ja k1 k k2 _ (hl c (Uk ..)))
   have key:∀A:List Nat,g∈A->dy (gg (fp b (ag (ae c)) (ae c)) f) A+1<=dy (gg b f) A:=by
    intro A m;induction A with
    |nil=>cases m
    |cons a r ih=>
     show gg _ f a+dy _ r+1<=gg b f a+dy _ r;by_cases e:a=g
     .subst e;have:=tv j r;omega
     have:=ih ((UC.1 m).resolve_left λo=>e o.symm);have:=j a;omega
   have:=key D n;omega
  rw[Ui k] at k3;omega
def Oa{c D b}(d:b∈D){a}(h:gB a c D<4000000000000):Fits a (cf (c b) true):=λl' e=>by
 have:=(wv c D b d l' a e).1
 unfold gB at this h
 omega
def Cm(l:Nat->Nat)(w:World)(g sb h:Nat)(D:List Nat)(i:Nat->Value)(f:Nat->List bH)(a:Nat->Nd)(e:Nat->Nat->Prop)(b:List (yB×yB))(A:List Nat)(w':World):Prop:=∃l' us' ps' L,ps'=aT b L/\(∀x∈A,∀c∈cf (a x) true,c∈L)/\Mv (λx=>x=pr sb 0) l l' w w'/\jX l' w' g sb h D i f a e/\fv w' sb us' ps'/\(∀x,cy sb us' x->l' x=pr sb 0)/\aB w'/\(∀k,k<3->l' k=0)/\gB ps' a D<=gB b a D/\∀d,gh ps' d=true->gh b d=true
def Cm.one{l w w1 j sb z a D B y f s q A}(h:Cm l w j sb z D B y f s q A w1)(N:j≠sb)(n:a∈D)(Q:gB q f D<4000000000000):yC 38 #[pV (qA a)] w1 λe w'=>(∃r:yB,e=rV (sV r)/\r=ae (bQ (f a)))/\Cm l w j sb z D B y f s q (a::A) w':=by
 let⟨l',R,O,L,C,E,m,t,hs,K,T,l3,H,J⟩:=h;have i:=t.gy a n;have p:∀b,pr j b≠pr sb 0:=λb e=>N (fS e).1
 have v:=wv f D a n (cf (f a) true) O λ_ h=>h
 refine(Jb i.tr i.loose (λx g=>by rw[i.lS x g];exact p _) (by rw[i.lt];exact p _) hs K T (Oa n (by omega))).mono ?_;rintro e w'⟨G,l2,P,m2,I,M⟩;refine⟨⟨_,G,rfl⟩,l2,P,_,L++cf (f a) true,by rw[wX,<-C],λx g c u=>?_,m.trans m2,t.move m2 (λb e=>p b e),I,M,T.mv m2 (λk o e=>by rw[l3 k o] at e;have:=iu sb 0;omega),λk o=>(m2.bt k (by have:=T.size;omega)).trans (l3 k o),Ut v.1 H,λd F=>J d (v.2 d F)⟩;rcases UC.1 g with rfl|g
 .exact UP _ u
 exact UR _ (E x g c u)
def Cm.cells{l w w1 b sb f D n e k g j A}(h:Cm l w b sb f D n e k g j A w1):w1.cell? ⟨b,1,none⟩=some (pV (qA f))/\∀c,c<256->∃a cap,xT w1 b c a cap (e c):=by
 let⟨l',p,o,L,_,_,m,d,_⟩:=h;refine⟨by rw[Ur w1 b 1 _ _ _ d.ai.ai];exact Dw _ _ _,λc i=>?_⟩;let⟨a,cap,_,S⟩:=d.ai.lK c i;exact⟨a,cap,S⟩
def Ub(a:Nat->List bH)(D A:List Nat)(c k:Nat):Prop:=A.Nodup/\(∀x∈A,x∈D)/\∀x∈A,∃c' k' e,(c'<c\/(c'=c/\k'<k))/\c'<256/\(a c')[k']? =some e/\e.2=some ⟨x,0,none⟩
structure oJ(sh:Nat->List bH)(D A:List Nat)(c k:Nat):Prop where
 done:Ub sh D A c k
 all:∀c' k' e x,(c'<c\/(c'=c/\k'<k))->c'<256->(sh c')[k']? =some e->e.2=some ⟨x,0,none⟩->x∈A
def MQ(w:World)(v y:Nat)(b:Nat->List bH)(C:List Nat->World->Prop)(D:List Nat)(F:World->Prop)(Q:yB->Prop)(N:∀c,c<256->(b c).length<4000000000)(O:yH (C [] w))(z:yH (∀A W,C A W->yc W v 1 (pV (qA y))/\∀c,c<256->∃a cap,xT W v c a cap (b c)))(T:yH (∀(A:List Nat) (c k:Nat) (e:bH),c<256->(b c)[k]? =some e->oJ b D A c k->∃d,e.2=some ⟨d,0,none⟩/\oJ b D (d::A) c (k+1)/\∀W,C A W->yC 38 #[pV (qA d)] W λe w'=>(∃r:yB,e=rV (sV r))/\C (d::A) w'))(Y:yH (∀A W,oJ b D A 256 0->C A W->yC 38 #[pV (qA y)] W λe w'=>(∃r:yB,e=rV (sV r)/\Q r)/\F w')):yC 56 #[pV (qA v)] w λe w'=>(∃r:yB,e=rV (sV r)/\Q r)/\F w':=by
 have Z:=aa N;have S:yH (oJ b D [] 0 0):=⟨⟨List.nodup_nil,(λx l=>absurd l Vs),λx l=>absurd l Vs⟩,λi k' e x h=>by omega⟩
 have A0:yH (∀A c k,oJ b D A c k->(b c).length<=k->oJ b D A (c+1) 0):=λA c k h hl=>⟨⟨h.done.1,h.done.2.1,λx l=>by
  obtain⟨i,k',e,hk,r⟩:=h.done.2.2 x l;exact⟨i,k',e,by omega,r⟩⟩,λi k' e x h1 h2 h3 h4=>h.all i k' e x (by
  by_cases q:i=c
  .subst q;have:=(Ux.1 h3).1;omega
  omega) h2 h3 h4⟩
 clear N;go_enter func56,ntmps56
 go_wp2
 go_loopg [3] 256 (λg r wr=>∃c:Nat,g=256 - c/\c<=256/\r=i6 c/\∃A,yH (oJ b D A c 0)/\yH (C A wr))
 .exact⟨0,rfl,by omega,rfl,[],S,O⟩
 obtain⟨c,j,hc,rfl,A,B,n⟩:=hrel;have U:=aa j;clear j;by_cases t:c<256
 .have A3:(c:Int)<256:=by omega
  have A4:=Z.o c t;generalize wr=WR at*;generalize gk=GK at*;go_wp2
  go_loopg [4] (b c).length (λg r wr=>∃k:Nat,g=(b c).length - k/\k<=(b c).length/\r=i6 k/\∃A,yH (oJ b D A c k)/\yH (C A wr))
  .exact⟨0,rfl,by omega,rfl,A,B,n⟩
  obtain⟨k,j,hk,rfl,f,E,o⟩:=hrel;have V:=aa j;clear j;obtain⟨_,s⟩:=z.o f wr o.o;obtain⟨a,cap,m⟩:=s c t;have x0:=m.cell;by_cases M:k<(b c).length
  .have u:(b c)[k]? =some ((b c)[k]'M):=Uh M;obtain⟨g,rfl,y0,y1⟩:=m.at_ k _ u;obtain⟨d,H,L,K⟩:=T.o f c k _ t u E.o;rw[H] at y1;have p:=aa L;have R:=aa (K wr o.o);have A1:(k:Int)<((b c).length:Int):=by omega
   clear u H L K m s y0;go_wp2_with fail
   apply R.m;rintro e w3⟨⟨r,rfl⟩,I⟩;have P:=aa I;clear I x0 y1;go_wp2
   go_roundg ((b c).length - (k+1))
   .exact⟨k+1,rfl,by omega,by go_num,_,p,P⟩
   have:=V.o;omega
  obtain rfl:k=(b c).length:=by omega
  have A1:¬((b c).length:Int)<((b c).length:Int):=by omega
  have p:=aa (A0.o f c _ E.o (Ug _));clear m s;go_wp2
  go_roundg (256 - (c+1))
  .exact⟨c+1,rfl,by omega,by go_num,f,p,o⟩
  have:=U.o;omega
 obtain rfl:c=256:=by omega
 obtain⟨x1,_⟩:=z.o A wr n.o;have X:=aa (Y.o A wr B.o n.o);go_wp2_with fail
 apply X.m;rintro e w3⟨⟨r,rfl,h32⟩,J⟩;have G:yH (Q r/\F w3):=⟨h32,J⟩
 clear h32 J;go_wp2
 go_ret
 exact⟨⟨r,rfl,G.o.1⟩,G.o.2⟩
def sO(k:Kn)(a:List (yB×yB))(b:Nat)(X:Gh)(L:List yL):Prop:=k.ok->∀tb,(tb=b\/∃h,X.o h=some tb)->∃t,aA t 0/\bK t/\dI a k.B t (X.g tb)/\∀c∈cf t true,c∈L
def kO.store{k k':Kn}{a X g D e f L}(h:kO k a X g D e f)(i:k'.B=k.B)(b:k'.ok->k.ok/\∀c,k.B c->eI (ah (aT a L)) (ae c)=false):kO k' (aT a L) X g D e f:=
 ⟨h.fB,h.o,h.tw,λd l j=>by rw[i];exact(h.iG (b d).1 l j).laid (b d).2⟩
def SX.Sx{l w v sb f D N P a k X r}(h:SX l w v sb f D N P a k (λY s=>Y=X/\ae (bQ s)=r))(Z:N<4000000000)(hn:a.length+N<4000000000000):yC 56 #[pV (qA v)] w λe w'=>(∃s:yB,e=rV (sV s)/\s=r)/\∃l' G N' L,Mv (λx=>x=pr sb 0) l l' w w'/\(∀k':Kn,k'.B=k.B->(k'.ok->k.ok/\∀c,k.B c->eI (ah (aT a L)) (ae c)=false)->SX l' w' v sb f D N' G (aT a L) k' (λY s=>Y=X/\ae (bQ s)=r))/\(aT a L).length+N'<=a.length+N/\(∀d,gh (aT a L) d=true->gh a d=true)/\sO k a f X L:=by
 obtain⟨Q,H,p,K,X,i,A6,I,rfl,rfl⟩:=h.st;have O:gB a p D<4000000000000:=by unfold gB;omega
 refine MQ w v f H (Cm l w v sb f D Q H p K a) D (λw'=>∃l' G N' L,Mv (λx=>x=pr sb 0) l l' w w'/\(∀k':Kn,k'.B=k.B->(k'.ok->k.ok/\∀c,k.B c->eI (ah (aT a L)) (ae c)=false)->SX l' w' v sb f D N' G (aT a L) k' (λY s=>Y=X/\ae (bQ s)=ae (bQ (p f))))/\(aT a L).length+N'<=a.length+N/\(∀d,gh (aT a L) d=true->gh a d=true)/\sO k a f X L) (λs=>s=ae (bQ (p f))) (λc E=>Nat.lt_of_le_of_lt (Ut (i.sd a c E) A6) Z) ⟨l,P,a,[],rfl,(λx g=>absurd g Vs),Mv.refl _ _ _,i,h.jw,h.ls,h.bz,h.l3,Ug _,λ_ h=>h⟩ (λA W C=>C.cells) ?_ ?_
 .intro A c k e E u n;let⟨b,h1,h2⟩:=i.ie c k e E u;have A4:b∉A:=λhm=>by
   let⟨t,k',z,A3,A0,A1,h3⟩:=n.done.2.2 b hm;have:=i.gI t k' c k z e A0 E A1 u (by rw[h3,h1]);omega
  have S:oJ H D (b::A) c (k+1):=⟨⟨List.nodup_cons.2 ⟨A4,n.done.1⟩,(λx g=>by rcases UC.1 g with rfl|g;exact h2;exact n.done.2.1 x g),λx g=>by
   rcases UC.1 g with rfl|g
   .exact⟨c,k,e,.inr ⟨rfl,by omega⟩,E,u,h1⟩
   .let⟨t,k',z,A3,r⟩:=n.done.2.2 x g;exact⟨t,k',z,by omega,r⟩⟩,λt k' z x q1 q2 q3 q4=>by
   by_cases q:t=c/\k'=k
   .obtain⟨rfl,rfl⟩:=q;rw[u] at q3;cases q3;rw[h1] at q4;cases q4;exact Uk ..
   exact Ul _ (n.all t k' z x (by omega) q2 q3 q4)⟩
  exact⟨b,h1,S,λW C=>(C.one h.ne h2 O).mono λ_ _⟨⟨r,h1,_⟩,h2⟩=>⟨⟨r,h1⟩,h2⟩⟩
 intro A W n C;refine(C.one h.ne i.dJ O).mono ?_;rintro e w'⟨u,l',G,A9,L,rfl,V,m,U,hs,ls,T,l3,A2,A8⟩;refine⟨u,l',G,dy (gg (aT a L) p) D,L,m,λk' R A5=>⟨⟨Q,H,p,K,X,U,Ug _,I.store R A5,rfl,rfl⟩,hs,ls,T,l3,h.ne⟩,?_,A8,λok b A7=>?_⟩
 .unfold gB at A2;omega
 have J:b∈D/\b∈f::A:=by
  rcases A7 with rfl|⟨y,F⟩
  .exact⟨i.dJ,Uk ..⟩
  rw[I.o] at F;unfold nU at F;split at F
  .next h0=>
   let⟨j,e0,a1,_,a3⟩:=zG F;let⟨t0,b1,b2⟩:=i.ie _ j e0 (y[0]'h0).toNat_lt a1;unfold mg at a3;rw[b1] at a3;have a3:=a3;subst a3;exact⟨b2,Ul _ (n.all _ j e0 _ (.inl (y[0]'h0).toNat_lt) (y[0]'h0).toNat_lt a1 b1)⟩
  cases F
 have M:=i.gy b J.1;exact⟨p b,M.tr.ok,M.loose,I.iG ok b J.1,V b J.2⟩
def SX.store{l l' w w' g sb j D N C i a L}{k k':Kn}{P}(h:SX l w g sb j D N C a k P)(m:Mv (λx=>x=pr sb 0) l l' w w')(hs:fv w' sb i (aT a L))(y:∀x,cy sb i x->l' x=pr sb 0)(v:∀d,gh (aT a L) d=true->gh a d=true)(o:k'.B=k.B)(t:k'.ok->k.ok/\∀c,k.B c->eI (ah (aT a L)) (ae c)=false):SX l' w' g sb j D N i (aT a L) k' P:=by
 let⟨E,z,A,n,X,q,u,p,r⟩:=h.st;have s:∀b,pr g b≠pr sb 0:=λb e=>h.ne (fS e).1
 have h0:∀k,k<3->l k≠pr sb 0:=λk f e=>by rw[h.l3 k f] at e;have:=iu sb 0;omega
 exact⟨⟨E,z,A,n,X,q.move m s,Ut (tv (λx=>Nat.succ_le_succ (uL v _)) D) u,p.store o t,r⟩,hs,y,h.bz.mv m h0,λk f=>(m.bt k (by have:=h.bz.size;omega)).trans (h.l3 k f),h.ne⟩
structure aH where
 addr:yB
 n:Int
 aI:yB
 code:yB
 sa:Option Addr
 sc:Nat
 az:List (yB×yB)
def aH.sv(h:aH):Value:=lV h.sa h.az.length h.sc
def iR(h:aH):Value:=gV #[sV h.addr,iV .i64 h.n,sV h.aI,sV h.code,h.sv]
def g9(hs:List aH):List Value:=hs.flatMap λh=>[sV h.addr,iV .i64 h.n,sV h.aI,sV h.code,h.sv]
structure jK(w:World)(h:aH):Prop where
 addr:h.addr.size<=1073741824
 n:Rg h.n
 aI:h.aI.size<=1073741824
 code:h.code.size<=1073741824
 at_:eH w h.sv h.az
 len:h.az.length<4000000000
 small:∀p∈h.az,p.1.size<=1073741824/\p.2.size<=1073741824
def gw(w:World)(v:Value)(hs:List aH):Prop:=w.ownsRow 3 107 5 v hs.length (g9 hs)/\∀h∈hs,jK w h
def jK.below{w w' h}(k:jK w h)(a:yW w w'):jK w' h:=⟨k.addr,k.n,k.aI,k.code,k.at_.below a,k.len,k.small⟩
def gw.below{w w' v hs}(h:gw w v hs)(a:yW w w'):gw w' v hs:=⟨cM h.1 λg b=>a.block g (h.1.lt g b).2,λx c=>(h.2 x c).below a⟩
def Hr(a b:List aH):g9 (a++b)=g9 a++g9 b:=by simp[g9]
def Hq:∀(hs:List aH) (k:Nat) (h:aH),hs[k]? =some h->(g9 hs)[k*5]? =some (sV h.addr)/\(g9 hs)[k*5+1]? =some (i6 h.n)/\(g9 hs)[k*5+2]? =some (sV h.aI)/\(g9 hs)[k*5+3]? =some (sV h.code)/\(g9 hs)[k*5+4]? =some h.sv
 | [],k,h,e=>by simp at e
 |q::t,0,h,e=>by simp at e;subst e;exact⟨rfl,rfl,rfl,rfl,rfl⟩
 |q::t,k+1,h,e=>by
  have:=Hq t k h (by simpa using e)
  refine⟨?_,?_,?_,?_,?_⟩
  .rw[show(k+1)*5=k*5+5 by omega];exact this.1
  .rw[show(k+1)*5+1=k*5+1+5 by omega];exact this.2.1
  .rw[show(k+1)*5+2=k*5+2+5 by omega];exact this.2.2.1
  .rw[show(k+1)*5+3=k*5+3+5 by omega];exact this.2.2.2.1
  rw[show(k+1)*5+4=k*5+4+5 by omega];exact this.2.2.2.2
def gw.form{w v hs}(h:gw w v hs):∃a cap,v=lV a hs.length cap:=by
 let⟨a,cap,e,_⟩:=dM h.1;exact⟨a,cap,e⟩
def gw.at_{w a n cap hs}(h:gw w (lV a n cap) hs)(k:Nat)(x:aH)(b:hs[k]? =some x):∃g,a=some ⟨g,0,none⟩/\g<w.heap.size/\yc w g (k*5) (sV x.addr)/\yc w g (k*5+1) (i6 x.n)/\yc w g (k*5+2) (sV x.aI)/\yc w g (k*5+3) (sV x.code)/\yc w g (k*5+4) x.sv:=by
 let⟨a',c,e,_,_,f⟩:=dM h.1;cases e;have d:=(Ux.1 b).1;rcases f with⟨_,h0,_⟩|⟨g,rfl⟩
 .omega
 let⟨p0,p1,p2,p3,p4⟩:=Hq hs k x b;exact⟨g,rfl,(h.1.lt g rfl).2,fc h.1 rfl _ _ p0,fc h.1 rfl _ _ p1,fc h.1 rfl _ _ p2,fc h.1 rfl _ _ p3,fc h.1 rfl _ _ p4⟩
def kQ(e:Ending):Prop:=∃b:Bool,e=rV (bV b)
def Gr(t:yB)(g:t.size<=maxLen)(w):yC 66 #[sV t] w λe w'=>e=rV (bV (bF t))/\w'=w:=by
 have b:yH (∀h:0<t.size,bF t=(decide (t.size<=32) && decide ((t[0]'h).toNat≠0))):=λh=>by unfold bF;rw[dif_pos h]
 have c:yH (¬0<t.size->bF t=true):=λh=>by unfold bF;rw[dif_neg h]
 generalize bF t=B at*;unfold maxLen at g;by_cases h32:t.size<=32
 .have d:(t.size:Int)<=32:=by omega
  by_cases h0:0<t.size
  .have f:t.toList.isEmpty=false:=by rw[iv];omega
   have i:(0:Int)<(t.size:Int):=by omega
   have a:yH (B=(((t[0]'h0).toNat:Int) != 0)):=by
    rw[b.o h0,Uw h32,Bool.true_and];by_cases e:(t[0]'h0).toNat=0
    .rw[Uv (by simpa using e),e];rfl
    rw[Uw e];exact(show(((t[0]'h0).toNat:Int) != 0)=true by simpa using e).symm
   cases hz:(((t[0]'h0).toNat:Int) != 0)<;>rw[hz] at a<;>
    (go_enter func66,ntmps66;go_wp2_with fail;go_ret;exact⟨by rw[a.o];rfl,rfl⟩)
  have f:t.toList.isEmpty=true:=by rw[g7];omega
  have a:=aa (c.o h0);go_enter func66,ntmps66
  go_wp2;go_ret;exact⟨by rw[a.o];rfl,rfl⟩
 have d:¬(t.size:Int)<=32:=by omega
 have a:yH (B=false):=by rw[b.o (by omega),Uv h32];rfl
 go_enter func66,ntmps66
 go_wp2;go_ret;exact⟨by rw[a.o];rfl,rfl⟩
def jt(W:World)(n:Nat)(t:TypeId)(x0 x1 x2 x3 x4:Value):Prop:=W.heap[n]? =some (.cells #[x0,x1,x2,x3,x4] t (0,0))
def jt.new(w:World)(t x0 x1 x2 x3 x4):jt (w.alloc (.cells #[x0,x1,x2,x3,x4] t)) w.heap.size t x0 x1 x2 x3 x4:=UG w _
def jt.below{w W n m t x0 x1 x2 x3 x4}(h:jt w n t x0 x1 x2 x3 x4)(a:Below m w W)(b:n<m):jt W n t x0 x1 x2 x3 x4:=(a.block n b).trans h
def jt.cells{W n t x0 x1 x2 x3 x4}(h:jt W n t x0 x1 x2 x3 x4):(W.cell? ⟨n,0,none⟩=some x0/\W.cell? ⟨n,1,none⟩=some x1/\W.cell? ⟨n,2,none⟩=some x2/\W.cell? ⟨n,3,none⟩=some x3/\W.cell? ⟨n,4,none⟩=some x4)/\W.frozen? ⟨n,0,none⟩=false/\W.frozen? ⟨n,1,none⟩=false/\W.frozen? ⟨n,2,none⟩=false/\W.frozen? ⟨n,3,none⟩=false/\W.frozen? ⟨n,4,none⟩=false:=by
 refine⟨⟨?_,?_,?_,?_,?_⟩,US W n 0 _ _ h,US W n 1 _ _ h,US W n 2 _ _ h,US W n 3 _ _ h,US W n 4 _ _ h⟩
 .rw[Ur W n 0 _ _ _ h];rfl
 .rw[Ur W n 1 _ _ _ h];rfl
 .rw[Ur W n 2 _ _ _ h];rfl
 .rw[Ur W n 3 _ _ _ h];rfl
 rw[Ur W n 4 _ _ _ h];rfl
def jt.lt{W n t x0 x1 x2 x3 x4}(h:jt W n t x0 x1 x2 x3 x4):n<W.heap.size:=(Um.1 h).1
def JA{b n w w1}(h:Below b w w1)(a:b<=n)(x0 x1 x2 x3 x4):Below b w (((((w1.setCell ⟨n,0,none⟩ x0).setCell ⟨n,1,none⟩ x1).setCell ⟨n,2,none⟩ x2).setCell ⟨n,3,none⟩ x3).setCell ⟨n,4,none⟩ x4):=
 ((((h.setCell a _).setCell a _).setCell a _).setCell a _).setCell a _
def dH:List aH->yB->Option aH
 | [],_=>none
 |h::t,a=>if h.addr=a then some h else dH t a
def lz(a:yB):aH:=⟨a,0,⟨#[]⟩,cZ,none,0,[]⟩
def bT(hs:List aH)(a:yB):aH×Bool:=match dH hs a with
 |some h=>(h,true)
 |none=>(lz a,false)
def RH(hs:List aH)(a)(k:Nat)(h:aH)(b:hs[k]? =some h)(d:h.addr≠a):dH (hs.drop k) a=dH (hs.drop (k+1)) a:=by
 have c:=(Ux.1 b).1;rw[UZ c,(Ux.1 b).2];conv=>lhs;unfold dH
 rw[Ui d]
def RI(hs:List aH)(a)(k:Nat)(h:aH)(b:hs[k]? =some h)(c:h.addr=a):dH (hs.drop k) a=some h:=by
 have d:=(Ux.1 b).1;rw[UZ d,(Ux.1 b).2];unfold dH;rw[Uj c]
def GH(w v)(hs:List aH)(addr:yB)(H:gw w v hs)(X:hs.length<4000000000)(T:aB w):yC 52 #[v,sV addr] w λe w'=>e=rV (tV #[iR (bT hs addr).1,bV (bT hs addr).2])/\yW w w':=by
 obtain⟨a,cap,rfl⟩:=H.form;obtain⟨b,i⟩:=yX (w.alloc (.cells #[sV ⟨#[]⟩,i6 0,sV ⟨#[]⟩,sV ⟨#[]⟩,lV none 0 0] 107));have f:yH (yW w b):=by rw[i];exact(Un _ _).alloc (Ug _) _
 have l:yH (jt b w.heap.size 107 (sV ⟨#[]⟩) (i6 0) (sV ⟨#[]⟩) (sV ⟨#[]⟩) (lV none 0 0)):=by rw[i];exact jt.new _ _ _ _ _ _ _
 have D:=aa (H.below f.o);have E:yH (∀W,yW w W->yC 94 #[] W λe w'=>e=rV (sV cZ)/\yW W w'):=λW I=>Aq W (T.below I)
 have u:yH (∀k (_:k<hs.length),∃x g,hs[k]? =some x/\a=some ⟨g,0,none⟩/\yc b g (k*5) (sV x.addr)/\yc b g (k*5+1) (i6 x.n)/\yc b g (k*5+2) (sV x.aI)/\yc b g (k*5+3) (sV x.code)/\yc b g (k*5+4) x.sv):=λk t=>by
  have c:hs[k]? =some hs[k]:=Uh t;obtain⟨g,e,_,r⟩:=D.o.at_ k _ c;exact⟨_,g,c,e,r⟩
 have A:yH (dH hs addr=dH (hs.drop 0) addr):=rfl;have G:yH (∀x,dH hs addr=some x->bT hs addr=(x,true)):=λx e=>by unfold bT;rw[e]
 have F:yH (dH hs addr=none->bT hs addr=(lz addr,false)):=λe=>by unfold bT;rw[e]
 have z:yH (iR (lz addr)=gV #[sV addr,i6 0,sV ⟨#[]⟩,sV cZ,lV none 0 0]):=rfl;clear H T;generalize hN:hs.length=N at*;generalize cZ=NC at*;go_enter func52,ntmps52
 go_wp2;rw[<-i];clear i;go_loopg [6] N (λg r wr=>∃k:Nat,g=N - k/\k<=N/\r=i6 k/\yH (dH hs addr=dH (hs.drop k) addr)/\wr=b)
 .exact⟨0,rfl,by omega,rfl,A,rfl⟩
 obtain⟨k,s,t,rfl,h,L⟩:=hrel;subst L;have C:=aa s;clear s;by_cases K:k<N
 .obtain⟨x,g,c,rfl,c0,c1,c2,c3,c4⟩:=u.o k K;have J:(k:Int)<(N:Int):=by omega
  by_cases d:x.addr=addr
  .have q:dH hs addr=some x:=by rw[h.o,RI hs addr k x c d]
   have j:=aa (G.o x q);have o:(x.addr.toList == addr.toList)=true:=by rw[dV];exact Uw d
   obtain⟨⟨k0,k1,k2,k3,k4⟩,f0,f1,f2,f3,f4⟩:=l.o.cells;obtain⟨M,R,O,P,S,U,Q⟩:=x;simp only[aH.sv] at c0 c1 c2 c3 c4 o;clear c d q h;have V:w.heap.size<wr.heap.size:=UE wr _ k0;go_wp2;exact UB (v:=tV #[gV #[sV M,i6 R,sV O,sV P,lV S Q.length U],bV true]) (by simp[results,results52,go_sem,k0,k1,k2,k3,k4]) rfl ⟨by rw[j.o];rfl,JA f.o (Ug _) _ _ _ _ _⟩
  have B:yH (dH hs addr=dH (hs.drop (k+1)) addr):=by rw[h.o];exact RH hs addr k x c d
  have o:(x.addr.toList == addr.toList)=false:=by rw[dV];exact Uv d
  clear c d c1 c2 c3 c4;go_wp2;go_roundg (N - (k+1))
  .exact⟨k+1,rfl,by omega,by go_num,B,rfl⟩
  have:=C.o;omega
 obtain rfl:k=N:=by omega
 have J:¬(k:Int)<(k:Int):=by omega
 have p:dH hs addr=none:=by rw[h.o,<-hN,List.drop_length];rfl
 have j:=aa (F.o p);clear p;go_wp2_with fail
 refine(E.o _ f.o).mono ?_;rintro e w2⟨rfl,m⟩;have y:=aa (f.o.trans (m.mono f.o.size));obtain⟨⟨k0,k1,k2,k3,k4⟩,f0,f1,f2,f3,f4⟩:=(l.o.below m l.o.lt).cells;clear m;go_wp2;exact UB (v:=tV #[gV #[sV addr,i6 0,sV ⟨#[]⟩,sV NC,lV none 0 0],bV false]) (by simp[results,results52,go_sem,k0,k1,k2,k3,k4]) rfl ⟨by rw[j.o,z.o],JA y.o (Ug _) _ _ _ _ _⟩
def Jl{l}(h:bY l l.length=false){x y}(b:x∈l)(c:y∈l)(e:ag x=ag y):x=y:=by
 let⟨i,hi⟩:=List.getElem?_of_mem b;let⟨j,a⟩:=List.getElem?_of_mem c;have d:=(Ux.1 hi).1;have f:=(Ux.1 a).1;rcases Nat.lt_trichotomy i j with q|q|q
 .exact(Bv h j i y x f q a hi e.symm).symm
 .subst q;rw[hi] at a;exact Option.some.inj a
 exact Bv h i j x y d q hi a e
def iX(a:List yB):Prop:=∀x∈a,∀y∈a,ag x=ag y->x=y
def ct(a:List (yB×yB)):List (yB×yB):=a.map λp=>(ag p.1,fg p.2)
def dU(h:aH):Ac:=⟨h.n.toNat,h.aI,h.code,ct h.az⟩
def bG:List aH->Mp
 | [],_=>none
 |h::t,y=>if ag h.addr=y then some (dU h) else bG t y
abbrev pP(h:aH):Prop:=h.n=0/\h.aI.size=0/\h.code=cZ/\h.az.length=0
structure iz(seen:List yB)(h:aH):Prop where
 len:h.addr.size=20
 addr:h.addr∈seen
 n:0<=h.n/\h.n<9223372036854775808
 aI:bF h.aI=true
 code:h.code.size=32
 once:(h.az.map (·.1)).Nodup
 slot:∀p∈h.az,p.1.size=32/\p.1∈seen/\bF p.2=true/\p.2.size≠0
 full:cY (ct h.az)=ae bM->h.az=[]
structure iM(seen:List yB)(hs:List aH):Prop where
 each:∀h∈hs,iz seen h/\¬pP h
 once:(hs.map (·.addr)).Nodup
def iz.more{b c h}(k:iz b h)(hs:∀x∈b,x∈c):iz c h:=⟨k.len,hs _ k.addr,k.n,k.aI,k.code,k.once,λp a=>⟨(k.slot p a).1,hs _ (k.slot p a).2.1,(k.slot p a).2.2⟩,k.full⟩
def iM.more{b c hs}(k:iM b hs)(h:∀x∈b,x∈c):iM c hs:=⟨λx a=>⟨(k.each x a).1.more h,(k.each x a).2⟩,k.once⟩
def DL{d}(hi:iX d):∀{b:List (yB×yB)},(b.map (·.1)).Nodup->(∀p∈b,p.1∈d)->((ct b).map (·.1)).Nodup
 | [],_,_=>List.nodup_nil
 |p::t,h,hs=>by
  let⟨h1,h2⟩:=List.nodup_cons.1 h
  refine List.nodup_cons.2 ⟨λf=>?_,DL hi h2 λq a=>hs q (Ul _ a)⟩
  let⟨q,a,e⟩:=UO.1 f
  obtain⟨r,c,rfl⟩:=UO.1 a
  have:=hi _ (hs r (Ul _ c)) _ (hs p (Uk ..)) e
  exact h1 (UO.2 ⟨r,c,this⟩)
def DM{c}(hi:iX c){b:List (yB×yB)}(e:(b.map (·.1)).Nodup)(slot:∀p∈b,p.1.size=32/\p.1∈c/\bF p.2=true/\p.2.size≠0):cT (ct b):=by
 refine⟨DL hi e λp a=>(slot p a).2.1,λp a=>?_⟩;obtain⟨q,d,rfl⟩:=UO.1 a;let⟨c1,c2,_⟩:=qG (mH (slot q d).2.2.1);exact⟨by show(ag q.1).size<=40;rw[show(ag q.1).size=32 from dz _];decide,c1,c2⟩
def iz.map{a}(hi:iX a){h}(k:iz a h):cT (ct h.az):=DM hi k.once k.slot
def iz.fit{a}(hi:iX a){h}(k:iz a h):nH (eo (dU h)):=⟨by show h.n.toNat<_;have:=k.n;omega,k.aI,vT (k.map hi),k.code⟩
def iz.none{b h}(k:iz b h):mI (eo (dU h))=true↔pP h:=by
 rw[rW];constructor
 .intro e;injection e with e1 e2 e3 e4;have c:=k.n.1;have e1:h.n.toNat=0:=e1;have e2:h.aI=⟨#[]⟩:=e2;exact⟨by omega,by rw[e2];rfl,e4,by rw[k.full e3];rfl⟩
 rintro ⟨h1,h2,h3,h4⟩;have hs:h.az=[]:=UH.1 h4;have a:h.aI=⟨#[]⟩:=by
  have:h.aI.data.toList=[]:=UH.1 (by simpa using h2);rw[<-gA h.aI,this];rfl
 show(⟨h.n.toNat,h.aI,cY (ct h.az),h.code⟩:Acc)=gC;rw[h1,a,h3,hs];rfl
def Hd{a}(hi:iX a){addr}(b:addr∈a):∀{hs},(∀h∈hs,h.addr∈a)->bG hs (ag addr)=(dH hs addr).map dU
 | [],_=>rfl
 |h::t,hh=>by
  show(if ag h.addr=ag addr then some (dU h) else bG t (ag addr))=(if h.addr=addr then some h else dH t addr).map dU
  rw[Hd hi b λx c=>hh x (Ul _ c)]
  by_cases e:h.addr=addr
  .rw[Uj e,Uj (by rw[e])];rfl
  rw[Ui e,Ui (λq=>e (hi _ (hh h (Uk ..)) _ b q))]
def dv(hs:List aH)(a:yB):List aH:=hs.filter λh=>!(h.addr.toList == a.toList)
def Hc{b}(hi:iX b){addr}(c:addr∈b)(y):∀{hs} (L:List aH),(∀h∈hs,h.addr∈b)->bG (dv hs addr++L) y=if y=ag addr then bG L y else(bG hs y).or (bG L y)
 | [],L,_=>by
  show bG L y=_
  split<;>rfl
 |h::t,L,hh=>by
  have a:=Hc hi c y (hs:=t) L λx d=>hh x (Ul _ d)
  unfold dv at a⊢
  rw[List.filter_cons,dV]
  by_cases e:h.addr=addr
  .rw[Uw e,Ui (by simp),a]
   split
   .rfl
   next hn=>
   show _=(if ag h.addr=y then some (dU h) else bG t y).or _
   rw[Ui (λq=>hn (by rw[<-q,e]))]
  rw[Uv e,Uj (by rfl)]
  show(if ag h.addr=y then some (dU h) else bG _ y)=if y=ag addr then bG L y else(if ag h.addr=y then some (dU h) else bG t y).or _
  by_cases q:ag h.addr=y
  .rw[Uj q,Uj q,Ui (λq2=>e (hi _ (hh h (Uk ..)) _ c (q.trans q2)))];rfl
  rwa[Ui q,Ui q]
def ng (hs:List aH) (h:aH):List aH:=dv hs h.addr++(if pP h then [] else [h])
def AE{c}(hi:iX c){hs}(k:iM c hs){x}(b:iz c x):bG (ng hs x)=cQ (bG hs) (ag x.addr) (dU x):=by
 funext y
 unfold ng;rw[Hc hi b.addr y _ λh d=>(k.each h d).1.addr];unfold cQ;by_cases a:pP x
 .rw[Uj a,Uj (b.none.2 a)];by_cases e:y=ag x.addr
  .rw[Uj e,Uj e];rfl
  rw[Ui e,Ui e];cases bG hs y<;>rfl
 rw[Ui a,Ui (λq=>a (b.none.1 q))];by_cases e:y=ag x.addr
 .rw[Uj e,Uj e];show(if ag x.addr=y then some (dU x) else none)=_;rw[Uj e.symm]
 rw[Ui e,Ui e];show(bG hs y).or (if ag x.addr=y then some (dU x) else none)=_;rw[Ui (λq=>e q.symm)];cases bG hs y<;>rfl
def iM.place{d hs}(k:iM d hs){x}(l:iz d x):iM d (ng hs x):=by
 unfold ng;have h1:∀y∈dv hs x.addr,iz d y/\¬pP y:=λy c=>k.each y (List.mem_filter.1 c).1
 have j:(dv hs x.addr).Sublist hs:=List.filter_sublist;have h2:((dv hs x.addr).map (·.addr)).Nodup:=k.once.sublist (j.map _);by_cases f:pP x
 .rw[Uj f,UU];exact⟨h1,h2⟩
 rw[Ui f];refine⟨λy c=>?_,?_⟩
 .rcases UA.1 c with c|c
  .exact h1 y c
  rw[Uo.1 c];exact⟨l,f⟩
 rw[Vl,List.nodup_append];refine⟨h2,by simp,λa i b g e=>?_⟩;simp only[List.map_cons,List.map_nil,Uo] at g;obtain⟨z,m,rfl⟩:=UO.1 i;have h:=(List.mem_filter.1 m).2;rw[dV,e,g,Uw rfl] at h;cases h
def DN{a}(hi:iX a){k}(c:k∈a):∀{b},(∀p∈b,p.1∈a)->ah (ct b) (ag k)=(ah b k).map fg
 | [],_=>rfl
 |p::t,hs=>by
  show(if((ag p.1).toList == (ag k).toList) then some (fg p.2) else ah (ct t) (ag k))=(if(p.1.toList == k.toList) then some p.2 else ah t k).map fg
  rw[dV,dV,DN hi c λq d=>hs q (Ul _ d)]
  by_cases e:p.1=k
  .rw[Uw e,Uw (by rw[e]),Uj rfl,Uj rfl];rfl
  rw[Uv e,Uv (λq=>e (hi _ (hs p (Uk ..)) _ c q)),Ui (by simp),Ui (by simp)]
def Mk{b}(hi:iX b){h}(x:iz b h){k}(d:k∈b){v c}(hs:iU (bD (ct h.az) (ag k)) v c):v=bD h.az k/\c=0:=by
 unfold bD at hs⊢;rw[DN hi d λp a=>(x.slot p a).2.1] at hs;cases hl:ah h.az k with
 |none=>rw[hl] at hs;exact hs.1 rfl
 |some u=>
  rw[hl] at hs;have e:∀{t:List (yB×yB)},ah t k=some u->∃p∈t,p.2=u:=by
   intro t;induction t with
   |nil=>intro h;cases h
   |cons p t ih=>
    intro h;have h:(if(p.1.toList == k.toList) then some p.2 else ah t k)=some u:=h;split at h
    .exact⟨p,Uk ..,Option.some.inj h⟩
    let⟨q,h1,h2⟩:=ih h;exact⟨q,Ul _ h1,h2⟩
  obtain⟨p,a,rfl⟩:=e hl;let⟨_,_,h3,h4⟩:=x.slot p a;exact hs.2 p.2 rfl h3 h4
def Mj{b}(hi:iX b){a}(hs:∀p∈a,p.1∈b){k}(c:k∈b){v:yB}(g:v.size<=32):ct (aL a k v)=aL (ct a) (ag k) (if v.size=0 then⟨#[]⟩ else fg v):=by
 have d:others (ct a) (ag k)=ct (others a k):=by
  unfold others ct;rw[List.filter_map];congr 1;refine List.filter_congr λp f=>?_
  show(!((ag p.1).toList == (ag k).toList))= !(p.1.toList == k.toList);rw[dV,dV];by_cases e:p.1=k
  .rw[Uw e,Uw (by rw[e])]
  rw[Uv e,Uv (λq=>e (hi _ (hs p f) _ c q))]
 unfold aL;rw[d];by_cases h0:v.size=0
 .rw[Uj h0,Uj h0,Uj (show(⟨#[]⟩:yB).size=0 from rfl),UU,UU]
 rw[Ui h0,Ui h0,Ui (by have:=(qG g).1;omega)];unfold ct;rw[Vl];rfl
def KF{c:List (yB×yB)}(h:(c.map (·.1)).Nodup)(k v):((aL c k v).map (·.1)).Nodup:=by
 unfold aL;have g:(others c k).Sublist c:=List.filter_sublist;have h2:((others c k).map (·.1)).Nodup:=h.sublist (g.map _);split
 .rwa[UU]
 rw[Vl,List.nodup_append];refine⟨h2,by simp,λa f b d e=>?_⟩;simp only[List.map_cons,List.map_nil,Uo] at d;obtain⟨z,i,rfl⟩:=UO.1 f;exact zE c k z i (e.trans d)
def gN(hs:List aH)(c:yL):Prop:=oE (hs.map λh=>(ag h.addr,ir (eo (dU h)))) c\/∃h∈hs,oE (ct h.az) c
def Q9:(yP.info? 107).map (λi=>(i.zero,i.size,i.bytes))=some (some (gV #[sV ⟨#[]⟩,i6 0,sV ⟨#[]⟩,sV ⟨#[]⟩,lV none 0 0]),5,80):=by kernel_rfl
def Fj(hs:List aH)(a):(dv hs a).length<=hs.length:=List.length_filter_le _ _
def OV(hs:List aH)(a)(k:Nat)(h:aH)(b:hs[k]? =some h):dv (hs.take (k+1)) a=dv (hs.take k) a++(if(h.addr.toList == a.toList) then [] else [h]):=by
 unfold dv;rw[VF,b,VO];cases hh:(h.addr.toList == a.toList)<;>simp[hh]
def IB(w:World)(x0 x1 x2 x3 x4 t){n}(b:n=w.heap.size):∀j u,[x0,x1,x2,x3,x4][j]? =some u->(w.alloc (.cells #[x0,x1,x2,x3,x4] t)).cell? ((⟨n,0,none⟩:Addr).add j)=some u:=by
 subst b;intro j u c;have a:(⟨w.heap.size,0,none⟩:Addr).add j=⟨w.heap.size,j,none⟩:=by unfold Addr.add;split<;>simp_all
 rw[a,Ur _ _ j _ _ _ (UG w (.cells #[x0,x1,x2,x3,x4] t))];simpa using c
def BU(w:World)(hs:List aH)(h:aH)(e:Ending)(w':World):Prop:=(∃(b:Value)(a:List aH),e=rV b/\w'.ownsRow w.heap.size 107 5 b a.length (g9 a)/\a=ng hs h)/\yW w w'
def Qz(w v)(hs:List aH)(h:aH)(H:gw w v hs)(hn:hs.length<4000000000)(hl:h.az.length<4000000000)(T:aB w):yC 103 #[v,iR h] w λe w'=>BU w hs h e w'/\True:=by
 obtain⟨a,cap,rfl⟩:=H.form;obtain⟨b,d,c,f,n,o,m⟩:=h;simp only at hl;obtain⟨R,P⟩:=yX (BU w hs ⟨b,d,c,f,n,o,m⟩);have C2:yH ((d=0/\c.size=0/\f=cZ/\m.length=0)->∀p W,W.ownsRow w.heap.size 107 5 p (dv hs b).length (g9 (dv hs b))->yW w W->R (rV p) W):=λq p W h1 h2=>by rw[P];exact⟨⟨p,_,rfl,h1,by unfold ng;rw[Uj (show pP ⟨b,d,c,f,n,o,m⟩ from q),UU]⟩,h2⟩
 have C4:yH (¬(d=0/\c.size=0/\f=cZ/\m.length=0)->∀p W,W.ownsRow w.heap.size 107 5 p (dv hs b++[(⟨b,d,c,f,n,o,m⟩:aH)]).length (g9 (dv hs b++[(⟨b,d,c,f,n,o,m⟩:aH)]))->yW w W->R (rV p) W):=λq p W h1 h2=>by rw[P];exact⟨⟨p,_,rfl,h1,by unfold ng;rw[Ui (show ¬pP ⟨b,d,c,f,n,o,m⟩ from q)]⟩,h2⟩
 have B7:yH (g9 (dv hs b++[(⟨b,d,c,f,n,o,m⟩:aH)])=g9 (dv hs b)++[sV b,i6 d,sV c,sV f,lV n m.length o]):=Hr _ _;rw[<-P];clear P;unfold iR aH.sv;simp only;obtain⟨j,B⟩:=yX (w.alloc (.cells #[sV b,i6 d,sV c,sV f,lV n m.length o] 107));have A1:yH (yW w j):=by rw[B];exact(Un _ _).alloc (Ug _) _
 have C6:yH (j.heap.size=w.heap.size+1):=by rw[B];show _=_;simp
 have O:yH (jt j w.heap.size 107 (sV b) (i6 d) (sV c) (sV f) (lV n m.length o)):=by rw[B];exact jt.new _ _ _ _ _ _ _
 have HH:=aa (H.below A1.o);have C0:yH (∀W,yW w W->yC 94 #[] W λe w'=>e=rV (sV cZ)/\yW W w'):=λW s=>Aq W (T.below s)
 have HA:yH (∀k (_:k<hs.length),∃t K G I L M J g,a=some ⟨g,0,none⟩/\(∀W,yW j W->yc W g (k*5) (sV t)/\yc W g (k*5+1) (i6 K)/\yc W g (k*5+2) (sV G)/\yc W g (k*5+3) (sV I)/\yc W g (k*5+4) (lV L J M))/\dv (hs.take (k+1)) b=dv (hs.take k) b++(if(t.toList == b.toList) then [] else [hs.getD k (lz b)])/\g9 [hs.getD k (lz b)]=[sV t,i6 K,sV G,sV I,lV L J M]):=λk E=>by
  have hx:hs[k]? =some hs[k]:=Uh E;obtain⟨g,e,_,c0,c1,c2,c3,c4⟩:=HH.o.at_ k _ hx;have A6:hs.getD k (lz b)=hs[k]:=by rw[Up,hx];rfl
  refine⟨_,_,_,_,hs[k].sa,hs[k].sc,hs[k].az.length,g,e,λW s=>⟨eg s c0,eg s c1,eg s c2,eg s c3,eg s c4⟩,?_,?_⟩
  .rw[A6];exact OV hs b k _ hx
  rw[A6];rfl
 have HE:yH (dv (hs.take hs.length) b=dv hs b):=by show _=_;rw[VM]
 have B8:yH (∀k,(dv (hs.take k) b).length<=k):=λk=>Ut (Fj _ _) (by rw[UN];omega)
 have B9:yH ((dv hs b).length<=hs.length):=Fj _ _;obtain⟨i0,A9,B2,B3,B4⟩:=Vp Q9;clear H T;generalize hs.length=N at*;generalize cZ=NC at*;generalize m.length=A at*;go_enter func103,ntmps103
 go_wp2;rw[<-B];clear B;go_loopg [5,6] N (λg v r wr=>∃i:Nat,g=N - i/\i<=N/\r=i6 i/\yH (wr.ownsRow (w.heap.size+1) 107 5 v (dv (hs.take i) b).length (g9 (dv (hs.take i) b)))/\yH (yW j wr))
 .exact⟨0,rfl,by omega,rfl,U8 _ _ _ _,Un _ _⟩
 obtain⟨i,Q,hi,rfl,y,l⟩:=hrel;have HG:=aa Q;clear Q;have D4:=l.o.size;have D9:=C6.o;obtain⟨⟨k0,k1,k2,k3,k4⟩,_⟩:=(O.o.below l.o O.o.lt).cells;by_cases D1:i<N
 .obtain⟨t,K,G,I,L,M,J,g,rfl,Z,u,A0⟩:=HA.o i D1;obtain⟨c0,c1,c2,c3,c4⟩:=Z wr l.o;have D0:(i:Int)<(N:Int):=by omega
  have D7:=B8.o i;cases hls:(t.toList == b.toList)
  .rw[hls] at u;have X:yH (dv (hs.take (i+1)) b=dv (hs.take i) b++[hs.getD i (lz b)]):=u;have B6:yH (g9 [hs.getD i (lz b)]=[sV t,i6 K,sV G,sV I,lV L J M]):=A0;have A3:=aa y.o.drew;have S:yH (yW j wr.drew):=⟨l.o.os,l.o.tape,l.o.output,l.o.size,l.o.block⟩
   clear u A0 Z k1 k2 k3 k4;generalize dv (hs.take i) b=os at*;go_upto_region 5 with fail
   go_region
   go_wp2_with (at_builtin;refine U0 _ rfl (.tmp 22) (.tmp 27) 62 rfl (w.heap.size+1) 107 i0 (gV #[sV ⟨#[]⟩,i6 0,sV ⟨#[]⟩,sV ⟨#[]⟩,lV none 0 0]) 5 80 underlying62 A9 B2 B3 B4 rfl (by decide) _ os.length (g9 os) rfl (A3.o.alloc _) ⟨wr.heap.size,0,none⟩ 1 1 [sV t,i6 K,sV G,sV I,lV L J M] rfl rfl (IB _ _ _ _ _ _ _ rfl) ?c2 (by omega) ?c3 ?c4 ?c5 _ rfl ?c6)
   case c2=>first|exact⟨rfl,rfl,rfl,rfl,rfl⟩| (intro v F;simp at F;rcases F with rfl|rfl|rfl|rfl|rfl<;>rfl)
   case c3=>unfold maxLen;omega
   case c4=>omega
   case c5=>first|omega| (simp;omega)
   intro g2 Y w2 B0 A7 C7 D2;have z:yH (w2.ownsRow (w.heap.size+1) 107 5 (lV (qA g2) (os.length+1) Y) (dv (hs.take (i+1)) b).length (g9 (dv (hs.take (i+1)) b))):=by
    show World.ownsRow _ _ _ _ _ _ _;rw[X.o,Hr,B6.o,Uq];exact B0
   have x:yH (yW j w2):=(S.o.alloc D4 _).grown A7 (by simp;omega) (λk E=>by have:=(A3.o.lt k E).1;omega);clear B0 A7 C7 D2;go_wp2;go_roundg (N - (i+1))
   .exact⟨i+1,rfl,by omega,by go_num,z,x⟩
   have:=HG.o;omega
  rw[hls] at u;have X:yH (dv (hs.take (i+1)) b=dv (hs.take i) b):=by rw[u];show _=_;simp
  have C1:yH (wr.drew.ownsRow (w.heap.size+1) 107 5 u5 (dv (hs.take (i+1)) b).length (g9 (dv (hs.take (i+1)) b))):=by rw[X.o];exact y.o.drew
  have S:yH (yW j wr.drew):=⟨l.o.os,l.o.tape,l.o.output,l.o.size,l.o.block⟩
  clear u A0 Z k1 k2 k3 k4;go_upto_region 5 with fail
  go_region
  go_wp2;go_roundg (N - (i+1))
  .exact⟨i+1,rfl,by omega,by go_num,C1,S⟩
  have:=HG.o;omega
 obtain rfl:i=N:=by omega
 have D0:¬(i:Int)<(i:Int):=by omega
 rw[HE.o] at y;have D8:=B9.o;have U:=aa (A1.o.trans (l.o.mono (by omega)));generalize dv hs b=os at*;go_wp2_with fail
 refine(C0.o _ U.o).mono ?_;rintro e w2⟨rfl,C⟩;have x:=aa (U.o.trans (C.mono U.o.size));have z:yH (w2.ownsRow (w.heap.size+1) 107 5 u5 os.length (g9 os)):=cM y.o λg Q=>C.block g (y.o.lt g Q).2
 have C3:yH ((d=0/\c.size=0/\f=NC/\A=0)->R (rV u5) w2):=λq=>C2.o q u5 w2 (nj z.o (by omega)) x.o
 have D5:=x.o.size;have D6:w.heap.size<w2.heap.size:=by have:=C.size;omega
 obtain⟨⟨m0,m1,m2,m3,m4⟩,_⟩:=((O.o.below l.o O.o.lt).below C (by show w.heap.size<wr.heap.size;omega)).cells;clear C k0 k1 k2 k3 k4;by_cases D:d=0/\c.size=0/\f=NC/\A=0
 .have V:=aa (C3.o D);obtain⟨rfl,A5,rfl,rfl⟩:=D;have hE:c.toList.isEmpty=true:=by rw[g7];exact A5
  clear A5;go_wp2;go_ret;exact⟨V.o,trivial⟩
 have C9:(d == 0)=false\/(d=0/\c.toList.isEmpty=false)\/(d=0/\c.toList.isEmpty=true/\(f.toList == NC.toList)=false)\/(d=0/\c.toList.isEmpty=true/\(f.toList == NC.toList)=true/\((A:Int) == 0)=false):=by
  by_cases h1:d=0
  .by_cases h2:c.size=0
   .by_cases h3:f=NC
    .refine .inr (.inr (.inr ⟨h1,by rw[g7];exact h2,by rw[dV];exact Uw h3,?_⟩));have:A≠0:=λh4=>D ⟨h1,h2,h3,h4⟩
     simp;omega
    exact .inr (.inr (.inl ⟨h1,by rw[g7];exact h2,by rw[dV];exact Uv h3⟩))
   exact .inr (.inl ⟨h1,by rw[iv];exact h2⟩)
  exact .inl (by simpa using h1)
 have A4:=C4.o D;have C5:=aa A4;clear D A4;rcases C9 with h1|⟨rfl,h1⟩|⟨rfl,h1,h2⟩|⟨rfl,h1,h2,h4⟩;all_goals
  go_wp2_with (at_builtin;refine U0 _ rfl (.tmp 51) (.tmp 53) 62 rfl (w.heap.size+1) 107 i0 (gV #[sV ⟨#[]⟩,i6 0,sV ⟨#[]⟩,sV ⟨#[]⟩,lV none 0 0]) 5 80 underlying62 A9 B2 B3 B4 rfl (by decide) _ os.length (g9 os) rfl (z.o.alloc _) ⟨w2.heap.size,0,none⟩ 1 1 [sV b,_,sV c,sV f,lV n A o] rfl rfl (IB _ _ _ _ _ _ _ rfl) (by first|exact⟨rfl,rfl,rfl,rfl,rfl⟩| (intro v F;simp at F;rcases F with rfl|rfl|rfl|rfl|rfl<;>rfl)) (by omega) (by unfold maxLen;omega) (by omega) (by first|omega| (simp;omega)) _ rfl ?_)
  intro g2 Y w3 B1 A8 C8 D3;have A2:=nj (base':=w.heap.size) B1 (by omega);have B5:yH (yW w w3):=(x.o.alloc D5 _).grown A8 (by simp;omega) (λk E=>by have:=(z.o.lt k E).1;omega);have V:=aa (C5.o _ w3 (by rw[B7.o,Uq];exact A2) B5.o);clear B1 A8 C8 D3 A2;go_wp2;go_ret;exact⟨V.o,trivial⟩
structure aV where
 rb:Nat
 sb:Nat
 sp:Nat
 tw:Nat
 tt:Nat
 D:List Nat
 N:Nat
 mv:Value
 m:List aH
 bv:Value
 base:List aH
 sv:Value
 seen:List yB
 yes:Bool
def oH(l:Nat->Nat)(v:Value)(hs:List aH):Prop:=(∀g,v.ownBlock=some g->l g=0)/\∀h∈hs,∀g,h.sv.ownBlock=some g->l g=0
def gw.mv{T l l' w w' v hs}(h:gw w v hs)(c:oH l v hs)(m:Mv T l l' w w')(h0:¬T 0):gw w' v hs/\oH l' v hs:=
 ⟨⟨cM h.1 λg a=>m.kept (h.1.lt g a).2 (c.1 g a) h0,λx b=>by
  have k:=h.2 x b
  exact⟨k.addr,k.n,k.aI,k.code,(k.at_.mv (c.2 x b) m h0).1,k.len,k.small⟩⟩,
  ⟨λg a=>(m.bt g (h.1.lt g a).2).trans (c.1 g a),λx b=>((h.2 x b).at_.mv (c.2 x b) m h0).2⟩⟩
structure iy(l:Nat->Nat)(w:World)(R:aV):Prop where
 ai:w.heap[R.rb]? =some (.cells #[pV (qA R.sb),pV (qA R.sp),R.mv,R.bv,R.sv,pV (qA R.tt)] 65 (0,0))
 lb:l R.rb=pr R.rb 0
 pm:gw w R.mv R.m
 lm:oH l R.mv R.m
 pb:gw w R.bv R.base
 lv:oH l R.bv R.base
 sn:w.ownsRow 3 9 1 R.sv R.seen.length (R.seen.map Value.string)
 ls:∀g,R.sv.ownBlock=some g->l g=pr R.rb 0
 sm:∀s∈R.seen,s.size<=1073741824
 tn:w.heap[R.tt]? =some (.cells #[bV R.yes] 61 (0,0))
 lt:l R.tt=pr R.tt 0
 nm:R.m.length<1000000000
 nb:R.base.length<1000000000
 ns:R.seen.length<1000000000
def iy.jm{l w R}(h:iy l w R):R.rb<w.heap.size:=(Um.1 h.ai).1
def iy.qj{l w R}(h:iy l w R):R.tt<w.heap.size:=(Um.1 h.tn).1
def iy.move{T l l' w w' R}(h:iy l w R)(m:Mv T l l' w w')(h0:¬T 0)(h1:¬T (pr R.rb 0))(h2:¬T (pr R.tt 0)):iy l' w' R:=
 {ai:=(m.kept h.jm h.lb h1).trans h.ai
  lb:=(m.bt _ h.jm).trans h.lb
  pm:=(h.pm.mv h.lm m h0).1
  lm:=(h.pm.mv h.lm m h0).2
  pb:=(h.pb.mv h.lv m h0).1
  lv:=(h.pb.mv h.lv m h0).2
  sn:=cM h.sn λg a=>m.kept (h.sn.lt g a).2 (h.ls g a) h1
  ls:=λg a=>(m.bt g (h.sn.lt g a).2).trans (h.ls g a)
  sm:=h.sm
  tn:=(m.kept h.qj h.lt h2).trans h.tn
  lt:=(m.bt _ h.qj).trans h.lt
  nm:=h.nm
  nb:=h.nb
  ns:=h.ns}
def iy.cells{l w R}(h:iy l w R):w.cell? ⟨R.rb,0,none⟩=some (pV (qA R.sb))/\w.cell? ⟨R.rb,1,none⟩=some (pV (qA R.sp))/\w.cell? ⟨R.rb,2,none⟩=some R.mv/\w.cell? ⟨R.rb,3,none⟩=some R.bv/\w.cell? ⟨R.rb,4,none⟩=some R.sv/\w.cell? ⟨R.rb,5,none⟩=some (pV (qA R.tt))/\w.cell? ⟨R.tt,0,none⟩=some (bV R.yes):=by
 refine⟨?_,?_,?_,?_,?_,?_,?_⟩
 .rw[Ur w _ 0 _ _ _ h.ai];rfl
 .rw[Ur w _ 1 _ _ _ h.ai];rfl
 .rw[Ur w _ 2 _ _ _ h.ai];rfl
 .rw[Ur w _ 3 _ _ _ h.ai];rfl
 .rw[Ur w _ 4 _ _ _ h.ai];rfl
 .rw[Ur w _ 5 _ _ _ h.ai];rfl
 rw[Ur w _ 0 _ _ _ h.tn];rfl
def aV.de(R:aV):Prop:=R.yes=false/\bY R.seen R.seen.length=false
def aV.kn(R:aV):Kn:=⟨R.de,gN R.base⟩
def aV.wk(R:aV)(a:List (yB×yB)):GP:=λX _=>R.de->Wd R.kn a R.tw X (bG R.m) gK
def aV.de.inj{R:aV}(h:R.de):iX R.seen:=λ_ hx _ hy e=>Jl h.2 hx hy e
structure pK(l:Nat->Nat)(w:World)(R:aV)(us:Nat->Value)(ps:List (yB×yB))(P:GP):Prop where
 y:iy l w R
 x:SX l w R.sp R.sb R.tw R.D R.N us ps R.kn P
structure dh(l:Nat->Nat)(w:World)(R:aV)(us:Nat->Value)(ps:List (yB×yB)):Prop extends pK l w R us ps (R.wk ps) where
 k:R.de->iM R.seen R.m/\iM R.seen R.base
def pK.ne{l w R d c P}(h:pK l w R d c P):R.sp≠R.rb/\R.sp≠R.tt/\R.rb≠R.tt/\R.rb≠R.sb/\R.tt≠R.sb:=by
 let⟨j,g,i,f,X,a,_⟩:=h.x.st;have b1:=h.y.ai;have b2:=h.y.tn;have b3:=a.ai.ai;let⟨_,b,_⟩:=h.x.jw.st;have b4:=b.ai;refine⟨λe=>?_,λe=>?_,λe=>?_,λe=>?_,λe=>?_⟩
 .rw[e,b1] at b3;injection b3 with b3;injection b3 with _ b3;cases b3
 .rw[e,b2] at b3;injection b3 with b3;injection b3 with _ b3;cases b3
 .rw[e,b2] at b1;injection b1 with b1;injection b1 with _ b1;cases b1
 .rw[e,b4] at b1;injection b1 with b1;injection b1 with _ b1;cases b1
 rw[e,b4] at b2;injection b2 with b2;injection b2 with _ b2;cases b2
def aV.arg(R:aV)(l:Nat->Nat)(w:World)(b:Nat->Value)(a:List (yB×yB)):fm:=⟨l,w,R.sp,R.sb,R.tw,R.D,R.N,b,a,R.kn⟩
def dh.start{l w R b a}(h:dh l w R b a):SC (R.arg l w b a) (Wm (R.arg l w b a) (bG R.m)) 0 [] [] w:=SC.start h.x
def dh.Kj{l w w' R b a P K e c}(h:dh l w R b a)(d:SC (R.arg l w b a) P K e c w'):∃l',Mv (Of R.sp) l l' w w'/\iy l' w' R:=by
 let⟨n1,n2,_⟩:=h.ne;let⟨l',f,m,_,_,g,_⟩:=d;exact⟨l',m,h.y.move m (mr _) (lN n1) (lN n2)⟩
def dh.after{l w w' R d b P K j e}(h:dh l w R d b)(f:SC (R.arg l w d b) P K j e w')(g:∀X r,P X r->R.wk b X r):∃l' c,Mv (Of R.sp) l l' w w'/\dh l' w' {R with D:=c,N:=R.N+K} d b:=by
 let⟨n1,n2,_⟩:=h.ne;let⟨l',c,m,_,_,i,_⟩:=f;have a:=h.y.move m (mr _) (lN n1) (lN n2);exact⟨l',c,m,⟨⟨⟨a.ai,a.lb,a.pm,a.lm,a.pb,a.lv,a.sn,a.ls,a.sm,a.tn,a.lt,a.nm,a.nb,a.ns⟩,i.ev g⟩,h.k⟩⟩
def dh.below{l w w' R c b}(h:dh l w R c b)(a:yW w w'):dh (gv l w.heap.size) w' R c b:=
 ⟨⟨h.y.move (Mv.below (λ_=>False) l a) id id id,h.x.below a⟩,h.k⟩
def dh.cells{l w w' R c b P K f d}(h:dh l w R c b)(e:SC (R.arg l w c b) P K f d w'):(yc w' R.rb 0 (pV (qA R.sb))/\yc w' R.rb 1 (pV (qA R.sp))/\yc w' R.rb 2 R.mv/\yc w' R.rb 3 R.bv/\yc w' R.rb 4 R.sv/\yc w' R.rb 5 (pV (qA R.tt))/\yc w' R.tt 0 (bV R.yes))/\gw w' R.mv R.m/\gw w' R.bv R.base/\gQ w' R.sv R.seen:=by
 let⟨l',m,a⟩:=h.Kj e;exact⟨a.cells,a.pm,a.pb,qd a.sn⟩
def zg{w:World}{rb i d c b}(c5:yc w rb 5 (pV (qA i)))(c4:yc w rb 4 c)(d0:yc w i 0 (bV d))(g:gQ w c b)(l:b.length<1000000000)(hs:∀s∈b,s.size<=1073741824)(T:aB w):yC 53 #[pV (qA rb)] w λe w'=>e=rV (bV (d || bY b b.length))/\yW w w':=by
 have k:yH (yC 45 #[c] w λe w'=>e=rV (bV (bY b b.length))/\yW w w'):=pk w c b g (by omega) (λp h=>by have:=hs p h;unfold maxLen;omega) T;obtain⟨a,cap,rfl,_⟩:=g;clear T hs;generalize b.length=NS at*;generalize bY b NS=CK at*;cases d with
 |true=>
  go_enter func53,ntmps53
  go_wp2;go_ret;exact⟨rfl,Un _ _⟩
 |false=>
  go_enter func53,ntmps53
  go_wp2_with fail
  apply k.m;rintro e w1⟨rfl,f⟩;have j:=aa f;clear f;go_wp2;go_ret;exact⟨rfl,j.o⟩
def Cb(A:fm)(e:Ending):Prop:=∃b:Bool,e=rV (bV b)/\(¬A.k.ok->b=true)
def dh.may{l w w' R b a P K f d}(h:dh l w R b a)(c:SC (R.arg l w b a) P K f d w'):yC 53 #[pV (qA R.rb)] w' λe w2=>Cb (R.arg l w b a) e/\SC (R.arg l w b a) P K f d w2:=by
 let⟨⟨_,_,_,_,c4,c5,d0⟩,_,_,i⟩:=h.cells c;exact(zg c5 c4 d0 i h.y.ns h.y.sm c.bz).mono λ_ _⟨h1,h2⟩=>⟨⟨_,h1,λg=>by
  cases hy:R.yes with
  |true=>rfl
  |false=>
   cases hc:bY R.seen R.seen.length with
   |true=>rfl
   |false=>exact absurd ⟨hy,hc⟩ g⟩,c.below h2⟩
structure xZ(A:fm)(rb tt:Nat)(mv bv sv:Value)(yes:Bool)(m base:List aH)(seen:List yB):Prop where
 cells:∀P K ts bx W,SC A P K ts bx W->(W.cell? ⟨rb,0,none⟩=some (pV (qA A.sb))/\W.cell? ⟨rb,1,none⟩=some (pV (qA A.sp))/\W.cell? ⟨rb,2,none⟩=some mv/\W.cell? ⟨rb,3,none⟩=some bv/\W.cell? ⟨rb,4,none⟩=some sv/\W.cell? ⟨rb,5,none⟩=some (pV (qA tt))/\W.cell? ⟨tt,0,none⟩=some (bV yes))/\gw W mv m/\gw W bv base/\gQ W sv seen
 may:∀P K ts bx W,SC A P K ts bx W->yC 53 #[pV (qA rb)] W fun e w2=>Cb A e/\SC A P K ts bx w2
 nm:m.length<1000000000
 nb:base.length<1000000000
def dh.facts{l w R b a}(h:dh l w R b a):xZ (R.arg l w b a) R.rb R.tt R.mv R.bv R.sv R.yes R.m R.base R.seen:=
 ⟨λ_ _ _ _ _ hS=>h.cells hS,λ_ _ _ _ _ hS=>h.may hS,h.y.nm,h.y.nb⟩
def Jw(W){a:yB}(b:a.size<=1073741824):jK W (lz a):=by
 refine⟨b,?_,?_,?_,eH.nil W,?_,λp c=>absurd c Vs⟩
 .show Rg 0;exact⟨by decide,by decide⟩
 .show(⟨#[]⟩:yB).size<=_;decide
 .show cZ.size<=_;rw[show cZ.size=32 from dz _];decide
 show 0<4000000000;decide
def qy{W v m}{addr:yB}(h:gw W v m)(a:addr.size<=1073741824):jK W (bT m addr).1:=by
 unfold bT;have key:∀(l:List aH) x,dH l addr=some x->x∈l:=by
  intro l;induction l with
  |nil=>intro x e;cases e
  |cons y t ih=>
   intro x e;unfold dH at e;split at e
   .cases e;exact Uk ..
   exact Ul _ (ih x e)
 cases hf:dH m addr with
 |some x=>exact h.2 x (key m x hf)
 |none=>exact Jw W a
def SC.find{A P K c a W}(b:SC A P K c a W){v m}(h:gw W v m)(d:m.length<1000000000)(addr):yC 52 #[v,sV addr] W λe w'=>e=rV (tV #[iR (bT m addr).1,bV (bT m addr).2])/\SC A P K c a w':=
 (GH W v m addr h (by omega) b.bz).mono λ_ _⟨h1,h2⟩=>⟨h1,b.below h2⟩
def Kf(A:fm)(M:Mp)(m:List aH)(addr slot:yB):Prop:=A.k.ok->addr.size=20->aY M (ag addr)=dU (bT m addr).1/\(M (ag addr)).isSome=(bT m addr).2/\0<=(bT m addr).1.n/\(slot.size≠0->slot.size=32/\∀v c,iU (bD (aY M (ag addr)).ss (ag slot)) v c->v=bD (bT m addr).1.az slot/\c=0)
def TG{A rb tt mv bv sv C9 m base C8 M}(F:xZ A rb tt mv bv sv C9 m base C8){K d j w}(U:SC A (Wm A M) K d j w)(addr slot:yB)(ha:addr.size<=1073741824)(D1:slot.size<=1073741824)(hP:Kf A M m addr slot)(hN:A.N+K+1000<4000000000):yC 24 #[pV (qA rb),sV addr,sV slot] w λe w'=>e=rV (bV true)/\SC A (Wm A M) (K+800) d j w':=by
 have B7:yH (yC 51 #[pV (qA A.sp),sV addr] w λe w'=>(j6 (Kh A M addr) e/\(addr.size≠20->∃v,e=rV (tV #[v,bV false,i6 2])))/\SC A (Wm A M) (K+250) d j w'):=TQ U addr (by unfold maxLen;omega);have C4:yH (∀f W,SC A (Wm A M) (K+250) d f W->yC 54 #[pV (qA A.sp),sV addr,sV slot] W λe w'=>(∃(v:yB)(c:Nat),e=rV (tV #[sV v,i6 c])/\(addr.size=20->slot.size=32->A.k.ok->iU (bD (aY M (ag addr)).ss (ag slot)) v c))/\SC A (Wm A M) (K+800) d f w'):=λf W o=>(TU o addr slot (by unfold maxLen;omega) (by unfold maxLen;omega) (by omega)).mono λ_ _⟨⟨v,c,h1,_,h3,h2⟩,_⟩=>⟨⟨v,c,h1,h3⟩,h2.mono (by omega)⟩
 have Z:yH (∀K' f W,SC A (Wm A M) K' d f W->yC 53 #[pV (qA rb)] W λe w2=>Cb A e/\SC A (Wm A M) K' d f w2):=λK' f W o=>F.may _ K' d f W o
 have R:yH (∀f W,SC A (Wm A M) (K+250) d f W->yC 52 #[mv,sV addr] W λe w'=>e=rV (tV #[iR (bT m addr).1,bV (bT m addr).2])/\SC A (Wm A M) (K+250) d f w'):=λf W o=>o.find (F.cells _ _ _ _ _ o).2.1 F.nm addr
 have Y:yH (∀K' f W,SC A (Wm A M) K' d f W->yC 35 #[(bT m addr).1.sv,sV slot] W λe w'=>e=rV (sV (bD (bT m addr).1.az slot))/\w'=W):=λK' f W o=>by
  have k:=qy (F.cells _ _ _ _ _ o).2.1 ha;exact og W _ _ slot k.at_ (by have:=k.len;omega)
 have Q:yH (∀K' f W,SC A (Wm A M) K' d f W->yc W rb 1 (pV (qA A.sp))/\yc W rb 2 mv):=λK' f W o=>⟨(F.cells _ _ _ _ _ o).1.2.1,(F.cells _ _ _ _ _ o).1.2.2.1⟩
 obtain⟨c1,_⟩:=Q.o _ _ _ U;obtain⟨ma,mc,B3⟩:=(F.cells _ _ _ _ _ U).2.1.form;rw[B3] at R Q;have D0:=F.nm;have A7:yH (∀a i c,Kh A M addr a i c->addr.size=20->A.k.ok->c=0/\i=(bT m addr).2/\(a.n:Int)=(bT m addr).1.n/\a.aI=(bT m addr).1.aI/\a.code=(bT m addr).1.code):=λa i c P h20 g=>by
  obtain⟨e1,e2,e3⟩:=P h20 g;obtain⟨p1,p2,p3,_⟩:=hP g h20;refine⟨e3,e2.trans p2,?_,?_,?_⟩
  .rw[e1,p1];show((bT m addr).1.n.toNat:Int)=_;omega
  .rw[e1,p1];rfl
  rw[e1,p1];rfl
 have A8:yH (∀v c,(addr.size=20->slot.size=32->A.k.ok->iU (bD (aY M (ag addr)).ss (ag slot)) v c)->slot.size≠0->addr.size=20->A.k.ok->c=0/\v=bD (bT m addr).1.az slot):=λv c P h0 h20 g=>by
  obtain⟨_,_,_,p4⟩:=hP g h20;obtain⟨p5,p6⟩:=p4 h0;obtain⟨e1,e2⟩:=p6 v c (P h20 p5 g);exact⟨e2,e1⟩
 clear hP;generalize (bT m addr).2=g at*;generalize (bT m addr).1=h at*;obtain⟨E,l,p,t,x,y,xl⟩:=h;unfold iR aH.sv at R;unfold aH.sv at Y;simp only at R Y A7 A8;generalize bD xl slot=HV at*;generalize xl.length=XL at*;generalize m.length=MN at*;clear F U B3;go_enter func24,ntmps24
 go_wp2_with fail
 apply B7.m;rintro e w1⟨⟨⟨a,i,c,rfl,C6,P,B6⟩,B4⟩,A9⟩;have z:yH (addr.size=20->A.k.ok->c=0/\i=g/\(a.n:Int)=l/\a.aI=p/\a.code=t):=A7.o a i c B6;have C0:yH (addr.size≠20->c=2/\i=false):=λh=>by
  obtain⟨v,e⟩:=B4 h;injection e with e;injection e with e;have e1:=congrArg (λq:Array Value=>q[2]?) e;have e2:=congrArg (λq:Array Value=>q[1]?) e;simp at e1 e2;exact⟨by omega,e2⟩
 clear B6 B4;obtain⟨n,r,D,u⟩:=a;simp only at z;have H:=A9.box #[i6 n,sV r,sV D,sV u] 103;obtain⟨T,J⟩:=yX (w1.alloc (.cells #[i6 n,sV r,sV D,sV u] 103));rw[<-J] at H;have C2:yH (SC A (Wm A M) (K+250) d ((w1.heap.size,.cells #[i6 n,sV r,sV D,sV u] 103 (0,0))::j) T):=H;have C3:yH (SC A (Wm A M) (K+800) d j T):=H.unbox.mono (by omega);obtain⟨d1,d2⟩:=Q.o _ _ _ H;unfold cE;clear A9 H C6 P c1;by_cases h20:addr.size=20
 .have C5:(addr.size:Int)=20:=by omega
  rw[J] at d1 d2;go_wp2_with fail
  rw[<-J];clear J d1 d2;refine(R.o _ _ C2.o).mono ?_;rintro e w3⟨rfl,B0⟩;have C:=B0.box #[sV E,i6 l,sV p,sV t,lV x XL y] 107;obtain⟨B,A3⟩:=yX (w3.alloc (.cells #[sV E,i6 l,sV p,sV t,lV x XL y] 107));rw[<-A3] at C;have A0:yH (SC A (Wm A M) (K+250) d ((w3.heap.size,.cells #[sV E,i6 l,sV p,sV t,lV x XL y] 107 (0,0))::(w1.heap.size,.cells #[i6 n,sV r,sV D,sV u] 103 (0,0))::j) B):=C;obtain⟨d1,d2⟩:=Q.o _ _ _ C;have B2:gf B w1.heap.size 103 (i6 n) (sV r) (sV D) (sV u):=(C.held _ (Ul _ (Uk ..))).1;have O:jt B w3.heap.size 107 (sV E) (i6 l) (sV p) (sV t) (lV x XL y):=C.at_;obtain⟨⟨k0,k1,k2,k3⟩,_⟩:=B2.cells;obtain⟨⟨p0,p1,p2,p3,p4⟩,_⟩:=O.cells;clear B0 C B2 O;go_upto_region 5 with fail
  rw[<-A3];clear A3;have z:=z.o h20;have z:yH (A.k.ok->c=0/\i=g/\(n:Int)=l/\r=p/\u=t):=z;go_cut [12] (λv wx=>∃b:Bool,v=bV b/\yH (A.k.ok->b=true)/\wx=B)
  .have A4:((c:Int) == 0)=false\/(((c:Int) == 0)=true/\(i == g)=false)\/(((c:Int) == 0)=true/\(i == g)=true/\((n:Int) == l)=false)\/(((c:Int) == 0)=true/\(i == g)=true/\((n:Int) == l)=true/\(r.toList == p.toList)=false)\/(((c:Int) == 0)=true/\(i == g)=true/\((n:Int) == l)=true/\(r.toList == p.toList)=true):=by
    cases ((c:Int) == 0)<;>cases (i == g)<;>cases ((n:Int) == l)<;>cases (r.toList == p.toList)<;>simp
   rcases A4 with h1|⟨h1,h2⟩|⟨h1,h2,h3⟩|⟨h1,h2,h3,h4⟩|⟨h1,h2,h3,h4⟩;all_goals
    go_wp2;go_meet;exact⟨_,rfl,(show A.k.ok->_=true from λq=>by obtain⟨e1,e2,e3,e4,e5⟩:=z.o q;subst e1 e2 e3 e4 e5;first| (simp at h1;done) | (simp at h2;done) | (simp at h3;done) | (simp at h4;done) |simp),rfl⟩
  obtain⟨b,rfl,A5,rfl⟩:=hcut;cases b with
  |false=>
   have G:yH (¬A.k.ok):=λq=>by have:=A5.o q;cases this
   clear A5;go_wp2_with fail
   refine(Z.o _ _ _ A0.o).mono ?_;rintro e w5⟨⟨b5,rfl,B1⟩,s⟩;have B8:yH (b5=true):=B1 G.o;clear B1;have S:yH (SC A (Wm A M) (K+800) d j w5):=s.unbox.unbox.mono (by omega);clear s;go_wp2;go_ret;exact⟨by rw[B8.o];rfl,S.o⟩
  |true=>
   by_cases V:slot.size=0
   .have hE:slot.toList.isEmpty=true:=by rw[g7];exact V
    have S:yH (SC A (Wm A M) (K+800) d j wc):=A0.o.unbox.unbox.mono (by omega);go_wp2;go_ret;exact⟨rfl,S.o⟩
   have hE:slot.toList.isEmpty=false:=by rw[iv];exact V
   have C1:yH (slot.size≠0):=V;clear V;go_wp2_with fail
   refine(C4.o _ _ A0.o).mono ?_;rintro e w5⟨⟨v5,c5,rfl,B5⟩,s⟩;have A6:yH (A.k.ok->c5=0/\v5=HV):=A8.o v5 c5 B5 C1.o h20;clear B5;have S:yH (SC A (Wm A M) (K+800) d ((w3.heap.size,.cells #[sV E,i6 l,sV p,sV t,lV x XL y] 107 (0,0))::(w1.heap.size,.cells #[i6 n,sV r,sV D,sV u] 103 (0,0))::j) w5):=s;have A1:yH (SC A (Wm A M) (K+800) d j w5):=s.unbox.unbox;have O:jt w5 w3.heap.size 107 (sV E) (i6 l) (sV p) (sV t) (lV x XL y):=s.at_;obtain⟨⟨q0,q1,q2,q3,q4⟩,_⟩:=O.cells;have B9:yH (yC 35 #[lV x XL y,sV slot] w5 λe w'=>e=rV (sV HV)/\w'=w5):=Y.o _ _ _ s;clear s O k0 k1 k2 k3 p0 p1 p2 p3 p4 d1 d2;go_wp2_with fail
   apply B9.m;rintro e wx⟨rfl,C7⟩;subst C7;have A4:((c5:Int) == 0)=false\/(((c5:Int) == 0)=true/\(v5.toList == HV.toList)=false)\/(((c5:Int) == 0)=true/\(v5.toList == HV.toList)=true):=by
    cases ((c5:Int) == 0)<;>cases (v5.toList == HV.toList)<;>simp
   rcases A4 with h1|⟨h1,h2⟩|⟨h1,h2⟩
   .have G:yH (¬A.k.ok):=λq=>by obtain⟨e1,_⟩:=A6.o q;subst e1;simp at h1
    go_wp2_with fail
    refine(Z.o _ _ _ A1.o).mono ?_;rintro e w7⟨⟨b7,rfl,L⟩,I⟩;have X:yH (b7=true):=L G.o;clear L;have A2:yH (SC A (Wm A M) (K+800) d j w7):=I;clear I;go_wp2;go_ret;exact⟨by rw[X.o];rfl,A2.o⟩
   .have G:yH (¬A.k.ok):=λq=>by obtain⟨_,e2⟩:=A6.o q;subst e2;simp at h2
    go_wp2_with fail
    refine(Z.o _ _ _ A1.o).mono ?_;rintro e w7⟨⟨b7,rfl,L⟩,I⟩;have X:yH (b7=true):=L G.o;clear L;have A2:yH (SC A (Wm A M) (K+800) d j w7):=I;clear I;go_wp2;go_ret;exact⟨by rw[X.o];rfl,A2.o⟩
   go_wp2;go_ret;exact⟨rfl,A1.o⟩
 have C5:¬(addr.size:Int)=20:=by omega
 obtain⟨rfl,rfl⟩:=C0.o h20;clear d1 d2;go_wp2;go_ret;(try rw[<-J])
 exact⟨rfl,C3.o⟩
def qN.bt{l l' w b sb c t S}(h:qN l w b sb c t S)(d:∀k,k<w.heap.size->Of b (l k)->l' k=l k):qN l' w b sb c t S:=
 ⟨h.tr,h.loose,(d c h.tr.lt ⟨_,h.lt⟩).trans h.lt,λx a=>(d x (h.tr.own x a).2.2 ⟨_,h.lS x a⟩).trans (h.lS x a)⟩
def jX.bt{l l' w e sb m D n i j f}(h:jX l w e sb m D n i j f)(d:∀k,k<w.heap.size->Of e (l k)->l' k=l k):jX l' w e sb m D n i j f:=
 {ai:=h.ai
  jA:=(d _ h.ai.lt ⟨_,h.jA⟩).trans h.jA
  jB:=λc g a b=>(d g ((h.ai.own c a).lt g b).2 ⟨_,h.jB c g a b⟩).trans (h.jB c g a b)
  ie:=h.ie
  gI:=h.gI
  dJ:=h.dJ
  lO:=h.lO
  gy:=λp o=>(h.gy p o).bt d}
def SX.bt{l l' w a sb d D N e c k P}(h:SX l w a sb d D N e c k P)(j:∀k,k<w.heap.size->Of a (l k)->l' k=l k)(h0:∀k,k<w.heap.size->l k=0->l' k=0)(hs:∀k,k<w.heap.size->l k=pr sb 0->l' k=pr sb 0):SX l' w a sb d D N e c k P:=by
 let⟨p,n,o,f,X,g,m⟩:=h.st;exact⟨⟨p,n,o,f,X,g.bt j,m⟩,h.jw,λx b=>hs x (h.jw.st.eM x b) (h.ls x b),h.bz,λk i=>h0 k (by have:=h.bz.size;omega) (h.l3 k i),h.ne⟩
def oH.bt{l l' w v hs}(h:oH l v hs)(H:gw w v hs)(h0:∀k,k<w.heap.size->l k=0->l' k=0):oH l' v hs:=
 ⟨λg a=>h0 g (H.1.lt g a).2 (h.1 g a),λx b g a=>h0 g ((H.2 x b).at_.lt g a).2 (h.2 x b g a)⟩
def iy.bt{l l' w R}(h:iy l w R)(h0:∀k,k<w.heap.size->l k=0->l' k=0)(h1:∀k,k<w.heap.size->l k=pr R.rb 0->l' k=pr R.rb 0)(h2:∀k,k<w.heap.size->l k=pr R.tt 0->l' k=pr R.tt 0):iy l' w R:=
 ⟨h.ai,h1 _ h.jm h.lb,h.pm,h.lm.bt h.pm h0,h.pb,h.lv.bt h.pb h0,h.sn,λg a=>h1 g (h.sn.lt g a).2 (h.ls g a),h.sm,h.tn,h2 _ h.qj h.lt,h.nm,h.nb,h.ns⟩
def dh.JG{l w w' R us ps P K ts bx}(h:dh l w R us ps)(hS:SC (R.arg l w us ps) P K ts bx w'):∃l' D',Mv (Of R.sp) l l' w w'/\pK l' w' {R with D:=D',N:=R.N+K} us ps P/\∀b∈bx,l' b.1=0:=by
 let⟨n1,n2,_⟩:=h.ne;let⟨l',D',m,_,_,hx,h3⟩:=hS;have hy:=h.y.move m (mr _) (lN n1) (lN n2);let⟨L,hL⟩:=yX (nD (R.arg l w us ps));have A3:L=pr (R.sp+R.sb+1) 7:=hL;have A1:∀a b,b≠7->pr a b≠L:=λa b hb e=>by rw[A3] at e;exact hb (fS e).2
 have A5:∀b,pr R.sp b≠L:=λb e=>by rw[A3] at e;have:=(fS e).1;omega
 have A4:(0:Nat)≠L:=λe=>by have:=iu (R.sp+R.sb+1) 7;omega
 let⟨l2,A2⟩:=yX (λk=>if w.heap.size<=k/\l' k=L then 0 else l' k);have A0:∀k x,x≠L->l' k=x->l2 k=x:=λk x hx e=>by rw[A2];simp only;rwa[Ui (λhh=>hx (e.symm.trans hh.2))]
 have A6:∀k,k<w.heap.size->l2 k=l' k:=λk hk=>by rw[A2];simp only;rw[Ui (λhh=>by omega)]
 refine⟨l2,D',⟨m.os,m.tape,m.output,m.size,λk hk=>(A6 k hk).trans (m.bt k hk),m.ai⟩,⟨?_,hx.bt (λk _⟨b,e⟩=>(A0 k _ (A5 b) e).trans e.symm) (λk _ e=>A0 k 0 A4 e) (λk _ e=>A0 k _ (A1 _ 0 (by decide)) e)⟩,λb hb=>?_⟩
 .have:=hy.bt (l':=l2) (λk _ e=>A0 k 0 A4 e) (λk _ e=>A0 k _ (A1 _ 0 (by decide)) e) (λk _ e=>A0 k _ (A1 _ 0 (by decide)) e);exact⟨this.ai,this.lb,this.pm,this.lm,this.pb,this.lv,this.sn,this.ls,this.sm,this.tn,this.lt,this.nm,this.nb,this.ns⟩
 let⟨_,b2,b3⟩:=h3 b hb;rw[A2];simp only;rw[Uj ⟨b3,by rw[b2,hL]⟩]
def pK.cQ{l w w1 R s r P}(h:pK l w R s r P)(o:yW w w1){d}{i:List aH}(q:w1.ownsRow w.heap.size 107 5 d i.length (g9 i))(f:∀x∈i,jK w x/\∀g,x.sv.ownBlock=some g->l g=0)(p:i.length<1000000000):∃l',Mv (λx=>x=pr R.rb 0) l l' w (w1.setCell ⟨R.rb,2,none⟩ d)/\pK l' (w1.setCell ⟨R.rb,2,none⟩ d) {R with mv:=d,m:=i} s r P:=by
 let⟨n1,n2,n3,n4,n5⟩:=h.ne;have h3:=h.x.bz.size;have a:pK (gv l w.heap.size) w1 R s r P:=⟨h.y.move (Mv.below (λ_=>False) l o) id id id,h.x.below o⟩
 have C:=h.y.jm;have e1:∀k,k≠R.rb->(w1.setCell ⟨R.rb,2,none⟩ d).heap[k]? =w1.heap[k]? :=λk f=>UL _ _ _ k f
 have e2:(w1.setCell ⟨R.rb,2,none⟩ d).heap[R.rb]? =some (.cells #[pV (qA R.sb),pV (qA R.sp),d,R.bv,R.sv,pV (qA R.tt)] 65 (0,0)):=by
  rw[U7 w1 R.rb 2 _ _ (0,0) _ a.y.ai,Vk w1 R.rb _ _ _ _ a.y.ai];rfl
 have A:(w1.setCell ⟨R.rb,2,none⟩ d).heap.size=w1.heap.size:=by simp
 have m1:Mv (λx=>x=pr R.rb 0) (gv l w.heap.size) (gv l w.heap.size) w1 (w1.setCell ⟨R.rb,2,none⟩ d):=⟨rfl,rfl,rfl,by rw[A];exact Ug _,λ_ _=>rfl,λk f p=>e1 k λe=>p (by rw[e];exact a.y.lb)⟩
 have p0:=iu R.rb 0;refine⟨gv l w.heap.size,((Mv.below (λ_=>False) l o).mono λ_ j=>j.elim).trans m1,⟨?_,a.x.move m1 (λe=>by omega) (λe=>n4 (fS e).1.symm) λb e=>n1 (fS e).1⟩⟩;have t:=a.y.pb.mv a.y.lv m1 (λe=>by omega);exact
  {ai:=e2
   lb:=a.y.lb
   pm:=⟨nj (cM q λg c=>e1 g (by have:=(q.lt g c).1;omega)) (by omega),λx j=>by
    have k:=(f x j).1;exact⟨k.addr,k.n,k.aI,k.code,cM (k.at_.below o) λg c=>e1 g (λe=>by
     have z:=(f x j).2 g c;rw[e,h.y.lb] at z;omega),k.len,k.small⟩⟩
   lm:=⟨λg c=>ou (q.lt g c).1,λx j g c=>(kH (((f x j).1.at_).lt g c).2).trans ((f x j).2 g c)⟩
   pb:=t.1
   lv:=t.2
   sn:=cM a.y.sn λg c=>e1 g (λe=>by
    subst e;rcases a.y.sn.2 with⟨h1,_⟩|⟨u,cap,B,h1,_,h2,_⟩
    .rw[show({R with mv:=d,m:=i}:aV).sv=R.sv from rfl,h1] at c;simp[Value.ownBlock] at c
    have v:R.rb=u:=by
     rw[show({R with mv:=d,m:=i}:aV).sv=R.sv from rfl,h1] at c;simp[Value.ownBlock] at c;exact c.symm
    rw[<-v,a.y.ai] at h2;injection h2 with h2;injection h2 with _ h2;cases h2)
   ls:=a.y.ls
   sm:=a.y.sm
   tn:=(e1 _ (λe=>n3 e.symm)).trans a.y.tn
   lt:=a.y.lt
   nm:=p
   nb:=a.y.nb
   ns:=a.y.ns}
def BF{l w R g f}(h:dh l w R g f){addr slot:yB}(i:addr∈R.seen)(hs:slot.size=0\/(slot.size=32/\slot∈R.seen)):Kf (R.arg l w g f) (bG R.m) R.m addr slot:=λb h20=>by
 have b:R.de:=b
 have hi:=b.inj
 have e:=(h.k b).1
 have d:=Hd hi i (hs:=R.m) λx a=>(e.each x a).1.addr
 have j:∀{m:List aH} {x:aH},dH m addr=some x->x∈m:=by
  intro m;induction m with
  |nil=>intro x h;cases h
  |cons y t ih=>
   intro x h;have h:(if y.addr=addr then some y else dH t addr)=some x:=h;split at h
   .cases h;exact Uk ..
   exact Ul _ (ih h)
 unfold aY bT;cases hq:dH R.m addr with
 |none=>rw[d,hq];refine⟨rfl,rfl,Int.le_refl 0,λh0=>⟨(hs.resolve_left h0).1,λv c a=>?_⟩⟩;exact a.1 rfl
 |some x=>have a:=(e.each x (j hq)).1;rw[d,hq];exact⟨rfl,rfl,a.n.1,λh0=>⟨(hs.resolve_left h0).1,λv c o=>Mk hi a (hs.resolve_left h0).2 o⟩⟩
def By{a}{addr:yB}(h20:addr.size=20)(b:addr∈a):iz a (lz addr):=⟨h20,b,⟨Int.le_refl 0,show(0:Int)<_ by decide⟩,rfl,dz _,List.nodup_nil,(λp c=>by cases c),λ_=>rfl⟩
def bA:List aH->Nat
 | []=>0
 |h::t=>1+h.az.length+bA t
def Rc(a b:List aH):bA (a++b)=bA a+bA b:=by
 induction a with
 |nil=>show bA b=0+bA b;omega
 |cons x t ih=>show 1+x.az.length+bA (t++b)=1+x.az.length+bA t+bA b;omega
def uv(a:List aH):a.length<=bA a:=by
 induction a with
 |nil=>exact Ug _
 |cons x t ih=>show t.length+1<=1+x.az.length+bA t;omega
def xv (a : ByteArray) : ∀ m : List aH, bA (dv m a) + (match dH m a with | some x => 1 + x.az.length | none => 0) ≤ bA m
  | [] => by show bA [] + 0 ≤ bA []; exact Nat.le_refl _
  | x :: t => by
    have ih := xv a t
    by_cases e : x.addr = a
    · have h1 : dv (x :: t) a = dv t a := by unfold dv; rw [List.filter_cons, if_neg]; rw [dV, decide_eq_true e]; decide
      have h2 : dH (x :: t) a = some x := by unfold dH; rw [if_pos e]
      rw [h1, h2]
      show bA (dv t a) + (1 + x.az.length) ≤ 1 + x.az.length + bA t
      have : bA (dv t a) ≤ bA t := by omega
      omega
    · have h1 : dv (x :: t) a = x :: dv t a := by unfold dv; rw [List.filter_cons, if_pos]; rw [dV, decide_eq_false e]; rfl
      have h2 : dH (x :: t) a = dH t a := by (conv => lhs; unfold dH); rw [if_neg e]
      rw [h1, h2]
      show 1 + x.az.length + bA (dv t a) + _ ≤ 1 + x.az.length + bA t
      omega
def Rb(m:List aH)(x:aH)(h:x.az.length<=(bT m x.addr).1.az.length+1):bA (dv m x.addr++[x])<=bA m+2:=by
 have h1:=xv x.addr m;rw[Rc];show _+(1+x.az.length+0)<=_;unfold bT at h;cases hf:dH m x.addr with
 |some y=>rw[hf] at h h1;simp only at h h1;omega
 |none=>rw[hf] at h h1;simp only[lz] at h h1;simp at h;omega
def RT(R:aV)(x:Nat):Prop:=Of R.sp x\/x=pr R.rb 0\/x=pr R.tt 0
structure kM(R R':aV):Prop where
 rb:R'.rb=R.rb
 sb:R'.sb=R.sb
 sp:R'.sp=R.sp
 tw:R'.tw=R.tw
 tt:R'.tt=R.tt
 base:R'.base=R.base
 seen:R'.seen=R.seen
 yes:R'.yes=false->R.yes=false
def kM.refl(R:aV):kM R R:=⟨rfl,rfl,rfl,rfl,rfl,rfl,rfl,id⟩
def kM.trans{R a b}(h:kM R a)(k:kM a b):kM R b:=⟨k.rb.trans h.rb,k.sb.trans h.sb,k.sp.trans h.sp,k.tw.trans h.tw,k.tt.trans h.tt,k.base.trans h.base,k.seen.trans h.seen,λe=>h.yes (k.yes e)⟩
def RT.same{R a}(h:kM R a){x}(b:RT a x):RT R x:=by unfold RT at*;rwa[h.sp,h.rb,h.tt] at b
def eY(l:Nat->Nat)(w:World)(R:aV)(b:Nat->Value)(a:List (yB×yB))(K:Nat)(w':World):Prop:=∃l' R',Mv (RT R) l l' w w'/\dh l' w' R' b a/\kM R R'/\R'.N<=R.N+K/\bA R'.m<=bA R.m+2
def dh.done{l w w' R c a P K K' g d}(h:dh l w R c a)(e:SC (R.arg l w c a) P K g d w')(j:K<=K')(f:∀X r,P X r->R.wk a X r):eY l w R c a K' w':=by
 let⟨l',i,m,b⟩:=h.after e f;exact⟨l',_,m.mono λx b=>.inl b,b,⟨rfl,rfl,rfl,rfl,rfl,rfl,rfl,id⟩,by show R.N+K<=_;omega,by show bA R.m<=_;omega⟩
def OK{w:World}{base e b v n d}(h:w.ownsRow base e b v n d):∃a c,v=lV a n c:=by
 let⟨a,c,e,_⟩:=dM h;exact⟨a,c,e⟩
def pL(l:Nat->Nat)(w:World)(R:aV)(c:Nat->Value)(b:List (yB×yB))(K:Nat)(a:World):Prop:=∃l' R',Mv (RT R) l l' w a/\dh l' a R' c b/\kM R R'/\R'.N<=R.N+K/\bA R'.m<=bA R.m+2
def pL.asks{l w f R d c K}(h:pL l w R d c K f)(addr slot:yB)(j:addr.size<=1073741824)(o:slot.size<=1073741824)(g:addr∈R.seen)(n:slot.size=0\/(slot.size=32/\slot∈R.seen))(s:R.N+K+1000<4000000000):yC 24 #[pV (qA R.rb),sV addr,sV slot] f λe w'=>e=rV (bV true)/\eY l w R d c (K+800) w':=by
 let⟨l',b,m,a,hs,t,p⟩:=h;have:=TG a.facts a.start addr slot j o (BF a (by rwa[hs.seen]) (by rwa[hs.seen])) (by show b.N+0+1000<_;omega);rw[hs.rb] at this;apply this.mono;rintro e w'⟨k,i⟩;let⟨l3,r,m3,q⟩:=a.after i λ_ _ h=>h
 exact⟨k,l3,_,m.trans (m3.mono λx a=>RT.same hs (.inl a)),q,⟨hs.rb,hs.sb,hs.sp,hs.tw,hs.tt,hs.base,hs.seen,hs.yes⟩,by show b.N+(0+800)<=_;omega,p⟩
structure lC(R:aV)(ps:List (yB×yB))(P:GP)(er want:Int)(x:aH):Prop where
 bad:want≠0->er=want/\∀X r,P X r->R.wk ps X r
 may:want=0->er≠0->¬R.de
 bB:want=0->er=0->(∀X r,P X r->R.de->Wd R.kn ps R.tw X (bG (ng R.m x)) gK)/\(R.de->iM R.seen (ng R.m x))
def vV{l w W R f d P K ts bx}(h:dh l w R f d)(Z:SC (R.arg l w f d) P K ts bx W)(B A:Int)(x:aH)(D:jK W x)(B7:∀g,x.sv.ownBlock=some g->(g<w.heap.size/\l g=0)\/∃o,(g,o)∈bx)(C:x.az.length<=(bT R.m x.addr).1.az.length+1)(hA:x.addr∈R.seen)(E:lC R d P B A x)(hN:R.N+K+2000<4000000000)(hm:bA R.m+2<1000000000):yC 65 #[pV (qA R.rb),i6 B,i6 A,iR x] W λe w'=>e=rV (bV true)/\eY l w R f d (K+800) w':=by
 obtain⟨c,p,i,j,q,s,n⟩:=x;have v:=Z.box #[sV c,i6 p,sV i,sV j,lV q n.length s] 107;obtain⟨a,H⟩:=yX (W.alloc (.cells #[sV c,i6 p,sV i,sV j,lV q n.length s] 107));rw[<-H] at v;have F:yW W a:=by rw[H];exact(Un _ _).alloc (Ug _) _
 have B9:yH (A≠0->B=A/\eY l w R f d (K+800) a):=λC=>⟨(E.bad C).1,h.done v (by omega) (E.bad C).2⟩
 have C0:yH (A=0->B≠0->yC 53 #[pV (qA R.rb)] a λe w2=>e=rV (bV true)/\eY l w R f d (K+800) w2):=λC he=>(h.may v).mono λ_ _⟨⟨b,h1,h3⟩,h2⟩=>⟨by rw[h1,h3 (E.may C he)],h.done h2 (by omega) λ_ _ _ I=>absurd I (E.may C he)⟩
 have Q:=h.cells v.drew;have O:=aa (Qz a.drew R.mv R.m _ Q.2.1 (by have:=h.y.nm;omega) D.len v.drew.bz);have A4:yH (A=0->B=0->∀e w2,BU a.drew R.m ⟨c,p,i,j,q,s,n⟩ e w2->∃(a':Option Addr)(z t:Nat),e=rV (lV a' z t)/\w2.cell? ⟨R.rb,2,none⟩=some R.mv/\w2.frozen? ⟨R.rb,2,none⟩=false/\jt w2 W.heap.size 107 (sV c) (i6 p) (sV i) (sV j) (lV q n.length s)/\W.heap.size≠R.rb/\yW a w2/\pL l w R f d K (w2.setCell ⟨R.rb,2,none⟩ (lV a' z t))/\((w2.setCell ⟨R.rb,2,none⟩ (lV a' z t)).cell? ⟨W.heap.size,0,none⟩=some (sV c))):=by
  rintro B5 B2 e w2⟨⟨v',M,rfl,U,A0⟩,hb⟩;have B1:M=dv R.m c\/M=dv R.m c++[⟨c,p,i,j,q,s,n⟩]:=by
   rw[A0];unfold ng;split
   .exact .inl (UU _)
   exact .inr rfl
  obtain⟨a',t,rfl⟩:=OK U;obtain⟨l1,D1,m1,A1,C6⟩:=h.JG v.drew;have G:Below a.drew.heap.size a.drew w2:=hb;have D0:=Q.2.1;have C9:∀y∈M,jK a.drew y/\∀g,y.sv.ownBlock=some g->l1 g=0:=by
   have D3:∀y∈R.m,jK a.drew y/\∀g,y.sv.ownBlock=some g->l1 g=0:=λy u=>⟨D0.2 y u,A1.y.lm.2 y u⟩
   have B4:∀y∈dv R.m c,jK a.drew y/\∀g,y.sv.ownBlock=some g->l1 g=0:=λy u=>D3 y (List.mem_filter.1 u).1
   intro y u;rcases B1 with rfl|rfl
   .exact B4 y u
   rcases UA.1 u with u|u
   .exact B4 y u
   rw[Uo.1 u];refine⟨D.below ⟨F.os,F.tape,F.output,F.size,F.block⟩,λg hg=>?_⟩;rcases B7 g hg with⟨g1,g2⟩|⟨o,U⟩
   .exact(m1.bt g g1).trans g2
   exact C6 (g,o) (Ul _ U)
  have D5:bA M<=bA R.m+2:=by
   rcases B1 with rfl|rfl
   .have:=xv c R.m;show bA (dv R.m c)<=_;omega
   exact Rb R.m ⟨c,p,i,j,q,s,n⟩ C
  have D7:=uv M;obtain⟨l2,m2,B6⟩:=A1.cQ G U C9 (by omega);have A7:yW a w2:=⟨G.os,G.tape,G.output,G.size,G.block⟩
  have D4:=h.y.jm;have D8:R.rb<W.heap.size:=by have:=Z.size;exact Us D4 this
  have D9:=F.size;have A5:jt w2 W.heap.size 107 (sV c) (i6 p) (sV i) (sV j) (lV q n.length s):=by
   have A8:a.heap[W.heap.size]? =some (.cells #[sV c,i6 p,sV i,sV j,lV q n.length s] 107 (0,0)):=v.at_;have D2:W.heap.size<a.heap.size:=(Um.1 A8).1;exact(A7.block _ D2).trans A8
  have C7:=A5.cells.1.1;have A9:w2.heap[R.rb]? =some (.cells #[pV (qA R.sb),pV (qA R.sp),R.mv,R.bv,R.sv,pV (qA R.tt)] 65 (0,0)):=(G.block _ (by show R.rb<a.heap.size;omega)).trans A1.y.ai;refine⟨a',_,t,rfl,?_,US w2 R.rb 2 _ _ A9,A5,by omega,A7,⟨l2,_,(m1.mono λx D=>.inl D).trans (m2.mono λx D=>.inr (.inl D)),⟨⟨B6.y,B6.x.ev λX r hX I=>by have:=(E.bB B5 B2).1 X r hX I;rw[<-A0] at this;exact this⟩,λI=>⟨by have:=(E.bB B5 B2).2 I;rw[<-A0] at this;exact this,(h.k I).2⟩⟩,⟨rfl,rfl,rfl,rfl,rfl,rfl,rfl,id⟩,Ug _,D5⟩,?_⟩
  .rw[Ur w2 R.rb 2 _ _ _ A9];rfl
  rw[Uz (w:=w2) (UL _ _ _ _ (by show W.heap.size≠R.rb;omega))];exact C7
 have B8:yH (∀J,pL l w R f d K J->yC 24 #[pV (qA R.rb),sV c,sV ⟨#[]⟩] J λe w'=>e=rV (bV true)/\eY l w R f d (K+800) w'):=λJ hm=>hm.asks c ⟨#[]⟩ D.addr (by decide) hA (.inl rfl) (by omega)
 obtain⟨⟨_,_,c2,_⟩,_⟩:=h.cells v;obtain⟨ma,mc,T⟩:=Q.2.1.form;have B0:jt a W.heap.size 107 (sV c) (i6 p) (sV i) (sV j) (lV q n.length s):=v.at_;obtain⟨⟨k0,k1,k2,k3,k4⟩,_⟩:=B0.cells;unfold iR aH.sv at O⊢;simp only at O⊢;rw[T] at O c2;have D6:=aa T;rw[T] at A4;clear h Z v Q D B7 C T B0 F E hA;generalize n.length=XL at*;generalize R.m.length=MN at*;by_cases V:A=0
 .subst V;by_cases S:B=0
  .subst S;have A3:=A4.o rfl rfl;have C5:=aa A3;clear A3;go_enter func65,ntmps65
   go_upto_region 5 with fail
   rw[<-H];clear H;go_cut [] (λJ=>yH (pL l w R f d K J)/\J.cell? ⟨W.heap.size,0,none⟩=some (sV c))
   .go_region_with (go_at_call 103;apply O.m;rintro e w2⟨hp,_⟩;obtain⟨a',z,t,rfl,q1,q2,q3,q4,q5,q6,q7⟩:=C5.o e w2 hp;obtain⟨⟨r0,r1,r2,r3,r4⟩,_⟩:=q3.cells;have C2:yH (pL l w R f d K (w2.setCell ⟨R.rb,2,none⟩ (lV a' z t))):=q6;have C3:yH ((w2.setCell ⟨R.rb,2,none⟩ (lV a' z t)).cell? ⟨W.heap.size,0,none⟩=some (sV c)):=q7;clear hp q3 q5 q6 q7)
    all_goals
     go_wp2;go_meet;exact⟨C2,C3.o⟩
   obtain⟨HM,x0⟩:=hcut;go_wp2_with fail
   refine(B8.o _ HM.o).mono ?_;rintro e w5⟨rfl,L⟩;have Y:=aa L;clear L;go_wp2;go_ret;exact⟨rfl,Y.o⟩
  have C8:(B != 0)=true:=by simpa using S
  have A2:=C0.o rfl S;have C1:=aa A2;clear S A2;go_enter func65,ntmps65
  go_wp2_with fail
  rw[<-H];apply C1.m;rintro e w5⟨rfl,L⟩;have Y:=aa L;clear L;go_wp2;go_ret;exact⟨rfl,Y.o⟩
 have C8:(A != 0)=true:=by simpa using V
 obtain⟨B3,A6⟩:=B9.o V;have h1:(B == A)=true:=by simpa using B3
 have C4:=aa A6;clear V B3 A6;go_enter func65,ntmps65
 go_wp2;go_ret;rw[<-H];exact⟨rfl,C4.o⟩
def Eo{l w W R d a K j i}(h:dh l w R d a)(D:SC (R.arg l w d a) (Wm (R.arg l w d a) (bG R.m)) K j i W)(addr:yB)(ha:addr.size<=1073741824)(o:Int)(A0:addr.size=20->o=0)(E:addr.size≠20->o=2)(x:addr∈R.seen)(hN:R.N+K+3000<4000000000)(hm:bA R.m+2<1000000000):yC 69 #[pV (qA R.rb),sV addr,i6 o] W λe w'=>e=rV (bV true)/\eY l w R d a (K+1500) w':=by
 obtain⟨v,I⟩:=yX (Wm (R.arg l w d a) (bG R.m));obtain⟨p,C⟩:=yX (Wm (R.arg l w d a) (dO (bG R.m) addr true λ_=>lP));rw[<-I] at D;obtain⟨⟨_,_,c2,_⟩,H,_⟩:=h.cells D;obtain⟨ma,mc,Y⟩:=H.form;have B:=aa (D.find H h.y.nm addr);have A2:yH (∀W,SC (R.arg l w d a) v K j i W->yC 105 #[pV (qA R.sp),sV addr] W λe w'=>(∃(b:Bool)(c:Nat),e=rV (tV #[bV b,i6 c])/\(addr.size≠20->b=false/\c=2)/\(addr.size=20->R.de->b=(bT R.m addr).2/\c=0))/\SC (R.arg l w d a) p (K+500) j i w'):=λW s=>by
  rw[I] at s;rw[C];refine(MP s addr (by unfold maxLen;omega) (by show R.N+K+500<_;omega)).mono ?_;rintro e w'⟨⟨b,c,h1,h2,h3,h4⟩,_⟩;refine⟨⟨b,c,h1,h2,λh20 f=>?_⟩,h4⟩;obtain⟨e1,e2⟩:=h3 h20 f;exact⟨e1.trans (BF h x (slot:=⟨#[]⟩) (.inl rfl) f h20).2.1,e2⟩
 have A4:yH (∀W,¬R.de->SC (R.arg l w d a) p (K+500) j i W->yC 53 #[pV (qA R.rb)] W λe w2=>e=rV (bV true)/\eY l w R d a (K+1500) w2):=λW Z s=>(h.may s).mono λ_ _⟨⟨b,h1,h3⟩,h2⟩=>⟨by rw[h1,h3 Z],h.done h2 (by omega) λ_ _ _ f=>absurd f Z⟩
 have P:yH (∀W,SC (R.arg l w d a) p (K+500) j i W->yC 94 #[] W λe w'=>e=rV (sV cZ)/\SC (R.arg l w d a) p (K+500) j i w'):=λW s=>(Aq W s.bz).mono λ_ _⟨h1,h2⟩=>⟨h1,s.below h2⟩
 have A3:yH (∀(c:Nat) W,(addr.size≠20->c=2)->(addr.size=20->R.de->c=0)->SC (R.arg l w d a) p (K+500) j i W->yC 65 #[pV (qA R.rb),i6 c,i6 o,gV #[sV addr,i6 0,sV ⟨#[]⟩,sV cZ,lV none 0 0]] W λe w'=>e=rV (bV true)/\eY l w R d a (K+1500) w'):=λc W A6 A7 s=>(vV h s c o (lz addr) (Jw W ha) (λg hg=>by simp[aH.sv,lz,Value.ownBlock] at hg) (by show 0<=_;omega) x (by
  have h20:o=0->addr.size=20:=λe=>Vn λq=>by have:=E q;omega
  have L:o≠0->addr.size≠20:=λq e=>q (A0 e)
  refine⟨λq=>⟨by rw[A6 (L q),E (L q)];rfl,λX r n=>?_⟩,λq1 q2 f=>q2 (by rw[A7 (h20 q1) f];rfl),λq1 _=>⟨λX r n f=>?_,λf=>(h.k f).1.place (By (h20 q1) x)⟩⟩
  .rw[C] at n;have n:R.de->Wd R.kn a R.tw X (dO (bG R.m) addr true λ_=>lP) gK:=n;unfold dO at n;rw[Ui (λz=>L q z.1)] at n;exact n
  rw[C] at n;have n:R.de->Wd R.kn a R.tw X (dO (bG R.m) addr true λ_=>lP) gK:=n;unfold dO at n;rw[Uj ⟨h20 q1,rfl⟩] at n;rw[AE f.inj (h.k f).1 (By (h20 q1) x)];exact n f) (by omega) hm).mono λ_ _⟨h1,l',R',q1,q2,q3,q4,q5⟩=>⟨h1,l',R',q1,q2,q3,by omega,q5⟩
 have A1:yH (∀S K' W,SC (R.arg l w d a) S K' j i W->yc W R.rb 1 (pV (qA R.sp))):=λS K' W s=>(h.cells s).1.2.1
 rw[Y] at c2 B;generalize (bT R.m addr).2=f at*;generalize (bT R.m addr).1=y at*;obtain⟨xa,xn,xb,xc,xp,xq,xl⟩:=y;unfold iR aH.sv at B;simp only at B;generalize xl.length=XL at*;generalize R.m.length=MN at*;generalize cZ=NC at*;clear h D H Y I C x;go_enter func69,ntmps69
 go_wp2_with fail
 apply B.m;rintro e w1⟨rfl,T⟩;have Q:yH (SC (R.arg l w d a) v K j i (w1.alloc (.cells #[sV xa,i6 xn,sV xb,sV xc,lV xp XL xq] 107))):=T.below ((Un _ _).alloc (Ug _) _);have d1:=A1.o _ _ _ Q.o;clear T c2;go_wp2_with fail
 refine(A2.o _ Q.o).mono ?_;rintro e w3⟨⟨b,c,rfl,V,J⟩,U⟩;have M:=A3.o c;have O:yH (∀W,SC (R.arg l w d a) p (K+500) j i W->yC 65 #[pV (qA R.rb),i6 c,i6 o,gV #[sV addr,i6 0,sV ⟨#[]⟩,sV NC,lV none 0 0]] W λe w'=>e=rV (bV true)/\eY l w R d a (K+1500) w'):=λW=>M W (λq=>(V q).2) (λq f=>(J q f).2)
 have A5:yH (o=0->b≠f->¬R.de):=λq1 q2 q3=>q2 (J (Vn λq=>by have:=E q;omega) q3).1
 clear M V J A0 E;have F:=aa U;clear U d1;have A8:(o == 0)=false\/((o == 0)=true/\((c:Int) == 0)=false)\/((o == 0)=true/\((c:Int) == 0)=true):=by
  cases (o == 0)<;>cases ((c:Int) == 0)<;>simp
 rcases A8 with h1|⟨h1,h2⟩|⟨h1,h2⟩;case inr.inr=>cases b<;>cases f<;>(go_wp2_with fail;first
  | (refine(A4.o _ (A5.o (by simpa using h1) (by simp)) F.o).mono ?_;rintro e w5⟨rfl,t⟩;have u:yH (eY l w R d a (K+1500) w5):=t;clear t;go_wp2_with fail;go_ret;exact⟨rfl,u.o⟩)
  | (refine(P.o _ F.o).mono ?_;rintro e w4⟨rfl,A⟩;have G:yH (SC (R.arg l w d a) p (K+500) j i w4):=A;clear A;go_wp2_with fail;refine(O.o _ G.o).mono ?_;rintro e w5⟨rfl,t⟩;have u:yH (eY l w R d a (K+1500) w5):=t;clear t;go_wp2_with fail;go_ret;exact⟨rfl,u.o⟩))
 all_goals
  go_wp2_with fail
  refine(P.o _ F.o).mono ?_;rintro e w4⟨rfl,A⟩;have G:=aa A;clear A;go_wp2_with fail
  refine(O.o _ G.o).mono ?_;rintro e w5⟨rfl,t⟩;have u:=aa t;clear t;go_wp2;go_ret;exact⟨rfl,u.o⟩
def S9(n:Int)(D:Nat)(X:Int)(h0:0<=X)(h1:X<256)(a:0<=n->X=(D:Int))(wr:World):∃c:UInt8,Value.int .u8 X=iV .u8 (c.toNat:Int)/\yH (0<=n->c.toNat=D)/\wr=wr:=by
 refine⟨UInt8.ofNat X.toNat,?_,?_,rfl⟩
 .have h2:X.toNat<256:=by omega
  rw[UInt8.toNat_ofNat_of_lt' h2];congr 1;omega
 show 0<=n->_;intro b;have h2:X.toNat<256:=by omega
 rw[UInt8.toNat_ofNat_of_lt' h2,a b];omega
def lB(n:Int)(k:Nat)(l:yL):Prop:=0<=n->bX l=n.toNat / 256 ^ (8 - k)/\(l≠[]->(l.getD 0 0).toNat≠0)
def lB.next{n:Int}{k l}(h:lB n k l)(f:k<8){c:UInt8}(b:0<=n->c.toNat=n.toNat / 256 ^ (7 - k) % 256)(h0:c.toNat≠0\/l≠[]):lB n (k+1) (l++[c]):=λd=>by
 let⟨h1,h2⟩:=h d
 have b:=b d
 have e:n.toNat / 256 ^ (8 - k)=n.toNat / 256 ^ (7 - k) / 256:=by rw[Nat.div_div_eq_div_mul,<-Nat.pow_succ];congr 2;omega
 refine⟨?_,λ_=>?_⟩
 .rw[zH,h1,e,b,show 8 - (k+1)=7 - k by omega];omega
 cases l with
 |nil=>show c.toNat≠0;exact h0.resolve_right λq=>q rfl
 |cons a t=>exact h2 (by simp)
def lB.skip{n:Int}{k l}(h:lB n k l)(f:k<8){c:UInt8}(a:0<=n->c.toNat=n.toNat / 256 ^ (7 - k) % 256)(h0:c.toNat=0)(d:l=[]):lB n (k+1) l:=λb=>by
 let⟨h1,h2⟩:=h b
 have a:=a b
 have e:n.toNat / 256 ^ (8 - k)=n.toNat / 256 ^ (7 - k) / 256:=by rw[Nat.div_div_eq_div_mul,<-Nat.pow_succ];congr 2;omega
 refine⟨?_,h2⟩
 subst d
 have h1:0=n.toNat / 256 ^ (8 - k):=h1
 rw[show 8 - (k+1)=7 - k by omega]
 show 0=_
 omega
def lB.done{n:Int}{l}(h:lB n 8 l)(b:0<=n)(a:l.length<=8):ae l=ae (bS 8 n.toNat):=by
 let⟨h1,h2⟩:=h b;have h3:=Bo 8 l a h2;rw[<-h3,show be l=bX l from rfl,h1];simp
def Sp{w:World}{base g cap n l}(h:w.ownsRow base 5 1 (lV (qA g) n cap) n (b9 l)):(convert 143 9 (lV (qA g) n cap)).run yP w=.ok (sV (ae l)) w:=by
 have a:l.length=n:=by have:=h.1;simpa [b9] using this
 have:=VA (P:=yP) w 143 5 underlying143 underlying5 g 0 n cap (l.map (λc=>(c.toNat:Int))) (by simpa using a) (λi hi=>by
  have:=fc h (g:=g) rfl i (iV .u8 (l[i].toNat:Int)) (by unfold b9;rw[UK,Uh (by omega)];rfl);rw[Vj,this,Up,UK,Uh (by omega)];rfl) 9 underlying9
 rw[this,oN]
def sU(m:List (yB×yB))(b:Bool):Prop:=cT (ct m)->b=false->cY (ct m)=ae bM->m=[]
def JZ(m:List (yB×yB))(e:Ending):Prop:=∃b:Bool,e=rV (bV b)/\sU m b
def Db{L}(h:cT L){i p}(a:L[i]? =some p):aL (L.take i) p.1 p.2=L.take (i+1):=by
 have d:=(Ux.1 a).1;have f:L[i]=p:=(Ux.1 a).2;unfold aL;have k:=(h.size p (UQ a)).2.1;rw[Ui (by omega),VF,a];congr 1;refine oV _ _ λq g=>?_
 rw[dV,Uv];intro e;let⟨j,c,b⟩:=List.mem_iff_getElem.1 g;rw[UN] at c;rw[List.getElem_take] at b;have:=List.pairwise_iff_getElem.1 h.once j i (by simp;omega) (by simpa using d) (by omega);simp only[List.getElem_map] at this;rw[b,f] at this;exact this e
def yt{L t}(h:cT L)(a:fu L t)(g:L≠[]):t.some/\((ag (ae t.code)=ag ⟨#[128]⟩->ae t.code=⟨#[128]⟩)->cY L≠ae bM):=by
 have hs:t.some:=by
  cases t with
  |nil=>
   cases L with
   |nil=>exact absurd rfl g
   |cons p r=>
    have h1:=a.find (aD p.1) (b8 _);rw[Gf h (Uk ..)] at h1;have h2:=(h.size p (Uk ..)).2.1;have h3:p.2.data.toList=[]:=h1.symm;have h4:p.2.data.toList.length=p.2.size:=by simp
    rw[h3] at h4;simp at h4;omega
  | _=>trivial
 refine⟨hs,λf e=>?_⟩;have c:=jV h 1;have d:=a.all.read hs;have e1:bQ t=bM:=by
  rw[(a.one c (λ_=>True)).root a.ok.aK c.ok.aK];have:=congrArg (λb:yB=>b.data.toList) e;unfold cY at this;simpa [nC] using this
 rw[El a.ok.aK d] at e1;have e2:ag (ae t.code)=ag ⟨#[128]⟩:=by
  have:=congrArg ae e1;unfold bM at this;rwa[mX,mX] at this
 have:=f e2;refine SF d ?_;have:=congrArg (λb:yB=>b.data.toList) this;simpa [nC] using this
def QK(w v m)(y:eH w v m)(hn:m.length<4000000000)(A9:∀p∈m,p.1.size<=1073741824/\p.2.size<=1073741824)(T:aB w):yC 71 #[v] w λe w'=>JZ m e/\yW w w':=by
 have h3:=T.size;obtain⟨a,cap,rfl⟩:=y.form;have C5:yH (yC 9 #[] w λe w'=>e=rV (pV (qA w.heap.size))/\yH (gG 3 w' w.heap.size (λ_=>lV none 0 0) [])/\yH (yW w w')/\w.heap.size<w'.heap.size):=(tN 3 w).mono λe w'⟨h1,h2,h3⟩=>⟨h1,h2,h3,h2.eM _ (.inl rfl)⟩
 have B6:yH (∀W,yW w W->yC 10 #[] W λe w'=>e=rV (sV (ae bM))/\yW W w'):=λW o=>ph W (T.below o)
 have D0:yH (∀W,yW w W->yC 11 #[pV (qA w.heap.size),sV (ae bM)] W λe w'=>∃b u,e=rV (tV #[pV (qA b),i6 0])/\W.heap.size<=b/\fF w' b (qA w.heap.size) u/\At w' .nil (λx=>W.heap.size<=x/\x≠b) (pV u)/\yW W w'):=λW o=>by
  have:=sL W (qA w.heap.size) bM (kE _) (T.below o);have e:bP bM=.nil:=by unfold bP;rw[Uj rfl]
  rw[e] at this;exact this
 have HA:yH (∀k (_:k<m.length),∃p q g,a=some ⟨g,0,none⟩/\(∀W,yW w W->yc W g (k*2) (sV p)/\yc W g (k*2+1) (sV q))/\p.size<=1073741824/\q.size<=1073741824/\m[k]? =some (p,q)):=λk z=>by
  have s:m[k]? =some m[k]:=Uh z;obtain⟨g,e,_,c,d⟩:=y.at_ k _ s;obtain⟨s1,s2⟩:=A9 _ (Vc z);exact⟨_,_,g,e,λW o=>⟨eg o c,eg o d⟩,s1,s2,s⟩
 have D6:yH (∀p W,p.size<=1073741824->yW w W->yC 23 #[sV p] W λe w'=>(∃h:yB,e=rV (sV h)/\h.size=32/\h=ag p)/\yW W w'):=λp W s o=>(ja p (by unfold maxLen;omega) W (T.below o)).mono λ_ _⟨h1,h2⟩=>⟨⟨_,h1,dz _,rfl⟩,h2⟩
 have B4:yH (∀q W,q.size<=1073741824->yW w W->yC 100 #[sV q] W λe w'=>(∃h:yB,e=rV (sV h)/\h.size<=4096/\h=fg q)/\yW W w'):=λq W Z o=>(Jc W q (by omega)).mono λ_ _⟨h1,h2⟩=>⟨⟨_,h1,RY _,rfl⟩,h2⟩
 have D3:yH (∀b W key value (i:Nat),(∃t,Own (λx=>x<w.heap.size) W w.heap.size b t/\(cT (ct m)->fu ((ct m).take i) t))->(ct m)[i]? =some (key,value)->yW w W->key.size<=4096->value.size<=4096->yC 30 #[pV (qA b),sV key,sV value] W λe w'=>(∃c,e=rV (i6 c))/\(∃t,Own (λx=>x<w.heap.size) w' w.heap.size b t/\(cT (ct m)->fu ((ct m).take (i+1)) t))/\yW w w'):=λb W key value i⟨t,hO,A⟩ hi o z hv=>
  (hO.put (T.below o) key value (by unfold maxLen;omega) (by unfold maxLen;omega)).mono λ_ _⟨h1,h2,h3⟩=>⟨⟨_,h1⟩,⟨_,h2,λy=>by
   have H:=y.size _ (UQ hi);rw[<-Db y hi];exact CG (A y) key value H.1 H.2.1 H.2.2⟩,o.trans (h3.below o.size)⟩
 have D2:yH (∀b W key,(∃t,Own (λx=>x<w.heap.size) W w.heap.size b t/\(cT (ct m)->fu (ct m) t))->yW w W->key.size<=40->m≠[]->yC 44 #[pV (qA b),sV key] W λe w'=>(∃(a:Option Addr)(c n:Nat)(i:Int),e=rV (tV #[lV a n c,i6 i])/\(0<n->∃g x,a=some ⟨g,0,none⟩/\yc w' g 0 (sV x)/\x.size<=4096/\sU m (bY [⟨#[128]⟩,x] 2))/\n<=81/\(n=0->sU m false))/\yW w w'):=λb W key⟨t,hO,A⟩ o z hne=>by
  have A7:ct m≠[]:=λe=>hne (List.map_eq_nil_iff.1 e)
  have B0:cT (ct m)->aQ (ah []) t key=t.code::dS 80 (ay t (aD key) 0).1 (ay t (aD key) 0).2.1 (ay t (aD key) 0).2.2.1:=λy=>by
   have hs:=(yt y (A y) A7).1;rw[p8 (A y).all z];show(if t.isNil=true then [] else dm t 0++_)=_;rw[Ui (by rw[(gM _).2 hs];simp)];unfold dm;rw[Uj (.inl rfl)];rfl
  have hK:aA t 0:=by obtain⟨S,vs,h1,_⟩:=hO;exact h1.ok
  obtain⟨f1,f2⟩:=wj (G:=ah []) hK key;refine(hO.prove (T.below o) key (by unfold maxLen;omega)).mono ?_;rintro e w'⟨⟨u,he,D⟩,_,z⟩;obtain⟨a,c,hu,_,_,hf⟩:=dM D;subst hu;refine⟨⟨a,c,_,_,he,λL=>?_,f1,λh0 y=>?_⟩,o.trans (z.below o.size)⟩;rotate_left
  .rw[B0 y] at h0;cases h0
  rcases hf with⟨_,h0,_⟩|⟨g,rfl⟩
  .omega
  have Q:(aQ (ah []) t key)[0]? =some ((aQ (ah []) t key)[0]'L):=Uh L;refine⟨g,ae ((aQ (ah []) t key)[0]'L),rfl,fc D rfl 0 _ (by unfold kT;rw[UK,Q];rfl),?_,λy F e=>?_⟩
  .rw[aN];exact f2 _ (Vc L)
  have e0:(aQ (ah []) t key)[0]'L=t.code:=by
   have h9:(aQ (ah []) t key)[0]? =some t.code:=by rw[B0 y];rfl
   exact Option.some.inj (Q.symm.trans h9)
  rw[e0] at F;exact absurd e ((yt y (A y) A7).2 λe2=>Bv F 1 0 (ae t.code) ⟨#[128]⟩ (by decide) (by decide) rfl rfl e2)
 have B3:yH (∀W u (l:List yB),yW w W->gQ W u l->l.length<=100->(∀p∈l,p.size<=4096)->yC 45 #[u] W λe w'=>e=rV (bV (bY l l.length))/\yW W w'):=λW u l o hu hl hs=>pk W u l hu (by omega) (λp s=>by have:=hs p s;unfold maxLen;omega) (T.below o)
 have D5:yH (∀(i:Nat) p q,m[i]? =some (p,q)->(ct m)[i]? =some (ag p,fg q)):=λi p q h=>by unfold ct;rw[UK,h];rfl
 have D8:yH ((ct m).take m.length=ct m):=by show _=_;rw[<-UM (f:=λp:yB×yB=>(ag p.1,fg p.2))];exact VM
 have C4:yH (m.length≠0->m≠[]):=λh e=>h (by rw[e];rfl)
 have B7:yH (m.length=0->sU m false):=λh _ _ _=>UH.1 h
 clear y A9 T;generalize m.length=N at*;by_cases h0:N=0
 .subst h0;go_enter func71,ntmps71
  go_wp2;go_ret;exact⟨⟨false,rfl,B7.o (by trivial)⟩,Un _ _⟩
 have E4:((N:Int) == 0)=false:=by simp;omega
 have C3:=aa (C4.o h0);clear h0;go_enter func71,ntmps71
 go_wp2_with fail
 apply C5.m;rintro e w1⟨rfl,V,M,E3⟩;go_wp2_with fail
 refine(B6.o w1 M.o).mono ?_;rintro e w2⟨rfl,P⟩;have R:=aa (M.o.trans (P.mono M.o.size));have D1:yH (gG 3 w2 w.heap.size (λ_=>lV none 0 0) []):=V.o.kept λk z=>P.block k (V.o.eM k z)
 have A8:w.heap.size<w2.heap.size:=by have:=P.size;omega
 clear P V;go_wp2_with fail
 refine(D0.o w2 R.o).mono ?_;rintro e w3⟨b,u,rfl,h1,h2,h4,X⟩;have B1:=aa (R.o.trans (X.mono R.o.size));have C6:yH (∃t,Own (λx=>x<w.heap.size) w3 w.heap.size b t/\(cT (ct m)->fu ((ct m).take 0) t)):=⟨_,Fh h3 D1.o A8 h1 h2 h4 X,λ_=>vE⟩
 clear h1 h2 h4 X M E3 A8;go_wp2;go_loopg [7,8] N (λg kv r wr=>∃(i:Nat)(key:yB),g=N - i/\i<=N/\key.size<=32/\kv=sV key/\r=i6 i/\yH (∃t,Own (λx=>x<w.heap.size) wr w.heap.size b t/\(cT (ct m)->fu ((ct m).take i) t))/\yH (yW w wr))
 .exact⟨0,⟨#[]⟩,rfl,by omega,by decide,rfl,rfl,C6,B1⟩
 obtain⟨i,key,hg,hi,E6,rfl,rfl,HO,I⟩:=hrel;have HG:=aa hg;clear hg;by_cases E1:i<N
 .obtain⟨p,q,g,rfl,F,s,Z,A6⟩:=HA.o i E1;have C2:=aa (D5.o i p q A6);clear A6;obtain⟨c0,c1⟩:=F wr I.o;have E0:(i:Int)<(N:Int):=by omega
  have B9:=aa F;have D7:=aa (D6.o p wr s I.o);have HQ:=aa Z;clear F s Z c1;go_wp2_with fail
  apply D7.m;rintro e w4⟨⟨z,rfl,E5,A5⟩,E⟩;have C1:=aa A5;clear A5;have C:=aa (I.o.trans (E.mono I.o.size));have C7:yH (∃t,Own (λx=>x<w.heap.size) w4 w.heap.size b t/\(cT (ct m)->fu ((ct m).take i) t)):=by obtain⟨t,D,A⟩:=HO.o;exact⟨t,D.below E,A⟩
  obtain⟨_,c1⟩:=B9.o w4 C.o;clear E c0;go_wp2_with fail
  refine(B4.o q _ HQ.o C.o).mono ?_;rintro e w5⟨⟨cq,rfl,D9,A2⟩,Y⟩;have B2:=aa A2;clear A2;have J:=aa (C.o.trans (Y.mono C.o.size));have C8:yH (∃t,Own (λx=>x<w.heap.size) w5 w.heap.size b t/\(cT (ct m)->fu ((ct m).take i) t)):=by obtain⟨t,D,A⟩:=C7.o;exact⟨t,D.below Y,A⟩
  clear Y c1;go_wp2_with fail
  refine(D3.o b _ z cq i C8.o (by rw[C2.o,C1.o,B2.o]) J.o (by omega) D9).mono ?_;rintro e w6⟨⟨c6,rfl⟩,A0,K⟩;have C9:=aa A0;have U:=aa K;clear A0 K;go_wp2;go_roundg (N - (i+1))
  .exact⟨i+1,z,rfl,by omega,by omega,rfl,by go_num,C9,U⟩
  have:=HG.o;omega
 obtain rfl:i=N:=by omega
 have E0:¬(i:Int)<(i:Int):=by omega
 have D4:=aa (D2.o b wr key (by obtain⟨t,D,A⟩:=HO.o;rw[D8.o] at A;exact⟨t,D,A⟩) I.o (by omega) C3.o);go_wp2_with fail
 apply D4.m;rintro e w4⟨⟨a4,c4,n4,i4,rfl,h4,E7,A3⟩,E⟩;have B8:=aa A3;clear A3;have C:=aa E;clear E;by_cases H:n4=0
 .subst H;clear h4;go_wp2;go_ret;exact⟨⟨false,rfl,B8.o (by trivial)⟩,C.o⟩
 have E8:((n4:Int) == 0)=false:=by simp;omega
 have E9:(0:Int)<(n4:Int):=by omega
 obtain⟨g,x,rfl,cx,Q,A4⟩:=h4 (by omega);have C0:=aa A4;clear A4;obtain⟨B,O⟩:=yX (w4.alloc (.cells #[sV ⟨#[128]⟩,sV x] 9));have J:yH (yW w B):=by rw[O];exact C.o.alloc C.o.size _
 have A1:gQ B (lV (qA w4.heap.size) 2 2) [⟨#[128]⟩,x]:=by
  refine⟨_,2,rfl,.inr ⟨w4.heap.size,0,rfl,λj p s=>?_⟩⟩;have E2:B.heap[w4.heap.size]? =some (.cells #[sV ⟨#[128]⟩,sV x] 9 (0,0)):=by rw[O];exact UG w4 _
  rw[Vj,Ur B w4.heap.size j _ _ _ E2];match j with
  | 0=>simp at s;subst s;rfl
  | 1=>simp at s;subst s;rfl
  |j+2=>simp at s
 have B5:yH (yC 45 #[lV (qA w4.heap.size) 2 2] B λe w'=>e=rV (bV (bY [⟨#[128]⟩,x] 2))/\yW B w'):=B3.o B _ [⟨#[128]⟩,x] J.o A1 (by show 2<=100;decide) (λp s=>by
  rcases UC.1 s with rfl|s
  .decide
  rw[Uo.1 s];exact Q)
 generalize bY [⟨#[128]⟩,x] 2=CK at*;clear A1 h4 H;go_wp2_with fail
 rw[<-O];clear O;apply B5.m;rintro e w6⟨rfl,K⟩;have U:=aa (J.o.trans (K.mono J.o.size));clear K;go_wp2;go_ret;exact⟨⟨CK,rfl,C0.o⟩,U.o⟩
def SC.fC{A P K c a w}(h:SC A P K c a w){g}(b:g<A.w.heap.size)(h0:A.l g=0):w.heap[g]? =A.w.heap[g]? :=by
 let⟨l',d,m,_⟩:=h;exact m.kept b h0 (mr _)
def SX.kn{l w c sb d D N e b}{k k':Kn}{P}(h:SX l w c sb d D N e b k P)(g:k'.B=k.B)(j:k'.ok->k.ok):SX l w c sb d D N e b k' P:=by
 let⟨q,n,p,f,X,h1,h2,a,i⟩:=h.st;exact⟨⟨q,n,p,f,X,h1,h2,⟨a.fB,a.o,a.tw,λm=>by rw[g];exact a.iG (j m)⟩,i⟩,h.jw,h.ls,h.bz,h.l3,h.ne⟩
def dh.tF{l w R n j}(h:dh l w R n j):Mv (λx=>x=pr R.tt 0) l l w (w.setCell ⟨R.tt,0,none⟩ (bV true))/\dh l (w.setCell ⟨R.tt,0,none⟩ (bV true)) {R with yes:=true} n j:=by
 let⟨n1,n2,n3,n4,n5⟩:=h.ne;have e1:∀k,k≠R.tt->(w.setCell ⟨R.tt,0,none⟩ (bV true)).heap[k]? =w.heap[k]? :=λk d=>UL _ _ _ k d
 have e2:(w.setCell ⟨R.tt,0,none⟩ (bV true)).heap[R.tt]? =some (.cells #[bV true] 61 (0,0)):=by
  rw[U7 w R.tt 0 _ _ (0,0) _ h.y.tn,Vk w R.tt _ _ _ _ h.y.tn];rfl
 have q:(w.setCell ⟨R.tt,0,none⟩ (bV true)).heap.size=w.heap.size:=by simp
 have m:Mv (λx=>x=pr R.tt 0) l l w (w.setCell ⟨R.tt,0,none⟩ (bV true)):=⟨rfl,rfl,rfl,by rw[q];exact Ug _,λ_ _=>rfl,λk d o=>e1 k λe=>o (by rw[e];exact h.y.lt)⟩
 have p0:=iu R.tt 0;have a:¬({R with yes:=true}:aV).de:=λh=>by cases h.1
 refine⟨m,⟨⟨?_,((h.x.move m (λe=>by omega) (λe=>n5 (fS e).1.symm) λb e=>n2 (fS e).1).kn (k':=({R with yes:=true}:aV).kn) rfl λh=>absurd h a).ev λ_ _ _ h=>absurd h a⟩,λh=>absurd h a⟩⟩;have i:=h.y.pm.mv h.y.lm m (λe=>by omega);have f:=h.y.pb.mv h.y.lv m (λe=>by omega);have p:pr R.rb 0≠pr R.tt 0:=λe=>n3 (fS e).1
 exact⟨(e1 _ n3).trans h.y.ai,h.y.lb,i.1,i.2,f.1,f.2,cM h.y.sn λg c=>m.kept (h.y.sn.lt g c).2 (h.y.ls g c) p,h.y.ls,h.y.sm,e2,h.y.lt,h.y.nm,h.y.nb,h.y.ns⟩
def eY.trans{l l1 w w1 w2 R a d c K b}(m:Mv (RT R) l l1 w w1)(hs:kM R a)(j:a.N<=R.N+K)(n:bA a.m<=bA R.m)(h:eY l1 w1 a d c b w2):eY l w R d c (K+b) w2:=by
 let⟨l2,e,m2,i,f,k,o⟩:=h;exact⟨l2,e,m.trans (m2.mono λx g=>RT.same hs g),i,hs.trans f,by omega,by omega⟩
def eY.mono{l w w1 R b a K K'}(h:eY l w R b a K w1)(g:K<=K'):eY l w R b a K' w1:=by
 let⟨l2,c,m2,f,d,i,e⟩:=h;exact⟨l2,c,m2,f,d,by omega,e⟩
def eY.asks{l w c R b a K}(h:eY l w R b a K c)(addr slot:yB)(g:addr.size<=1073741824)(j:slot.size<=1073741824)(d:addr∈R.seen)(i:slot.size=0\/(slot.size=32/\slot∈R.seen))(f:R.N+K+1000<4000000000):yC 24 #[pV (qA R.rb),sV addr,sV slot] c λe w'=>e=rV (bV true)/\eY l w R b a (K+800) w':=pL.asks h addr slot g j d i f
def za{A m K d a w}(h:SC A (Wm A m) K d a w)(addr:yB)(c:addr.size<=maxLen)(x:Int)(g:Rg x)(f:A.N+K+500<4000000000):yC 64 #[pV (qA A.sp),sV addr,i6 x] w λe w'=>kN A addr (decide (0<=x)) (dO m addr (decide (0<=x)) λb=>{b with n:=x.toNat}) (K+500) d a e w'/\True:=by
 by_cases h0:x<0
 .rw[Uv (by omega),show dO m addr false (λb=>{b with n:=x.toNat})=dO m addr false id by unfold dO;rw[Ui (λh=>by cases h.2),Ui (λh=>by cases h.2)]];exact MD h addr c x h0
 obtain⟨n,rfl⟩:∃n:Nat,x=n:=⟨x.toNat,by omega⟩
 let⟨_,h2⟩:=g;rw[Uw (by omega)];exact MC h addr c n (by omega) f
def Ij{l w R f e}(h:dh l w R f e)(b:R.de){s:yB}(h20:s.size=20)(a:s∈R.seen):iz R.seen (bT R.m s).1/\dU (bT R.m s).1=aY (bG R.m) (ag s):=by
 refine⟨?_,(BF h a (slot:=⟨#[]⟩) (.inl rfl) b h20).1.symm⟩;have d:=(h.k b).1;have c:∀{m:List aH} {x:aH},dH m s=some x->x∈m:=by
  intro m;induction m with
  |nil=>intro x h;cases h
  |cons y t ih=>
   intro x h;have h:(if y.addr=s then some y else dH t s)=some x:=h;split at h
   .cases h;exact Uk ..
   exact Ul _ (ih h)
 unfold bT;cases hq:dH R.m s with
 |none=>exact By h20 a
 |some x=>exact(d.each x (c hq)).1
def rT{l:Nat->Nat}{w:World}{R:aV}{j:Nat->Value}{g:List (yB×yB)}(h:dh l w R j g){s:yB}{a:Bool}{f:Ac->Ac}{c:Nat}{e:Int}{x:aH}(hs:x.addr=s)(q1:s.size≠20->c=2)(q2:s.size=20->a=false->c=3)(q3:s.size=20->a=true->R.de->c=0)(w1:s.size≠20->e=2)(w2:s.size=20->a=false->e=3)(w3:s.size=20->a=true->e=0)(i:s.size=20->a=true->R.de->iz R.seen x/\dU x=f (aY (bG R.m) (ag s))):lC R g (Wm (R.arg l w j g) (dO (bG R.m) s a f)) c e x:=by
 have n:(s.size=20/\a=true/\e=0)\/(¬(s.size=20/\a=true)/\e≠0/\(c:Int)=e):=by
  by_cases h20:s.size=20
  .cases a with
   |true=>exact .inl ⟨h20,rfl,w3 h20 rfl⟩
   |false=>exact .inr ⟨(λq=>by cases q.2),by rw[w2 h20 rfl];decide,by rw[q2 h20 rfl,w2 h20 rfl];rfl⟩
  exact .inr ⟨λq=>h20 q.1,by rw[w1 h20];decide,by rw[q1 h20,w1 h20];rfl⟩
 rcases n with⟨a1,a2,a3⟩|⟨a1,a2,a3⟩
 .refine⟨λq=>absurd a3 q,λ_ q d=>q (by rw[q3 a1 a2 d];rfl),λ_ _=>⟨λX r b d=>?_,λd=>(h.k d).1.place (i a1 a2 d).1⟩⟩;have b:R.de->Wd R.kn g R.tw X (dO (bG R.m) s a f) gK:=b;unfold dO at b;rw[Uj ⟨a1,a2⟩] at b;let⟨o1,o2⟩:=i a1 a2 d;rw[AE d.inj (h.k d).1 o1,hs,o2];exact b d
 refine⟨λ_=>⟨a3,λX r b=>?_⟩,λq=>absurd q a2,λq=>absurd q a2⟩;have b:R.de->Wd R.kn g R.tw X (dO (bG R.m) s a f) gK:=b;unfold dO at b;rwa[Ui a1] at b
def SC.mh{A P K c n t x0 x1 x2 x3 x4 a w}(h:SC A P K c ((n,.cells #[x0,x1,x2,x3,x4] t (0,0))::a) w)(d:∀b∈a,b.1≠n)(y)(i:Nat):SC A P K c ((n,.cells ((#[x0,x1,x2,x3,x4]:Array Value).setIfInBounds i y) t (0,0))::a) (w.setCell ⟨n,i,none⟩ y):=by
 refine h.wrote d rfl rfl rfl (by simp) (λk e=>UL _ _ _ k e) ?_;have e0:=h.at_;rw[U7 w n i _ _ (0,0) _ e0,Vk w n _ _ _ _ e0]
def sY(W:World)(n:Nat)(t:TypeId)(x0 x1 x2 x3 x4 x5:Value):Prop:=W.heap[n]? =some (.cells #[x0,x1,x2,x3,x4,x5] t (0,0))
def sY.cells{W n t x0 x1 x2 x3 x4 x5}(h:sY W n t x0 x1 x2 x3 x4 x5):W.cell? ⟨n,0,none⟩=some x0/\W.cell? ⟨n,1,none⟩=some x1/\W.cell? ⟨n,2,none⟩=some x2/\W.cell? ⟨n,3,none⟩=some x3/\W.cell? ⟨n,4,none⟩=some x4/\W.cell? ⟨n,5,none⟩=some x5:=by
 refine⟨?_,?_,?_,?_,?_,?_⟩
 .rw[Ur W n 0 _ _ _ h];rfl
 .rw[Ur W n 1 _ _ _ h];rfl
 .rw[Ur W n 2 _ _ _ h];rfl
 .rw[Ur W n 3 _ _ _ h];rfl
 .rw[Ur W n 4 _ _ _ h];rfl
 rw[Ur W n 5 _ _ _ h];rfl
def II{m a}:(bT m a).1.az.length<=bA m:=by
 have h:=xv a m;unfold bT;cases hf:dH m a with
 |some y=>rw[hf] at h;simp only at h⊢;omega
 |none=>show 0<=_;omega
def Ik{m a}:(bT m a).1.addr=a:=by
 unfold bT;have key:∀(l:List aH) x,dH l a=some x->x.addr=a:=by
  intro l;induction l with
  |nil=>intro x e;cases e
  |cons y t ih=>
   intro x e;unfold dH at e;split at e
   .next hh=>cases e;exact hh
   exact ih x e
 cases hf:dH m a with
 |some x=>exact key m x hf
 |none=>rfl
def Ii{l v m a}(h:oH l v m):∀g,(bT m a).1.sv.ownBlock=some g->l g=0:=by
 unfold bT;have key:∀(l:List aH) x,dH l a=some x->x∈l:=by
  intro l;induction l with
  |nil=>intro x e;cases e
  |cons y t ih=>
   intro x e;unfold dH at e;split at e
   .cases e;exact Uk ..
   exact Ul _ (ih x e)
 cases hf:dH m a with
 |some x=>exact h.2 x (key m x hf)
 |none=>intro g b;simp[aH.sv,lz,Value.ownBlock] at b
def SC.Ef{A P K c n g t x0 x1 x2 x3 x4 y0 y1 y2 y3 y4 o w}(h:SC A P K c [(n,.cells #[x0,x1,x2,x3,x4] t (0,0)),(g,o)] w)(e:g≠n):SC A P K c [(n,.cells #[y0,y1,y2,y3,y4] t (0,0)),(g,o)] (((((w.setCell ⟨n,0,none⟩ y0).setCell ⟨n,1,none⟩ y1).setCell ⟨n,2,none⟩ y2).setCell ⟨n,3,none⟩ y3).setCell ⟨n,4,none⟩ y4):=by
 have a:∀b∈[(g,o)],b.1≠n:=λb d=>by rwa[Uo.1 d]
 exact((((h.mh a y0 0).mh a y1 1).mh a y2 2).mh a y3 3).mh a y4 4
def MX{w:World}{base e i v n j}(h:w.ownsRow base e i v n j):∃bx:List (Nat×Obj),(∀b∈bx,w.heap[b.1]? =some b.2/\base<=b.1)/\(∀g,v.ownBlock=some g->∃o,(g,o)∈bx)/\∀W:World,(∀b∈bx,W.heap[b.1]? =some b.2)->W.ownsRow base e i v n j:=by
 have k:=h;rcases k.2 with⟨rfl,rfl⟩|⟨g,cap,d,rfl,a,c,rest⟩
 .exact⟨[],(λb a=>absurd a Vs),(λg c=>by simp[Value.ownBlock] at c),λW _=>⟨h.1,.inl ⟨rfl,rfl⟩⟩⟩
 refine⟨[(g,.cells d e (0,0))],(λb m=>?_),(λp f=>?_),λW l=>⟨h.1,.inr ⟨g,cap,d,rfl,a,l _ (Uo.2 rfl),rest⟩⟩⟩
 .rw[Uo.1 m];exact⟨c,a⟩
 simp[Value.ownBlock] at f;subst f;exact⟨_,Uo.2 rfl⟩
def ym(m key v):(aL m key v).length<=m.length+1:=by
 unfold aL;have:=oW m key;rw[Uq];split<;>simp<;>omega
def Cv{m}{key v:yB}(h:∀p∈m,p.1.size<=1073741824/\p.2.size<=1073741824)(b:key.size<=1073741824)(c:v.size<=1073741824):∀p∈aL m key v,p.1.size<=1073741824/\p.2.size<=1073741824:=λp a=>by
 unfold aL at a
 rcases UA.1 a with a|a
 .exact h p (List.mem_filter.1 a).1
 split at a
 .cases a
 rw[Uo.1 a];exact⟨b,c⟩
structure xW(l:Nat->Nat)(w:World)(R:aV)(us:Nat->Value)(ps:List (yB×yB))(Y:aH)(hb ob:Nat)(oc:Obj)(l6:Nat->Nat)(R6:aV)(wx:World):Prop where
 mv:Mv (RT R) l l6 w wx
 x:dh l6 wx R6 us ps
 same:kM R R6
 n:R6.N=R.N
 m:R6.m=R.m
 ok:jK wx Y
 lY:∀g,Y.sv.ownBlock=some g->g<wx.heap.size/\l6 g=0
 bh:wx.heap[hb]? =some (.cells #[sV Y.addr,iV .i64 Y.n,sV Y.aI,sV Y.code,Y.sv] 107 (0,0))
 lh:l6 hb=0
 bo:wx.heap[ob]? =some oc
 lo:l6 ob=0
def BM(a:aV)(Y:aH)(key v:yB):Prop:=a.de->Y.addr.size=20->iz a.seen Y/\dU Y= {aY (bG a.m) (ag Y.addr) with ss:=aL (aY (bG a.m) (ag Y.addr)).ss (ag key) (if v.size=0 then⟨#[]⟩ else fg v)}
def xV(l:Nat->Nat)(w:World)(R:aV)(e:Nat->Value)(d:List (yB×yB))(Y:aH)(a b:Nat)(c:Obj)(f:World):Prop:=∃l6 R6,xW l w R e d Y a b c l6 R6 f
def pJ(l:Nat->Nat)(w:World)(R:aV)(e:Nat->Value)(d:List (yB×yB))(Y:aH)(a b:Nat)(c:Obj)(key v:yB)(f:World):Prop:=∃l6 R6,xW l w R e d Y a b c l6 R6 f/\BM R6 Y key v
def qP(l:Nat->Nat)(w:World)(R:aV)(b:Nat->Value)(a:List (yB×yB))(Y:aH)(d e:Nat)(f:Obj)(key v:yB)(c:Nat)(w7:World):Prop:=∃l6 R6 wx,xW l w R b a Y d e f l6 R6 wx/\BM R6 Y key v/\(Y.addr.size=20->R6.de->c=0)/\SC (R6.arg l6 wx b a) (Wm (R6.arg l6 wx b a) (kg (bG R6.m) (ag Y.addr) (ag key) Y.addr key v)) 1300 [] [] w7
def xV.yes{l w R p o Y d f k a}(h:xV l w R p o Y d f k a)(key v):pJ l w R p o Y d f k key v (a.setCell ⟨R.tt,0,none⟩ (bV true))/\yc a R.rb 5 (pV (qA R.tt))/\(∃b:Bool,yc a R.tt 0 (bV b))/\a.frozen? ⟨R.tt,0,none⟩=false:=by
 let⟨l6,t,h⟩:=h;have hs:=h.same;let⟨m1,j⟩:=h.x.tF;let⟨_,_,_,_,_,c5,d0⟩:=h.x.y.cells;rw[hs.rb,hs.tt] at c5;rw[hs.tt] at d0 j m1;have p0:=iu R.tt 0;have i:∀g,g<a.heap.size->l6 g=0->g≠R.tt:=λg _ h0 e=>by have:=h.x.y.lt;rw[hs.tt,<-e,h0] at this;rw[e] at this;omega
 have e1:∀g,g≠R.tt->(a.setCell ⟨R.tt,0,none⟩ (bV true)).heap[g]? =a.heap[g]? :=λg c=>UL _ _ _ g c
 have q:(a.setCell ⟨R.tt,0,none⟩ (bV true)).heap.size=a.heap.size:=by simp
 refine⟨⟨l6,_,⟨h.mv.trans (m1.mono λx r=>.inr (.inr r)),j,⟨hs.rb,hs.sb,hs.sp,hs.tw,rfl,hs.base,hs.seen,(λe=>by cases e)⟩,h.n,h.m,?_,λg c=>⟨by rw[q];exact(h.lY g c).1,(h.lY g c).2⟩,?_,h.lh,?_,h.lo⟩,λs=>by cases s.1⟩,c5,⟨_,d0⟩,?_⟩
 .exact⟨h.ok.addr,h.ok.n,h.ok.aI,h.ok.code,cM h.ok.at_ λg c=>e1 g (i g (h.lY g c).1 (h.lY g c).2),h.ok.len,h.ok.small⟩
 .exact(e1 d (i d (Um.1 h.bh).1 h.lh)).trans h.bh
 .exact(e1 f (i f (Um.1 h.bo).1 h.lo)).trans h.bo
 have:=h.x.y.tn;rw[hs.tt] at this;exact US a R.tt 0 _ _ this
def pJ.call{l w R f d Y g i j key v a}(h:pJ l w R f d Y g i j key v a)(s)(p:Y.addr=s)(hs:s.size<=1073741824)(o:key.size=32)(r:bF v=true)(y:v.size<=1073741824)(u:R.N+9000<4000000000):yC 72 #[pV (qA R.sp),sV s,sV key,sV v] a.drew λe w'=>∃c:Nat,e=rV (i6 c)/\(s.size≠20->c=2)/\qP l w R f d Y g i j key v c w':=by
 subst p;let⟨l6,b,h,m⟩:=h;have k:=h.x.start.drew;have:=JO k Y.addr key v (by unfold maxLen;omega) (by unfold maxLen;omega) (by unfold maxLen;omega) (by show b.N+0+1500<_;rw[h.n];omega);rw[show(b.arg l6 a f d).sp=R.sp from h.same.sp] at this;exact this.mono λ_ _⟨⟨c,h1,h2,h3,h4⟩,_⟩=>⟨c,h1,h2,l6,b,a,h,m,λq t=>h3 q o r t,h4⟩
def pJ.cells{l w R f e Y b c d key v a}(h:pJ l w R f e Y b c d key v a):yc a R.rb 1 (pV (qA R.sp))/\a.heap[b]? =some (.cells #[sV Y.addr,i6 Y.n,sV Y.aI,sV Y.code,Y.sv] 107 (0,0))/\a.heap[c]? =some d:=by
 let⟨l6,g,h,_⟩:=h;let⟨_,c1,_⟩:=h.x.y.cells;rw[h.same.rb,h.same.sp] at c1;exact⟨c1,h.bh,h.bo⟩
def qP.cells{l w R g f Y b d e key v c w7}(h:qP l w R g f Y b d e key v c w7):w7.heap[b]? =some (.cells #[sV Y.addr,i6 Y.n,sV Y.aI,sV Y.code,Y.sv] 107 (0,0))/\w7.heap[d]? =some e:=by
 let⟨l6,i,j,h,_,_,a⟩:=h;exact⟨(a.fC (Um.1 h.bh).1 h.lh).trans h.bh,(a.fC (Um.1 h.bo).1 h.lo).trans h.bo⟩
def MU(R:aV):¬RT R 0:=λh=>by
 have h1:=iu R.rb 0
 have h2:=iu R.tt 0
 rcases h with h|h|h
 .exact mr _ h
 .omega
 omega
def qP.kept{l w R o f Y B t u key v c w7}(h:qP l w R o f Y B t u key v c w7)(i:Int)(C:key.size=32)(E:bF v=true)(q1:Y.addr.size≠20->c=2)(w1:Y.addr.size≠20->i=2)(w2:Y.addr.size=20->i=0)(y:Y.addr∈R.seen)(F:Y.az.length<=(bT R.m Y.addr).1.az.length+1)(I:R.N+9000<4000000000)(D:bA R.m+2<1000000000):yC 65 #[pV (qA R.rb),i6 c,i6 i,iR Y] w7 λe w'=>e=rV (bV true)/\eY l w R o f 3000 w'/\w'.heap[t]? =some u:=by
 let⟨l6,a,G,h,s,q3,p⟩:=h;have A:jK w7 Y:=⟨h.ok.addr,h.ok.n,h.ok.aI,h.ok.code,cM h.ok.at_ λg j=>p.fC (h.lY g j).1 (h.lY g j).2,h.ok.len,h.ok.small⟩
 have z:lC a f (Wm (a.arg l6 G o f) (kg (bG a.m) (ag Y.addr) (ag key) Y.addr key v)) c i Y:=by
  by_cases h20:Y.addr.size=20
  .refine⟨λq=>absurd (w2 h20) q,λ_ q d=>q (by rw[q3 h20 d];rfl),λ_ _=>⟨λX r b d=>?_,λd=>(h.x.k d).1.place (s d h20).1⟩⟩;have b:=b;unfold kg at b;rw[Uj ⟨h20,C,E⟩] at b;let⟨o1,o2⟩:=s d h20;rw[AE d.inj (h.x.k d).1 o1,o2];exact b d
  refine⟨λ_=>⟨by rw[q1 h20,w1 h20];rfl,λX r b=>?_⟩,λq=>absurd q (by rw[w1 h20];decide),λq=>absurd q (by rw[w1 h20];decide)⟩;have b:=b;unfold kg at b;rwa[Ui (λq=>h20 q.1)] at b
 have:=vV h.x p c i Y A (λg j=>.inl (h.lY g j)) (by rwa[h.m]) (by rwa[h.same.seen]) z (by rw[h.n];omega) (by rwa[h.m]);rw[h.same.rb] at this;apply this.mono;rintro e w'⟨h1,h2⟩;refine⟨h1,(eY.trans h.mv h.same (K:=0) (by rw[h.n];omega) (by rw[h.m];exact Ug _) h2).mono (by omega),?_⟩;let⟨l8,H,m8,_⟩:=h2;exact(m8.kept (Um.1 h.bo).1 h.lo (MU _)).trans h.bo
def Gx(w)(n:Int)(R:Rg n):yC 70 #[i6 n] w λe w'=>(∃v:yB,e=rV (sV v)/\v.size<=8/\(0<=n->v=ae (bS 8 n.toNat)))/\yW w w':=by
 have X:yH (lB n 0 []):=λh=>⟨by show 0=_;rw[Nat.div_eq_of_lt];have:=R.2;show n.toNat<256 ^ 8;omega,λh=>absurd rfl h⟩
 obtain⟨A6,A7⟩:=R;obtain⟨i0,D,F,G,H⟩:=Vp rX;obtain⟨t,Q,S,d⟩:=run_make_own (P:=yP) w w.heap.size 143 5 i0 (iV .u8 0) 1 underlying143 D F G .i64 .i64 8 (by rw[H];decide) (by decide) (Ug _);have L:yW w t:=⟨d.os,d.tape,d.output,d.size,λk f=>d.block k f (by simp)⟩
 have Z:=aa S;have U:=aa L;have A3:(Instr.makeSlice 143 (i6 0) (i6 8)).run yP w=.ok (lV (qA w.heap.size) 0 8) t:=Q;clear Q S d L;go_enter func70,ntmps70
 go_wp2;clear A3;go_loopg [3,4] 9 (λg v r wr=>∃(k:Nat)(l:yL)(u cap:Nat),g=9 - k/\k<=8/\l.length<=k/\r=i6 (56 - 8*(k:Int))/\v=lV (qA u) l.length cap/\yH (lB n k l)/\yH (wr.ownsRow w.heap.size 5 1 (lV (qA u) l.length cap) l.length (b9 l))/\yH (yW w wr))
 .exact⟨0,[],w.heap.size,8,rfl,by omega,Ug _,rfl,rfl,X,Z,U⟩
 obtain⟨k,l,u,cap,M,f,O,rfl,rfl,A,b,i⟩:=hrel;have z:=aa M;clear M;have T:=i.o.size;by_cases N:k<8
 .have V:yH (∀(c:UInt8) (W:World) (g2 a:Nat),W.ownsRow w.heap.size 5 1 (lV (qA g2) (l.length+1) a) (l.length+1) (b9 l++[iV .u8 (c.toNat:Int)])->W.ownsRow w.heap.size 5 1 (lV (qA g2) (l++[c]).length a) (l++[c]).length (b9 (l++[c]))):=λc W g2 a h=>by
   rw[Uq];have:b9 (l++[c])=b9 l++[iV .u8 (c.toNat:Int)]:=by simp[b9]
   rw[this];exact h
  go_upto_region 5 with fail
  go_cut [5] (λv wx=>∃c:UInt8,v=iV .u8 (c.toNat:Int)/\yH (0<=n->c.toNat=n.toNat / 256 ^ (7 - k) % 256)/\wx=wr)
  .have A2:k=0\/k=1\/k=2\/k=3\/k=4\/k=5\/k=6\/k=7:=by omega
   rcases A2 with rfl|rfl|rfl|rfl|rfl|rfl|rfl|rfl;all_goals
    go_wp2;go_meet;refine S9 n _ _ ?_ ?_ ?_ _<;>first|omega| (rw[VI];omega)
  obtain⟨c,rfl,y,rfl⟩:=hcut;have I:yH (c.toNat≠0\/l≠[]->lB n (k+1) (l++[c])):=λh=>A.o.next N y.o h
  have Y:yH (c.toNat=0->l=[]->lB n (k+1) l):=λh1 h2=>A.o.skip N y.o h1 h2
  clear y;have A5:(56:Int) - 8*(k:Int) - 8=56 - 8*((k+1:Nat):Int):=by omega
  have A1:(((c.toNat:Nat):Int) != 0)=true\/((((c.toNat:Nat):Int) != 0)=false/\0<l.length)\/((((c.toNat:Nat):Int) != 0)=false/\l.length=0):=by
   cases (((c.toNat:Nat):Int) != 0)
   .rcases Nat.eq_zero_or_pos l.length with h|h
    .exact .inr (.inr ⟨rfl,h⟩)
    exact .inr (.inl ⟨rfl,h⟩)
   exact .inl rfl
  have m:=V.o c;generalize hcn:(c.toNat:Nat)=K at*;rcases A1 with h1|⟨h1,h2⟩|⟨h1,h2⟩
  .have o:=aa (I.o (.inl (by simpa using h1)));go_wp2_with (at_builtin;refine U0 _ rfl (.tmp 23) (.tmp 25) 143 rfl w.heap.size 5 i0 (iV .u8 0) 1 1 underlying143 D F G H rfl (by decide) _ l.length (b9 l) rfl (b.o.alloc _) ⟨wc.heap.size,0,none⟩ 1 1 [iV .u8 (K:Int)] rfl rfl (Vx _ _ _) ?n2 (by omega) ?n3 ?n4 ?n5 _ rfl ?n6)
   case n2=>first|rfl| (intro v s;simp at s;subst s;rfl)
   case n3=>unfold maxLen;omega
   case n4=>omega
   case n5=>first|omega| (simp;omega)
   intro g2 a w2 q p C E;have B:=aa (m w2 g2 a q);have x:yH (yW w w2):=(i.o.alloc T _).grown p (by simp;omega) (λk f=>(b.o.lt k f).1);have j:yH ((l++[c]).length=l.length+1):=by show _=_;simp
   clear q p C E m;go_wp2;go_roundg (9 - (k+1))
   .exact⟨k+1,l++[c],g2,a,rfl,by omega,by have:=j.o;omega,by go_num,by rw[j.o],o,B,x⟩
   have:=z.o;omega
  .have A0:(0:Int)<(l.length:Int):=by omega
   have o:yH (lB n (k+1) (l++[c])):=I.o (.inr (λe=>by rw[e] at h2;simp at h2));go_wp2_with (at_builtin;refine U0 _ rfl (.tmp 23) (.tmp 25) 143 rfl w.heap.size 5 i0 (iV .u8 0) 1 1 underlying143 D F G H rfl (by decide) _ l.length (b9 l) rfl (b.o.alloc _) ⟨wc.heap.size,0,none⟩ 1 1 [iV .u8 (K:Int)] rfl rfl (Vx _ _ _) ?m2 (by omega) ?m3 ?m4 ?m5 _ rfl ?m6)
   case m2=>first|rfl| (intro v s;simp at s;subst s;rfl)
   case m3=>unfold maxLen;omega
   case m4=>omega
   case m5=>first|omega| (simp;omega)
   intro g2 a w2 q p C E;have B:=aa (m w2 g2 a q);have x:yH (yW w w2):=(i.o.alloc T _).grown p (by simp;omega) (λk f=>(b.o.lt k f).1);have j:yH ((l++[c]).length=l.length+1):=by show _=_;simp
   clear q p C E m;go_wp2;go_roundg (9 - (k+1))
   .exact⟨k+1,l++[c],g2,a,rfl,by omega,by have:=j.o;omega,by go_num,by rw[j.o],o,B,x⟩
   have:=z.o;omega
  have A0:¬(0:Int)<(l.length:Int):=by omega
  have o:=aa (Y.o (by simpa using h1) (UH.1 h2));clear m;go_wp2;go_roundg (9 - (k+1))
  .exact⟨k+1,l,u,cap,rfl,by omega,by omega,by go_num,by rw[h2],o,b,i⟩
  have:=z.o;omega
 obtain rfl:k=8:=by omega
 have A4:=Sp b.o;have J:yH ((ae l).size<=8/\(0<=n->ae l=ae (bS 8 n.toNat))):=⟨by rw[aN];exact O,λh=>A.o.done h O⟩
 go_wp2;go_ret;exact⟨⟨_,rfl,J.o.1,J.o.2⟩,i.o⟩
end Go.Proofs.YteaodagofkcgbaaGreatDoor
