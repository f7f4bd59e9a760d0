import Derived.Test.YtmafnmpeehmndaaGreatDoorQ
open Go.Proofs.Tryz
open Go.Proofs.Tryz renaming prog→yP
open Go.Value renaming string→sV,pointer→pV,int→iV,slice→lV,bool→bV,tuple→tV,agg→gV
open Go.Ending renaming returned→rV
namespace Go.Proofs.YtmafnmpeehmndaaGreatDoor
open Go.RowKit
set_option maxRecDepth 100000
set_option maxHeartbeats 0
set_option linter.all false
def cH(G:yB->Option yB)(t:Nd)(key value:yB):Nat:=if 40<key.size\/160<value.size then 1 else if value.size=0 then 4 else(aG G t key).2
def fR(G:yB->Option yB)(t:Nd)(key value:yB):Nd:=if 40<key.size\/160<value.size then t else if value.size=0 then t else(aG G t key).1
def jx(G:yB->Option yB)(t:Nd)(key value:yB):Nd:=bR (aG G t key).1 (aD key) value.data.toList
def uY(w:World)(a:Nat)(b:Option Addr)(S:Nat->Prop)(t:Nd)(n:Nd)(u:Option Addr)(w':World):Prop:=
 ∃S' w1,eX w1 a b S' t/\(∀x,S' x->S x\/w.heap.size<=x)/\bO (fun x=>S x\/x=a) w w1/\At w' n (fun x=>S' x\/w1.heap.size<=x) (pV u)/\yW w1 w'
def aB.mU{w tb st u}(h:aB w)(hT:fF w tb st u):3<=tb:=by
 have h0:=h.words 0 (by omega);have h1:=h.turns 0 (by omega);have h2:=h.ud 0 (by omega);have c:=hT.c0;refine Nat.le_of_not_lt fun A0=>?_
 match tb,A0 with
 | 0,_=>rw[c] at h0;cases h0
 | 1,_=>rw[c] at h1;cases h1
 | 2,_=>rw[c] at h2;cases h2
def ED{M w c d S t G}(f:eX w c d S t)(i:lX M w d G S)(key value:yB)(v:key.size<=maxLen)(y:value.size<=maxLen)(h:cH G t key value≠0):
 yC 75 #[pV (qA c),sV key,sV value] w fun e w'=>e=rV (tV #[pV none,i6 (cH G t key value:Int)])/\gF w c d S (fR G t key value) w':=by
 unfold maxLen at v y;by_cases b:40<key.size\/160<value.size
 ·have a:yH (cH G t key value=1/\fR G t key value=t):=by unfold cH fR;rw[Uj b,Uj b];exact⟨rfl,rfl⟩
  have g:yH (eX w c d S t):=f;clear f i h;generalize cH G t key value=E at*;generalize fR G t key value=T at*;by_cases j:40<key.size
  ·have p:(40:Int)<(key.size:Int):=by omega
   clear j b;go_enter func75,ntmps75
   go_wp2
   go_ret2
   rw[a.o.1,a.o.2];exact⟨rfl,g.o.now (Un _ _)⟩
  ·have p:¬(40:Int)<(key.size:Int):=by omega
   have x:(160:Int)<(value.size:Int):=by omega
   clear j b;go_enter func75,ntmps75
   go_wp2
   go_ret2
   rw[a.o.1,a.o.2];exact⟨rfl,g.o.now (Un _ _)⟩
 ·have j:key.size<=40:=by omega
  have A:value.size<=160:=by omega
  have p:decide ((40:Int)<(key.size:Int))=false:=by simp;omega
  have x:decide ((160:Int)<(value.size:Int))=false:=by simp;omega
  by_cases h0:value.size=0
  ·have a:yH (cH G t key value=4/\fR G t key value=t):=by unfold cH fR;rw[Ui b,Ui b,Uj h0,Uj h0];exact⟨rfl,rfl⟩
   have g:yH (eX w c d S t):=f;have u:value.toList.isEmpty=true:=by rw[g7];exact h0
   clear f i h b;generalize cH G t key value=E at*;generalize fR G t key value=T at*;go_enter func75,ntmps75
   go_wp2
   go_ret2
   rw[a.o.1,a.o.2];exact⟨rfl,g.o.now (Un _ _)⟩
  ·have a:yH (cH G t key value=(aG G t key).2/\fR G t key value=(aG G t key).1):=by unfold cH fR;rw[Ui b,Ui b,Ui h0,Ui h0];exact⟨rfl,rfl⟩
   have u:value.toList.isEmpty=false:=by rw[iv];omega
   have m:=tg f i key j;have r:yH (yC 76 #[pV (qA c),sV key] w fun e w'=>gF w c d S (aG G t key).1 w'/\(∃(l:Option Addr) (k:yL) (n:Nat) (bl:Bool),e=rV (tV #[gV #[pV l,sV (ae k),i6 (n:Int),bV bl],i6 ((aG G t key).2:Int)])/\((aG G t key).2=0->sM w' w'.heap.size l k (aM (aG G t key).1 (aD key))))):=m;rw[a.o.1] at h;have z:(((aG G t key).2:Int) != 0)=true:=by simp;omega
   clear f i h b m h0;generalize cH G t key value=E at*;generalize fR G t key value=T at*;generalize aM (aG G t key).1 (aD key)=F at*;generalize (aG G t key).1=T1 at*;generalize (aG G t key).2=E1 at*;go_enter func75,ntmps75
   go_wp2_with fail
   refine r.m ?_;rintro e w1 ⟨o,l,k,n,bl,rfl,s⟩;have q:yH (gF w c d S T1 w1):=o;clear o s;go_wp2
   go_ret2
   rw[a.o.1,a.o.2];exact⟨rfl,q.o.below ((Un _ _).alloc (Ug _) _)⟩
def EC{M w a i S t G}(c:eX w a i S t)(l:lX M w i G S)(key value:yB)(B:key.size<=40)(H:value.size<=160)(X:0<value.size)(q:(aG G t key).2=0):
 yC 75 #[.pointer (qA a),.string key,.string value] w fun e w'=>∃u',e=.returned (.tuple #[.pointer u',.int .i64 0])/\uY w a i S (aG G t key).1 (jx G t key value) u' w':=by
 have o:=tg c l key B;rw[q] at o;have N:yH (yC 76 #[.pointer (qA a),.string key] w fun e w'=>gF w a i S (aG G t key).1 w'/\(∃(j:Option Addr) (g:yL) (d:Nat) (bl:Bool),e=.returned (.tuple #[.agg #[.pointer j,.string (ae g),.int .i64 (d:Int),.bool bl],.int .i64 0]))):=
  o.mono fun e w' ⟨h1,j,g,d,bl,h2,_⟩=>⟨h1,j,g,d,bl,h2⟩
 have K:yH (∀W:World,yC 110 #[.string key] W fun e w'=>e=.returned (.string (ae (aD key)))/\yW W w'):=fun W=>ES key (by omega) W
 have O:yH (∀(w1:World) (S':Nat->Prop) (u1:Option Addr),At w1 (aG G t key).1 S' (.pointer u1)->aB w1->∀W,yW w1 W->yC 109 #[.pointer u1,.string (ae (aD key)),.string value] W (Made w1 S' (jx G t key value))):=fun w1 S' u1 k T W y=>by
  have:=KQ (aG G t key).1 W S' u1 (aD key) value.data.toList (k.below y) (jk G t key c.ok).aK (kA G t key c.ok B q) (b8 key) (by rw[g6];omega) (by simpa using H) (T.below y);rw[gA] at this;exact this.mono fun e w' h=>h.after y
 have L:yH (∀w1,bO (fun x=>S x\/x=a) w w1->aB w1):=fun w1 h=>l.bz.nL h fun x f=>by
  rcases f with f|f
  ·exact(c.own x f).1
  ·rw[f];obtain⟨u,h1,_⟩:=c.at_;exact l.bz.mU h1
 have Z:decide ((40:Int)<(key.size:Int))=false:=by simp;omega
 have A0:decide ((160:Int)<(value.size:Int))=false:=by simp;omega
 have Y:value.toList.isEmpty=false:=by rw[iv];omega
 clear c l B H q o X;generalize jx G t key value=R at*;generalize (aG G t key).1=T1 at*;generalize ae (aD key)=P at*;go_enter func75,ntmps75
 go_wp2_with fail
 refine N.m ?_;rintro e w0 ⟨U,j,g,d,bl,rfl⟩;obtain⟨⟨S',s,F⟩,v⟩:=U;obtain⟨u,r,k⟩:=s.at_;have Q:=aa (O.o w0 S' u k (L.o w0 v));have n:yH (eX w0 a i S' T1/\(∀x,S' x->S x\/w.heap.size<=x)/\bO (fun x=>S x\/x=a) w w0):=⟨s,F,v⟩
 have d1:=r.c1;have E:=r.lt;clear s F v r k;go_wp2_with fail
 obtain⟨b,m⟩:=yX (w0.alloc (.cells #[.pointer j,.string (ae g),.int .i64 (d:Int),.bool bl] 127))
 have z:yW w0 b:=by rw[m];exact(Un _ _).alloc (Ug _) _
 have c1:b.cell? ⟨a,1,none⟩=some (.pointer u):=by rw[m,World.cell?_alloc_lt _ _ _ E];exact d1
 have V:=Us E z.size;have C:=aa z;rw[<-m];clear m z d1;go_region_with (first| (go_at_call 110;refine(K.o _).mono ?_;rintro e2 w2 ⟨rfl,A⟩;have c2:w2.cell? ⟨a,1,none⟩=some (.pointer u):=(A.cell (p:=⟨a,1,none⟩) V).trans c1;have I:yH (yW w0 w2):=C.o.drew.trans (A.mono C.o.size);clear A) | (go_at_call 109;refine(Q.o _ I.o).mono ?_;rintro e3 w3 ⟨u3,rfl,D⟩;have J:yH _:=D;clear D))
 all_goals
  go_wp2
  go_ret2
  exact⟨u3,rfl,S',w0,n.o.1,n.o.2.1,n.o.2.2,J.o⟩
def tK{G t key value}(h:cH G t key value=0):key.size<=40/\value.size<=160/\0<value.size/\(aG G t key).2=0/\fR G t key value=(aG G t key).1:=by
 unfold cH at h;by_cases h1:40<key.size\/160<value.size
 ·rw[Uj h1] at h;cases h
 ·rw[Ui h1] at h;by_cases h2:value.size=0
  ·rw[Uj h2] at h;cases h
  ·rw[Ui h2] at h;refine⟨by omega,by omega,by omega,h,?_⟩;unfold fR;rw[Ui h1,Ui h2]
def ry{G t key value}(a:aA t 0)(h:cH G t key value=0):aA (jx G t key value) 0:=by
 let⟨h1,h2,h3,h4,_⟩:=tK h;have b:value.data.toList.length=value.size:=by simp
 exact yj (jk G t key a) (kA G t key a h1 h4) (b8 key) (by rw[g6];omega) (fun e=>by rw[e] at b;simp at b;omega) (by omega)
def b6(G:yB->Option yB)(t:Nd)(key value:yB):Nd:=if cH G t key value=0 then jx G t key value else fR G t key value
def uY.set{w c l S t n u w'}(h:uY w c l S t n u w')(d:aA n 0)(h3:3<=w.heap.size):gF w c l S n (w'.setCell ⟨c,1,none⟩ (pV u)):=by
 let⟨S',w1,g,p,j,m,i⟩:=h;let⟨u0,q1,q2⟩:=g.at_;have r:=j.size;have s:=i.size;have q:=q1.lt;have f:∀x,(S' x\/w1.heap.size<=x)->3<=x/\x≠c:=fun x a=>by
  rcases a with a|a
  ·exact⟨(g.own x a).1,(g.own x a).2.1⟩
  ·exact⟨by omega,by omega⟩
 refine⟨⟨fun x=>(S' x\/w1.heap.size<=x)/\x<w'.heap.size,⟨⟨u,(q1.kept (i.block c q)).set u,m.cut.kept fun x a _=>Uy _ _ _ _ (f x a.1).2⟩,d,fun x a=>⟨(f x a.1).1,(f x a.1).2,by simpa using a.2⟩⟩,fun x a=>a.1.elim (p x) fun h=>.inr (Ut r h)⟩,?_⟩;have b:=j.kU i;exact⟨b.os,b.tape,b.output,by simpa using b.size,fun k o d=>by rw[Uy _ _ _ _ (fun e=>d (.inr e))];exact b.block k o d⟩
def uY.now{w b a S t n u w'}(h:uY w b a S t n u w'):gF w b a S t w':=by
 let⟨S',w1,d,f,c,_,e⟩:=h;exact gF.below ⟨⟨S',d,f⟩,c⟩ e
def BP{M w a c S t G}(f:eX w a c S t)(d:lX M w c G S)(key value:yB)(j:key.size<=maxLen)(k:value.size<=maxLen):
 yC 30 #[pV (qA a),sV key,sV value] w fun e w'=>e=rV (i6 (cH G t key value:Int))/\gF w a c S (b6 G t key value) w':=by
 by_cases b:cH G t key value=0
 ·obtain⟨h1,h2,h3,h4,h5⟩:=tK b;have i:yH (yC 75 #[pV (qA a),sV key,sV value] w fun e w'=>∃u',e=rV (tV #[pV u',i6 0])/\yH (uY w a c S (aG G t key).1 (jx G t key value) u' w')):=EC f d key value h1 h2 h3 h4;have g:yH (cH G t key value=0/\b6 G t key value=jx G t key value):=⟨b,by unfold b6;rw[Uj b]⟩
  have h:=aa (ry f.ok b);have n:=d.bz.size;clear f d b h1 h2 h3 h4 h5 j k;generalize cH G t key value=E at*;generalize b6 G t key value=T at*;generalize jx G t key value=N at*;generalize (aG G t key).1=T1 at*;go_enter func30,ntmps30
  go_wp2_with fail
  refine i.m ?_;rintro e w1 ⟨u1,rfl,l⟩;obtain⟨u2,d1,f1,q⟩:∃u2,yc w1 a 1 (pV u2)/\w1.frozen? ⟨a,1,none⟩=false/\a<w1.heap.size:=by
   obtain⟨⟨S',o,_⟩,_⟩:=l.o.now;obtain⟨u2,q1,_⟩:=o.at_;exact⟨u2,q1.c1,q1.free 1,q1.lt⟩
  go_wp2
  go_ret
  rw[g.o.1,g.o.2];exact⟨rfl,l.o.set h.o n⟩
 ·have i:yH (yC 75 #[pV (qA a),sV key,sV value] w fun e w'=>e=rV (tV #[pV none,i6 (cH G t key value:Int)])/\gF w a c S (fR G t key value) w'):=ED f d key value j k b;have g:yH (b6 G t key value=fR G t key value):=by show _=_;unfold b6;rw[Ui b]
  have p:((cH G t key value:Int) != 0)=true:=by simp;omega
  clear f d b j k;generalize cH G t key value=E at*;generalize b6 G t key value=T at*;generalize fR G t key value=T1 at*;go_enter func30,ntmps30
  go_wp2_with fail
  refine i.m ?_;rintro e w1 ⟨rfl,m⟩;have h:=aa m;clear m;go_wp2
  go_ret
  rw[g.o];exact⟨rfl,h.o⟩
def T5{M w b f S t G}(a:eX w b f S t)(d:lX M w f G S)(key value:yB)(k:key.size<=maxLen)(l:value.size<=maxLen):
 yC 131 #[pV (qA b),sV key,sV value] w fun e w'=>e=rV (tV #[sV (if cH G t key value=0 then ae (bQ (jx G t key value)) else⟨#[]⟩),i6 (cH G t key value:Int)])/\gF w b f S (fR G t key value) w':=by
 have r:yH (∀w1,bO (fun x=>S x\/x=b) w w1->aB w1):=fun w1 h=>d.bz.nL h fun x g=>by
  rcases g with g|g
  ·exact(a.own x g).1
  ·rw[g];obtain⟨u,h1,_⟩:=a.at_;exact d.bz.mU h1
 by_cases c:cH G t key value=0
 ·obtain⟨h1,h2,h3,h4,h5⟩:=tK c;have j:yH (yC 75 #[pV (qA b),sV key,sV value] w fun e w'=>∃u',e=rV (tV #[pV u',i6 0])/\yH (uY w b f S (aG G t key).1 (jx G t key value) u' w')):=EC a d key value h1 h2 h3 h4;rw[Uj c,c,h5];have i:=aa (ry a.ok c);clear a d c h1 h2 h3 h4 h5 k l;generalize jx G t key value=N at*;generalize (aG G t key).1=T1 at*;go_enter func131,ntmps131
  go_wp2_with fail
  refine j.m ?_;rintro e w1 ⟨u1,rfl,m⟩;have q:yH (yC 80 #[pV u1] w1 fun e w'=>e=rV (sV (ae (bQ N)))/\yW w1 w'):=by
   have y:=m.o;obtain⟨S',w2,A,B,a,s,v⟩:=y;exact Em w1 N _ u1 s i.o.aK (r.o w1 (a.kU v))
  go_wp2_with fail
  refine q.m ?_;rintro e w2 ⟨rfl,o⟩;have p:=aa o;clear o;go_wp2
  go_ret2
  exact⟨rfl,m.o.now.below p.o⟩
 ·have j:yH (yC 75 #[pV (qA b),sV key,sV value] w fun e w'=>e=rV (tV #[pV none,i6 (cH G t key value:Int)])/\gF w b f S (fR G t key value) w'):=ED a d key value k l c;rw[Ui c];have z:((cH G t key value:Int) != 0)=true:=by simp;omega
  clear a d c k l;generalize cH G t key value=E at*;generalize fR G t key value=T1 at*;go_enter func131,ntmps131
  go_wp2_with fail
  refine j.m ?_;rintro e w1 ⟨rfl,n⟩;have i:=aa n;clear n;go_wp2
  go_ret2
  exact⟨rfl,i.o⟩
def ay(t:Nd)(r:yL)(d:Nat):Nd×yL×Nat×Bool:=match t with
 | .ext _ q k=>if aF q r=q.length then(k,r.drop q.length,d+q.length,true) else(.nil,[],0,false)
 | .branch _ _ ks=>match r with
  | []=>(.nil,[],0,false)
  |c::r=>(ks c.toNat,r,d+1,false)
 | _=>(.nil,[],0,false)
def dm(t:Nd)(d:Nat):List yL:=if d=0\/t.hash≠[] then [t.code] else []
def dS:Nat->Nd->yL->Nat->List yL
 | 0,_,_,_=>[]
 |f+1,t,r,d=>if t.isNil=true then [] else dm t d++dS f (ay t r d).1 (ay t r d).2.1 (ay t r d).2.2.1
structure BV(w:World)(S:Nat->Prop)(t:Nd)(r:yL)(d:Nat)(u:Option Addr)(S':Nat->Prop):Prop where
 at_:At w (ay t r d).1 S' (pV u)
 sub:∀x,S' x->S x
 opened:dD (ay t r d).1 (ay t r d).2.1
 ok:aA (ay t r d).1 (ay t r d).2.2.1
 mx:aw (ay t r d).2.1
 deep:(ay t r d).2.2.1+(ay t r d).2.1.length<=80
 less:(ay t r d).1≠.nil->(ay t r d).2.1.length+1<=r.length
def JT(W:World)(S:Nat->Prop)(t:Nd)(r:yL)(d:Nat)(e:Ending)(w':World):Prop:=
 ∃u S',e=rV (cz (pV u) (ae (ay t r d).2.1) (ay t r d).2.2.1 (ay t r d).2.2.2)/\BV W S t r d u S'/\yW W w'
def zu{W S t r d}(h:ay t r d=(.nil,[],0,false)):BV W S t r d none (fun _=>False):=by
 constructor<;>(try rw[h])
 ·rfl
 ·exact fun _ h=>h.elim
 ·trivial
 ·exact mE 0
 ·exact fun _ h=>(Vs h).elim
 ·decide
 ·exact fun h=>absurd rfl h
def Kr(W S t)(b:Nat)(r)(d:Nat)(bl:Bool)(f:At W t S (pV (qA b)))(i:aA t d)(o:dD t r)(n:aw r)(E:d+r.length<=80):
 yC 112 #[cz (pV (qA b)) (ae r) d bl] W (JT W S t r d):=by
 have u:=i.aK;cases t with
 |nil=>have h:Value.pointer (qA b)=pV none:=f;cases h
 |unread _=>exact o.elim
 |leaf h q v=>
  let⟨l,a,_,B⟩:=f;cases a
  exact(zP b h q v _ _ r (by have:=u.2.2.1;omega) d bl W B).mono fun e w' ⟨h1,h2⟩=>⟨none,_,h1,zu rfl,h2⟩
 |ext h q k=>
  let⟨l,L,C,a,D,B,G,w⟩:=f;cases a
  obtain⟨A,rfl⟩:=w.ptr;have K:=u.2.2.1;by_cases e:aF q r=q.length
  ·have m:aF r q=q.length:=by rw[oP];exact e
   have F:=(iN q r).2;rw[e] at F;have J:=Vt.2 i.bB.1;have g:ay (.ext h q k) r d=(k,r.drop q.length,d+q.length,true):=by simp only[ay,Uj e]
   refine(wM b h q k A _ r (by omega) (by omega) m d (by omega) bl W B).mono fun en w' ⟨h1,h2⟩=>⟨A,C,by rw[g];exact h1,?_,h2⟩
   constructor<;>(try rw[g])
   ·exact w
   ·exact fun x p=>(G x p).1
   ·exact o e
   ·exact fq i
   ·exact da n _
   ·show d+q.length+(r.drop q.length).length<=80;rw[Uu];omega
   ·intro _;show(r.drop q.length).length+1<=r.length;rw[Uu];omega
  ·have m:aF r q≠q.length:=by rw[oP];exact e
   have g:ay (.ext h q k) r d=(.nil,[],0,false):=by simp only[ay,Ui e]
   exact(zQ b h q k _ _ r (by omega) (by omega) m d bl W B).mono fun en w' ⟨h1,h2⟩=>⟨none,_,by rw[g];exact h1,zu g,h2⟩
 |branch h v ks=>
  cases r with
  |nil=>
   let⟨l,M,s,a,_,B,_⟩:=f;cases a
   exact(zR b h v ks _ _ d bl W B).mono fun en w' ⟨h1,h2⟩=>⟨none,_,h1,zu rfl,h2⟩
  |cons c r=>
   let⟨l,U,s,a,D,B,z⟩:=f.kids;cases a
   have j:=n c (Uk ..);have I:r.length+1+d<=80:=by simp at E;omega
   refine(wN b h v ks _ _ c r j (U c.toNat) rfl (by omega) d (by omega) bl W B).mono fun en w' ⟨h1,h2⟩=>⟨U c.toNat,s c.toNat,h1,⟨z.at_ _ j,fun x p=>(z.sub _ x j p).1,o,dA i _ j,fun y H=>n y (Ul _ H),?_,?_⟩,h2⟩
   ·show d+1+r.length<=80;omega
   ·intro _;simp[ay]
def oo:(yP.info? 9).map (fun i=>(i.zero,i.size,i.bytes))=some (some (sV ⟨#[]⟩),1,16):=by kernel_rfl
def kT(l:List yL):List Value:=l.map fun x=>sV (ae x)
structure xQ(w:World)(ga:Nat)(C:List yL)(g:Nat)(wr:World)(done:List yL)(t:Nd)(S:Nat->Prop)(u:Option Addr)(r:yL)(d:Nat)(bl:Bool):Prop where
 here:db wr ga u (ae r) d bl
 at_:At w t S (pV u)
 lt:∀x,S x->x<w.heap.size
 opened:dD t r
 ok:aA t d
 mx:aw r
 deep:d+r.length<=80
 fuel:t≠.nil->r.length+1<=g
 all:C=done++dS g t r d
 sd:done.length+g<=81
 eG:yW w wr
def Sy(w:World)(u:Option Addr)(t:Nd)(S:Nat->Prop)(r:yL)(hA:At w t S (pV u))(hK:aA t 0)(ho:dD t r)(hn:aw r)(hd:r.length<=80):
 yC 86 #[cz (pV u) (ae r) 0 false] w fun e w'=>∃v,e=rV v/\w'.ownsRow (w.heap.size+1) 9 1 v (dS 81 t r 0).length (kT (dS 81 t r 0))/\yW w w':=by
 have HA:=aa hA.cut;have HP:yH (aA t 0/\dD t r/\aw r/\r.length<=80):=⟨hK,ho,hn,hd⟩
 obtain⟨C,X⟩:=yX (dS 81 t r 0)
 rw[<-X];have HC:=aa X;obtain⟨i0,C4,C8,C9,D0⟩:=Vp oo;clear hA hK ho hn hd X;unfold cz;go_enter func86,ntmps86
 go_wp2
 go_loopg [3] 81 (fun g sl wr=>∃done c A K r d bl,xQ w w.heap.size C g wr done c A K r d bl/\wr.ownsRow (w.heap.size+1) 9 1 sl done.length (kT done))
 case atStart=>
  obtain⟨h1,h2,h3,h4⟩:=HP.o;refine⟨[],t,_,u,r,0,false,⟨UG _ _,HA.o,fun x I=>I.2,h2,h1,h3,by omega,fun _=>by omega,HC.o,by simp,(Un _ _).alloc (Ug _) _⟩,U8 _ _ _ _⟩
 case round=>
  obtain⟨i,c,A,K,r,d,bl,f,A1⟩:=hrel;have D:=aa f;have P:=aa A1;obtain⟨a0,a1,a2,a3⟩:=f.here.cells;obtain⟨A8,A9,B0,B1⟩:=f.here.free;have z:=f.here.lt;by_cases hs:c.some
  ·obtain⟨b,D1,D2,hu,C7,B⟩:=f.at_.ai hs;cases hu
   have A0:c≠.nil:=fun e=>by rw[e] at hs;exact hs
   obtain⟨o,Z⟩:∃o,gk=o+1:=⟨gk - 1,by have:=f.fuel A0;omega⟩
   have A2:c.read:=by
    have:=f.opened;cases c<;>first|exact hs.elim|exact this.elim|trivial
   have L:bU wr b c D1 D2:=(f.eG.block b B.lt).trans B;have c1:=L.c1;have B6:yH (∀W,yW w W->yC 115 #[pV (qA b)] W fun e w'=>e=rV (sV (ae c.code))/\yW W w'):=fun W Y=>xH W c A _ (f.at_.below Y) f.ok.aK.lL A2 (f.ok.aK.ow A2)
   have A4:yH (∀W,yW w W->yC 112 #[gV #[pV (qA b),sV (ae r),i6 (d:Int),bV bl]] W (JT W A c r d)):=fun W Y=>Kr W A c b r d bl (f.at_.below Y) f.ok f.opened f.mx f.deep
   have M:yH (C=i++(dm c d++dS o (ay c r d).1 (ay c r d).2.1 (ay c r d).2.2.1)):=by
    show _=_;rw[f.all,Z];simp only[dS];rw[Ui (by rw[(gM c).2 hs];simp)]
   have A3:=aa Z;have n:=aa f.eG;have D5:i.length<=81:=by have:=f.sd;omega
   have H:=ke c.hash;have A5:yH (∀(V j:World) (l:Option Addr) (S':Nat->Prop),yW w V->BV V A c r d l S'->db j w.heap.size l (ae (ay c r d).2.1) (ay c r d).2.2.1 (ay c r d).2.2.2->yW w j->xQ w w.heap.size C o j (i++dm c d) (ay c r d).1 S' l (ay c r d).2.1 (ay c r d).2.2.1 (ay c r d).2.2.2):=fun V j l S' h1 h2 h3 h4=>by
    refine⟨h3,h2.at_.kept fun x I _=>(h1.block x (D.o.lt x (h2.sub x I))).symm,fun x I=>D.o.lt x (h2.sub x I),h2.opened,h2.ok,h2.mx,h2.deep,fun hk=>?_,by rw[UI];exact M.o,?_,h4⟩
    ·have:=h2.less hk;have:=D.o.fuel A0;omega
    ·have:=D.o.sd;have hl:(dm c d).length<=1:=by unfold dm;split<;>simp
     rw[Uq];omega
   have D3:b<wr.heap.size:=L.lt;clear f A1 A0 A2 B L C7 Z;by_cases E:d=0\/c.hash≠[]
   ·have O:yH (dm c d=[c.code]):=by show _=_;unfold dm;rw[Uj E]
    have C0:((d:Int) == 0)=true\/(((d:Int) == 0)=false/\(ae c.hash).toList.isEmpty=false):=by
     by_cases h0:d=0
     ·left;simp[h0]
     ·right;exact⟨by simp;omega,by rw[H];simp;exact E.resolve_left h0⟩
    generalize c.code=CO at*;clear E H;go_upto_region 3 with fail
    go_cut [17] (fun v wx=>v=bV true/\wx=wr)
    case first=>
     rcases C0 with B2|⟨B2,H⟩;all_goals
      go_wp2
      go_meet
      exact⟨rfl,rfl⟩
    case rest=>
     obtain⟨rfl,rfl⟩:=hcut;go_wp2_with fail
     refine(B6.o _ n.o).mono ?_;rintro e w1 ⟨rfl,q⟩;have B5:=aa (n.o.trans (q.mono n.o.size));have Q:=aa (rE P.o q);have e0:=(q.cell (p:=⟨w.heap.size,0,none⟩) z).trans a0;have e1:=(q.cell (p:=⟨w.heap.size,1,none⟩) z).trans a1;have e2:=(q.cell (p:=⟨w.heap.size,2,none⟩) z).trans a2;have e3:=(q.cell (p:=⟨w.heap.size,3,none⟩) z).trans a3;have B4:db w1 w.heap.size (qA b) (ae r) d bl:=D.o.here.kept (q.block _ z);have B8:=aa B4;have C1:w.heap.size<w1.heap.size:=Us z q.size;clear q B4;go_wp2_with (at_builtin;refine U0 _ rfl (.tmp 18) (.tmp 22) 63 rfl (w.heap.size+1) 9 i0 (sV ⟨#[]⟩) 1 16 underlying63 C4 C8 C9 D0 rfl (by decide) _ i.length (kT i) rfl (Q.o.alloc _) ⟨w1.heap.size,0,none⟩ 1 1 [sV (ae CO)] rfl rfl (Vx _ _ _) ?c2 (by omega) ?c3 ?c4 ?c5 _ rfl ?c6)
     case c2=>intro v hv;simp at hv;subst hv;rfl
     case c3=>unfold maxLen;omega
     case c4=>omega
     case c5=>simp;omega
     intro g2 A7 w2 B3 J B9 C5;have B7:=aa B3;have F:yH (yW w w2):=(B5.o.alloc (by omega) _).grown J (by simp;omega) (fun k hk=>by have:=(Q.o.lt k hk).1;omega);have C2:w.heap.size<w2.heap.size:=by have:=F.o.size;have:=J.size;simp at this;omega
     have A6:yH (db w2 w.heap.size (qA b) (ae r) d bl):=by
      show db _ _ _ _ _ _;refine B8.o.kept ?_;rw[J.block w.heap.size (by simp;omega) (fun h=>by have:=(Q.o.lt _ h.symm).1;omega)];exact U6 _ _ _ C1
     obtain⟨f0,f1,f2,f3⟩:=A6.o.cells;clear B3 J B9 C5 e0 e1 e2 e3 a0 a1 a2 a3 A8 A9 B0 B1;go_wp2_with fail
     refine(A4.o _ F.o).mono ?_;rintro e w4 ⟨l,S',rfl,G,s⟩;have m:db w4 w.heap.size (qA b) (ae r) d bl:=A6.o.kept (s.block _ C2);obtain⟨x0,x1,x2,x3⟩:=m.cells;obtain⟨y0,y1,y2,y3⟩:=m.free;have C3:=m.lt;have N:=aa (F.o.trans (s.mono F.o.size));have R:yH (w4.ownsRow (w.heap.size+1) 9 1 (lV (qA g2) (i.length+1) A7) (i++dm c d).length (kT (i++dm c d))):=by
      have:=rE B7.o s;show World.ownsRow _ _ _ _ _ _ _;rw[O.o];unfold kT at this⊢;rw[Uq,Vl];exact this
     have T:yH (∀j,db j w.heap.size l (ae (ay c r d).2.1) (ay c r d).2.2.1 (ay c r d).2.2.2->yW w j->xQ w w.heap.size C o j (i++dm c d) (ay c r d).1 S' l (ay c r d).2.1 (ay c r d).2.2.1 (ay c r d).2.2.2):=fun j h1 h2=>A5.o w2 j l S' F.o G h1 h2
     have U:=aa m;clear G s m f0 f1 f2 f3;unfold cz;go_wp2
     go_roundg o
     case measure=>have:=A3.o;omega
     case rel=>
      refine⟨_,_,S',l,_,_,_,T.o _ (U.o.set _ _ _ _) (sx N.o (Ug _) _ _ _ _),?_⟩;have y:w.heap.size<w.heap.size+1:=by omega
      exact VG (VG (VG (VG R.o (a:=⟨w.heap.size,0,none⟩) y _) (a:=⟨w.heap.size,1,none⟩) y _) (a:=⟨w.heap.size,2,none⟩) y _) (a:=⟨w.heap.size,3,none⟩) y _
   ·have O:yH (dm c d=[]):=by show _=_;unfold dm;rw[Ui E]
    have B2:((d:Int) == 0)=false:=by simp;omega
    have D4:(ae c.hash).toList.isEmpty=true:=by rw[H];simp;exact Va fun h=>E (.inr h)
    clear E H;go_wp2_with fail
    refine(A4.o _ n.o).mono ?_;rintro e w4 ⟨l,S',rfl,G,s⟩;have m:db w4 w.heap.size (qA b) (ae r) d bl:=D.o.here.kept (s.block _ z);obtain⟨x0,x1,x2,x3⟩:=m.cells;obtain⟨y0,y1,y2,y3⟩:=m.free;have C3:=m.lt;have N:=aa (n.o.trans (s.mono n.o.size));have R:yH (w4.ownsRow (w.heap.size+1) 9 1 u3 (i++dm c d).length (kT (i++dm c d))):=by
     have:=rE P.o s;show World.ownsRow _ _ _ _ _ _ _;rw[O.o];rw[UU];exact this
    have T:yH (∀j,db j w.heap.size l (ae (ay c r d).2.1) (ay c r d).2.2.1 (ay c r d).2.2.2->yW w j->xQ w w.heap.size C o j (i++dm c d) (ay c r d).1 S' l (ay c r d).2.1 (ay c r d).2.2.1 (ay c r d).2.2.2):=fun j h1 h2=>A5.o wr j l S' n.o G h1 h2
    have U:=aa m;clear G s m a0 a1 a2 a3 A8 A9 B0 B1 z;unfold cz;go_wp2
    go_roundg o
    case measure=>have:=A3.o;omega
    case rel=>
     refine⟨_,_,S',l,_,_,_,T.o _ (U.o.set _ _ _ _) (sx N.o (Ug _) _ _ _ _),?_⟩;have y:w.heap.size<w.heap.size+1:=by omega
     exact VG (VG (VG (VG R.o (a:=⟨w.heap.size,0,none⟩) y _) (a:=⟨w.heap.size,1,none⟩) y _) (a:=⟨w.heap.size,2,none⟩) y _) (a:=⟨w.heap.size,3,none⟩) y _
  ·have C6:c=.nil:=by cases c<;>first|rfl|exact absurd trivial hs
   subst C6;have hu:Value.pointer K=pV none:=f.at_;cases hu
   have M:yH (C=i):=by
    show _=_;rw[f.all];cases gk<;>simp[dS,Nd.isNil]
   have n:=aa f.eG;clear f A1;go_wp2
   go_ret
   rw[M.o];exact⟨u3,rfl,P.o,n.o⟩
end Go.Proofs.YtmafnmpeehmndaaGreatDoor
