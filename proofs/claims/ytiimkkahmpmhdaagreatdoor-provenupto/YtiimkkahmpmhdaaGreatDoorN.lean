import Derived.Test.YtiimkkahmpmhdaaGreatDoorL
open Go.Proofs.Tryz
open Go.Proofs.Tryz renaming prog→yP
open Go.Value renaming string→sV,pointer→pV,int→iV,slice→lV,bool→bV,tuple→tV,agg→gV
open Go.Ending renaming returned→rV
namespace Go.Proofs.YtiimkkahmpmhdaaGreatDoor
open Go.RowKit
set_option maxRecDepth 100000
set_option maxHeartbeats 0
set_option linter.all false
def bX(G:yB->Option yB)(t:Nd)(key value:yB):Nat:=if 40<key.size\/160<value.size then 1 else if value.size=0 then 4 else(aE G t key).2
def fb(G:yB->Option yB)(t:Nd)(key value:yB):Nd:=if 40<key.size\/160<value.size then t else if value.size=0 then t else(aE G t key).1
def jt(G:yB->Option yB)(t:Nd)(key value:yB):Nd:=bF (aE G t key).1 (aC key) value.data.toList
def tJ(w:World)(a:Nat)(b:Option Addr)(S:Nat->Prop)(t:Nd)(n:Nd)(u:Option Addr)(w':World):Prop:=
 ∃S' w1,dH w1 a b S' t/\(∀x,S' x->S x\/w.heap.size<=x)/\bG (fun x=>S x\/x=a) w w1/\At w' n (fun x=>S' x\/w1.heap.size<=x) (pV u)/\yW w1 w'
theorem az.nI{w a e u}(h:az w)(b:eU w a e u):3<=a:=by
 have h0:=h.words 0 (by omega);have h1:=h.turns 0 (by omega);have h2:=h.sE 0 (by omega);have c:=b.c0;refine Nat.le_of_not_lt fun d=>?_
 match a,d with
 | 0,_=>rw[c] at h0;cases h0
 | 1,_=>rw[c] at h1;cases h1
 | 2,_=>rw[c] at h2;cases h2
theorem Cf{M w tb st S t G}(hT:dH w tb st S t)(hO:lp M w st G S)(key value:yB)(A3:key.size<=maxLen)(A5:value.size<=maxLen)(hE:bX G t key value≠0):
 Calls yP 76 #[pV (some ⟨tb,0,none⟩),sV key,sV value] w fun e w'=>e=rV (tV #[pV none,iV .i64 (bX G t key value:Int)])/\fQ w tb st S (fb G t key value) w':=by
 unfold maxLen at A3 A5;by_cases hl:40<key.size\/160<value.size
 ·have HE:Hid (bX G t key value=1/\fb G t key value=t):=by unfold bX fb;rw[QX hl,QX hl];exact⟨rfl,rfl⟩
  have HT:Hid (dH w tb st S t):=hT;clear hT hO hE;generalize bX G t key value=E at*;generalize fb G t key value=T at*;by_cases hk:40<key.size
  ·have A1:(40:Int)<(key.size:Int):=by omega
   clear hk hl;go_enter func76,ntmps76
   go_wp2_with fail
   go_ret2
   rw[HE.out.1,HE.out.2];exact⟨rfl,HT.out.now (Q1 _ _)⟩
  ·have A1:¬(40:Int)<(key.size:Int):=by omega
   have A4:(160:Int)<(value.size:Int):=by omega
   clear hk hl;go_enter func76,ntmps76
   go_wp2_with fail
   go_ret2
   rw[HE.out.1,HE.out.2];exact⟨rfl,HT.out.now (Q1 _ _)⟩
 ·have hk:key.size<=40:=by omega
  have hv:value.size<=160:=by omega
  have A1:decide ((40:Int)<(key.size:Int))=false:=by simp;omega
  have A4:decide ((160:Int)<(value.size:Int))=false:=by simp;omega
  by_cases h0:value.size=0
  ·have HE:Hid (bX G t key value=4/\fb G t key value=t):=by unfold bX fb;rw[QW hl,QW hl,QX h0,QX h0];exact⟨rfl,rfl⟩
   have HT:Hid (dH w tb st S t):=hT;have A2:value.toList.isEmpty=true:=by rw[gH];exact h0
   clear hT hO hE hl;generalize bX G t key value=E at*;generalize fb G t key value=T at*;go_enter func76,ntmps76
   go_wp2_with fail
   go_ret2
   rw[HE.out.1,HE.out.2];exact⟨rfl,HT.out.now (Q1 _ _)⟩
  ·have HE:Hid (bX G t key value=(aE G t key).2/\fb G t key value=(aE G t key).1):=by unfold bX fb;rw[QW hl,QW hl,QW h0,QW h0];exact⟨rfl,rfl⟩
   have A2:value.toList.isEmpty=false:=by rw[gT];omega
   have A0:=rJ hT hO key hk;have HW:Hid (Calls yP 77 #[pV (some ⟨tb,0,none⟩),sV key] w fun e w'=>fQ w tb st S (aE G t key).1 w'/\(∃(ul:Option Addr) (rl:yL) (dl:Nat) (bl:Bool),e=rV (tV #[gV #[pV ul,sV (str rl),iV .i64 (dl:Int),bV bl],iV .i64 ((aE G t key).2:Int)])/\((aE G t key).2=0->rp w' w'.heap.size ul rl (aG (aE G t key).1 (aC key))))):=A0;rw[HE.out.1] at hE;have A6:(((aE G t key).2:Int) != 0)=true:=by simp;omega
   clear hT hO hE hl A0 h0;generalize bX G t key value=E at*;generalize fb G t key value=T at*;generalize aG (aE G t key).1 (aC key)=F at*;generalize (aE G t key).1=T1 at*;generalize (aE G t key).2=E1 at*;go_enter func76,ntmps76
   go_wp2_with fail
   refine HW.out.mono ?_;rintro e w1 ⟨hN,ul,rl,dl,bl,rfl,hL⟩;have HN:Hid (fQ w tb st S T1 w1):=hN;clear hN hL HW;go_wp2_with fail
   go_ret2
   rw[HE.out.1,HE.out.2];exact⟨rfl,HN.out.below ((Q1 _ _).alloc (QU _) _)⟩
theorem Ce{M w a i S t G}(c:dH w a i S t)(l:lp M w i G S)(key value:yB)(B:key.size<=40)(K:value.size<=160)(X:0<value.size)(q:(aE G t key).2=0):
 Calls yP 76 #[pV (qA a),sV key,sV value] w fun e w'=>∃u',e=rV (tV #[pV u',iV .i64 0])/\tJ w a i S (aE G t key).1 (jt G t key value) u' w':=by
 have o:=rJ c l key B;rw[q] at o;have E:Hid (Calls yP 77 #[pV (qA a),sV key] w fun e w'=>fQ w a i S (aE G t key).1 w'/\(∃(j:Option Addr) (g:yL) (d:Nat) (bl:Bool),e=rV (tV #[gV #[pV j,sV (str g),iV .i64 (d:Int),bV bl],iV .i64 0]))):=
  o.mono fun e w' ⟨h1,j,g,d,bl,h2,_⟩=>⟨h1,j,g,d,bl,h2⟩
 have O:Hid (∀W:World,Calls yP 111 #[sV key] W fun e w'=>e=rV (sV (str (aC key)))/\yW W w'):=fun W=>Ct key (by omega) W
 have F:Hid (∀(w1:World) (S':Nat->Prop) (u1:Option Addr),At w1 (aE G t key).1 S' (pV u1)->az w1->∀W,yW w1 W->Calls yP 110 #[pV u1,sV (str (aC key)),sV value] W (Made w1 S' (jt G t key value))):=fun w1 S' u1 k T W y=>by
  have:=Ib (aE G t key).1 W S' u1 (aC key) value.data.toList (k.below y) (jf G t key c.ok).aJ (kA G t key c.ok B q) (ch key) (by rw[gA];omega) (by simpa using K) (T.below y);rw[jc] at this;exact this.mono fun e w' h=>h.after y
 have D:Hid (∀w1,bG (fun x=>S x\/x=a) w w1->az w1):=fun w1 h=>l.bt.mK h fun x f=>by
  rcases f with f|f
  ·exact(c.own x f).1
  ·rw[f];obtain⟨u,h1,_⟩:=c.at_;exact l.bt.nI h1
 have Z:decide ((40:Int)<(key.size:Int))=false:=by simp;omega
 have A0:decide ((160:Int)<(value.size:Int))=false:=by simp;omega
 have Y:value.toList.isEmpty=false:=by rw[gT];omega
 clear c l B K q o X;generalize jt G t key value=R at*;generalize (aE G t key).1=T1 at*;generalize str (aC key)=P at*;go_enter func76,ntmps76
 go_wp2_with fail
 refine E.out.mono ?_;rintro e w0 ⟨U,j,g,d,bl,rfl⟩;obtain⟨⟨S',s,J⟩,v⟩:=U;obtain⟨u,r,k⟩:=s.at_;have Q:=aa (F.out w0 S' u k (D.out w0 v));have n:Hid (dH w0 a i S' T1/\(∀x,S' x->S x\/w.heap.size<=x)/\bG (fun x=>S x\/x=a) w w0):=⟨s,J,v⟩
 have d1:=r.c1;have I:=r.lt;clear s J v r k E F D;go_wp2_with fail
 obtain⟨b,m⟩:=yX (w0.alloc (.cells #[pV j,sV (str g),iV .i64 (d:Int),bV bl] 127))
 have z:yW w0 b:=by rw[m];exact(Q1 _ _).alloc (QU _) _
 have c1:b.cell? ⟨a,1,none⟩=some (pV u):=by rw[m,World.cell?_alloc_lt _ _ _ I];exact d1
 have V:=Q6 I z.size;have C:=aa z;rw[<-m];clear m z d1;go_region_with (first| (go_at_call 111;refine(O.out _).mono ?_;rintro e2 w2 ⟨rfl,A⟩;have c2:w2.cell? ⟨a,1,none⟩=some (pV u):=(A.cell (p:=⟨a,1,none⟩) V).trans c1;have L:Hid (yW w0 w2):=C.out.drew.trans (A.mono C.out.size);clear A) | (go_at_call 110;refine(Q.out _ L.out).mono ?_;rintro e3 w3 ⟨u3,rfl,H⟩;have N:Hid _:=H;clear H))
 all_goals
  go_wp2_with fail
  go_ret2
  exact⟨u3,rfl,S',w0,n.out.1,n.out.2.1,n.out.2.2,N.out⟩
theorem sg{G t key value}(h:bX G t key value=0):key.size<=40/\value.size<=160/\0<value.size/\(aE G t key).2=0/\fb G t key value=(aE G t key).1:=by
 unfold bX at h;by_cases h1:40<key.size\/160<value.size
 ·rw[QX h1] at h;cases h
 ·rw[QW h1] at h;by_cases h2:value.size=0
  ·rw[QX h2] at h;cases h
  ·rw[QW h2] at h;refine⟨by omega,by omega,by omega,h,?_⟩;unfold fb;rw[QW h1,QW h2]
theorem qq{G t key value}(a:aw t 0)(h:bX G t key value=0):aw (jt G t key value) 0:=by
 obtain⟨h1,h2,h3,h4,_⟩:=sg h;have b:value.data.toList.length=value.size:=by simp
 exact wK (jf G t key a) (kA G t key a h1 h4) (ch key) (by rw[gA];omega) (fun e=>by rw[e] at b;simp at b;omega) (by omega)
def bC(G:yB->Option yB)(t:Nd)(key value:yB):Nd:=if bX G t key value=0 then jt G t key value else fb G t key value
theorem tJ.set{w c l S t n u w'}(h:tJ w c l S t n u w')(d:aw n 0)(h3:3<=w.heap.size):fQ w c l S n (w'.setCell ⟨c,1,none⟩ (pV u)):=by
 obtain⟨S',w1,g,p,j,m,i⟩:=h;obtain⟨u0,q1,q2⟩:=g.at_;have r:=j.size;have s:=i.size;have q:=q1.lt;have f:∀x,(S' x\/w1.heap.size<=x)->3<=x/\x≠c:=fun x a=>by
  rcases a with a|a
  ·exact⟨(g.own x a).1,(g.own x a).2.1⟩
  ·exact⟨by omega,by omega⟩
 refine⟨⟨fun x=>(S' x\/w1.heap.size<=x)/\x<w'.heap.size,⟨⟨u,(q1.kept (i.block c q)).set u,m.cut.kept fun x a _=>Rc _ _ _ _ (f x a.1).2⟩,d,fun x a=>⟨(f x a.1).1,(f x a.1).2,by simpa using a.2⟩⟩,fun x a=>a.1.elim (p x) fun h=>.inr (Q7 r h)⟩,?_⟩;have b:=j.ki i;exact⟨b.os,b.tape,b.output,by simpa using b.size,fun k o d=>by rw[Rc _ _ _ _ (fun e=>d (.inr e))];exact b.block k o d⟩
theorem tJ.now{w b a S t n u w'}(h:tJ w b a S t n u w'):fQ w b a S t w':=by
 obtain⟨S',w1,d,f,c,_,e⟩:=h;exact fQ.below ⟨⟨S',d,f⟩,c⟩ e
theorem zY{M:Nat->Prop}{w:World}{a:Nat}{c:Option Addr}{S:Nat->Prop}{t:Nd}{G:yB->Option yB}(g:dH w a c S t)(f:lp M w c G S)(key value:yB)(j:key.size<=maxLen)(k:value.size<=maxLen):
 Calls yP 31 #[pV (qA a),sV key,sV value] w fun e w'=>e=rV (iV .i64 (bX G t key value:Int))/\fQ w a c S (bC G t key value) w':=by
 by_cases b:bX G t key value=0
 ·obtain⟨h1,h2,h3,h4,h5⟩:=sg b;have d:Hid (Calls yP 76 #[pV (qA a),sV key,sV value] w fun e w'=>∃u',e=rV (tV #[pV u',iV .i64 0])/\Hid (tJ w a c S (aE G t key).1 (jt G t key value) u' w')):=Ce g f key value h1 h2 h3 h4;have h:Hid (bX G t key value=0/\bC G t key value=jt G t key value):=⟨b,by unfold bC;rw[QX b]⟩
  have i:Hid (aw (jt G t key value) 0):=qq g.ok b;have n:=f.bt.size;clear g f b h1 h2 h3 h4 h5 j k;generalize bX G t key value=E at*;generalize bC G t key value=T at*;generalize jt G t key value=N at*;generalize (aE G t key).1=T1 at*;go_enter func31,ntmps31
  go_wp2_with fail
  refine d.out.mono ?_;rintro e w1 ⟨u1,rfl,l⟩;obtain⟨u2,d1,f1,q⟩:∃u2,w1.cell? ⟨a,1,none⟩=some (pV u2)/\w1.frozen? ⟨a,1,none⟩=false/\a<w1.heap.size:=by
   obtain⟨⟨S',o,_⟩,_⟩:=l.out.now;obtain⟨u2,q1,_⟩:=o.at_;exact⟨u2,q1.c1,q1.free 1,q1.lt⟩
  clear d;go_wp2_with fail
  go_ret
  rw[h.out.1,h.out.2];exact⟨rfl,l.out.set i.out n⟩
 ·have d:Hid (Calls yP 76 #[pV (qA a),sV key,sV value] w fun e w'=>e=rV (tV #[pV none,iV .i64 (bX G t key value:Int)])/\fQ w a c S (fb G t key value) w'):=Cf g f key value j k b;have h:Hid (bC G t key value=fb G t key value):=by show _=_;unfold bC;rw[QW b]
  have p:((bX G t key value:Int) != 0)=true:=by simp;omega
  clear g f b j k;generalize bX G t key value=E at*;generalize bC G t key value=T at*;generalize fb G t key value=T1 at*;go_enter func31,ntmps31
  go_wp2_with fail
  refine d.out.mono ?_;rintro e w1 ⟨rfl,m⟩;have i:Hid (fQ w a c S T1 w1):=m;clear d m;go_wp2_with fail
  go_ret
  rw[h.out];exact⟨rfl,i.out⟩
theorem QI{M:Nat->Prop}{w:World}{b:Nat}{f:Option Addr}{S:Nat->Prop}{t:Nd}{G:yB->Option yB}(a:dH w b f S t)(d:lp M w f G S)(key value:yB)(l:key.size<=maxLen)(m:value.size<=maxLen):
 Calls yP 132 #[pV (qA b),sV key,sV value] w fun e w'=>e=rV (tV #[sV (if bX G t key value=0 then str (bM (jt G t key value)) else⟨#[]⟩),iV .i64 (bX G t key value:Int)])/\fQ w b f S (fb G t key value) w':=by
 have k:Hid (∀w1,bG (fun x=>S x\/x=b) w w1->az w1):=fun w1 h=>d.bt.mK h fun x i=>by
  rcases i with i|i
  ·exact(a.own x i).1
  ·rw[i];obtain⟨u,h1,_⟩:=a.at_;exact d.bt.nI h1
 by_cases c:bX G t key value=0
 ·obtain⟨h1,h2,h3,h4,h5⟩:=sg c;have g:Hid (Calls yP 76 #[pV (qA b),sV key,sV value] w fun e w'=>∃u',e=rV (tV #[pV u',iV .i64 0])/\Hid (tJ w b f S (aE G t key).1 (jt G t key value) u' w')):=Ce a d key value h1 h2 h3 h4;rw[QX c,c,h5];have j:Hid (aw (jt G t key value) 0):=qq a.ok c;clear a d c h1 h2 h3 h4 h5 l m;generalize jt G t key value=N at*;generalize (aE G t key).1=T1 at*;go_enter func132,ntmps132
  go_wp2_with fail
  refine g.out.mono ?_;rintro e w1 ⟨u1,rfl,n⟩;have o:Hid (Calls yP 81 #[pV u1] w1 fun e w'=>e=rV (sV (str (bM N)))/\yW w1 w'):=by
   have y:=n.out;obtain⟨S',w2,A,B,a,s,v⟩:=y;exact BP w1 N _ u1 s j.out.aJ (k.out w1 (a.ki v))
  clear g k j;go_wp2_with fail
  refine o.out.mono ?_;rintro e w2 ⟨rfl,q⟩;have r:Hid (yW w1 w2):=q;clear q o;go_wp2_with fail
  go_ret2
  exact⟨rfl,n.out.now.below r.out⟩
 ·have g:Hid (Calls yP 76 #[pV (qA b),sV key,sV value] w fun e w'=>e=rV (tV #[pV none,iV .i64 (bX G t key value:Int)])/\fQ w b f S (fb G t key value) w'):=Cf a d key value l m c;rw[QW c];have z:((bX G t key value:Int) != 0)=true:=by simp;omega
  clear a d c l m k;generalize bX G t key value=E at*;generalize fb G t key value=T1 at*;go_enter func132,ntmps132
  go_wp2_with fail
  refine g.out.mono ?_;rintro e w1 ⟨rfl,p⟩;have j:Hid (fQ w b f S T1 w1):=p;clear g p;go_wp2_with fail
  go_ret2
  exact⟨rfl,j.out⟩
def aA(t:Nd)(r:yL)(d:Nat):Nd×yL×Nat×Bool:=match t with
 | .ext _ q k=>if aF q r=q.length then(k,r.drop q.length,d+q.length,true) else(.nil,[],0,false)
 | .branch _ _ ks=>match r with
  | []=>(.nil,[],0,false)
  |c::r=>(ks c.toNat,r,d+1,false)
 | _=>(.nil,[],0,false)
def dZ(t:Nd)(d:Nat):List yL:=if d=0\/t.hash≠[] then [t.code] else []
def eG:Nat->Nd->yL->Nat->List yL
 | 0,_,_,_=>[]
 |f+1,t,r,d=>if t.isNil=true then [] else dZ t d++eG f (aA t r d).1 (aA t r d).2.1 (aA t r d).2.2.1
structure Ab(w:World)(S:Nat->Prop)(t:Nd)(r:yL)(d:Nat)(u:Option Addr)(S':Nat->Prop):Prop where
 at_:At w (aA t r d).1 S' (pV u)
 sub:∀x,S' x->S x
 opened:dw (aA t r d).1 (aA t r d).2.1
 ok:aw (aA t r d).1 (aA t r d).2.2.1
 lz:ak (aA t r d).2.1
 deep:(aA t r d).2.2.1+(aA t r d).2.1.length<=80
 less:(aA t r d).1≠.nil->(aA t r d).2.1.length+1<=r.length
def GQ(W:World)(S:Nat->Prop)(t:Nd)(r:yL)(d:Nat)(e:Ending)(w':World):Prop:=
 ∃u S',e=rV (cd (pV u) (str (aA t r d).2.1) (aA t r d).2.2.1 (aA t r d).2.2.2)/\Ab W S t r d u S'/\yW W w'
theorem xV{W S t r d}(h:aA t r d=(.nil,[],0,false)):Ab W S t r d none (fun _=>False):=by
 constructor<;>(try rw[h])
 ·rfl
 ·exact fun _ h=>h.elim
 ·trivial
 ·exact lB 0
 ·exact fun _ h=>(Si h).elim
 ·decide
 ·exact fun h=>absurd rfl h
theorem Hj(W S t)(b:Nat)(r)(d:Nat)(bl:Bool)(f:At W t S (pV (qA b)))(i:aw t d)(o:dw t r)(n:ak r)(E:d+r.length<=80):
 Calls yP 113 #[cd (pV (qA b)) (str r) d bl] W (GQ W S t r d):=by
 have u:=i.aJ;cases t with
 |nil=>have h:Value.pointer (qA b)=pV none:=f;cases h
 |unread _=>exact o.elim
 |leaf h q v=>
  obtain⟨l,a,_,B⟩:=f;cases a
  exact(yj b h q v _ _ r (by have:=u.2.2.1;omega) d bl W B).mono fun e w' ⟨h1,h2⟩=>⟨none,_,h1,xV rfl,h2⟩
 |ext h q k=>
  obtain⟨l,L,C,a,D,B,G,w⟩:=f;cases a
  obtain⟨A,rfl⟩:=w.ptr;have K:=u.2.2.1;by_cases e:aF q r=q.length
  ·have m:aF r q=q.length:=by rw[nL];exact e
   have F:=(g9 q r).2;rw[e] at F;have J:=Sj.2 i.bu.1;have g:aA (.ext h q k) r d=(k,r.drop q.length,d+q.length,true):=by simp only[aA,QX e]
   refine(uZ b h q k A _ r (by omega) (by omega) m d (by omega) bl W B).mono fun en w' ⟨h1,h2⟩=>⟨A,C,by rw[g];exact h1,?_,h2⟩
   constructor<;>(try rw[g])
   ·exact w
   ·exact fun x p=>(G x p).1
   ·exact o e
   ·exact dY i
   ·exact cS n _
   ·show d+q.length+(r.drop q.length).length<=80;rw[Q8];omega
   ·intro _;show(r.drop q.length).length+1<=r.length;rw[Q8];omega
  ·have m:aF r q≠q.length:=by rw[nL];exact e
   have g:aA (.ext h q k) r d=(.nil,[],0,false):=by simp only[aA,QW e]
   exact(yk b h q k _ _ r (by omega) (by omega) m d bl W B).mono fun en w' ⟨h1,h2⟩=>⟨none,_,by rw[g];exact h1,xV g,h2⟩
 |branch h v ks=>
  cases r with
  |nil=>
   obtain⟨l,M,s,a,_,B,_⟩:=f;cases a
   exact(yl b h v ks _ _ d bl W B).mono fun en w' ⟨h1,h2⟩=>⟨none,_,h1,xV rfl,h2⟩
  |cons c r=>
   obtain⟨l,U,s,a,D,B,z⟩:=f.kids;cases a
   have j:=n c (QY ..);have I:r.length+1+d<=80:=by simp at E;omega
   refine(u7 b h v ks _ _ c r j (U c.toNat) rfl (by omega) d (by omega) bl W B).mono fun en w' ⟨h1,h2⟩=>⟨U c.toNat,s c.toNat,h1,⟨z.at_ _ j,fun x p=>(z.sub _ x j p).1,o,di i _ j,fun y H=>n y (QZ _ H),?_,?_⟩,h2⟩
   ·show d+1+r.length<=80;omega
   ·intro _;simp[aA]
theorem ng:(yP.info? 9).map (fun i=>(i.zero,i.size,i.bytes))=some (some (sV ⟨#[]⟩),1,16):=by kernel_rfl
def jO(l:List yL):List Value:=l.map fun x=>sV (str x)
structure wi(w:World)(ga:Nat)(C:List yL)(g:Nat)(wr:World)(done:List yL)(t:Nd)(S:Nat->Prop)(u:Option Addr)(r:yL)(d:Nat)(bl:Bool):Prop where
 here:cU wr ga u (str r) d bl
 at_:At w t S (pV u)
 lt:∀x,S x->x<w.heap.size
 opened:dw t r
 ok:aw t d
 lz:ak r
 deep:d+r.length<=80
 fuel:t≠.nil->r.length+1<=g
 all:C=done++eG g t r d
 qT:done.length+g<=81
 dD:yW w wr
theorem Pe(w:World)(u:Option Addr)(t:Nd)(S:Nat->Prop)(r:yL)(hA:At w t S (pV u))(hK:aw t 0)(ho:dw t r)(hn:ak r)(hd:r.length<=80):
 Calls yP 87 #[cd (pV u) (str r) 0 false] w fun e w'=>∃v,e=rV v/\w'.ownsRow (w.heap.size+1) 9 1 v (eG 81 t r 0).length (jO (eG 81 t r 0))/\yW w w':=by
 have HA:=aa hA.cut;have HP:Hid (aw t 0/\dw t r/\ak r/\r.length<=80):=⟨hK,ho,hn,hd⟩
 obtain⟨C,hC⟩:=yX (eG 81 t r 0)
 rw[<-hC];have HC:=aa hC;obtain⟨i0,C2,C6,C7,C8⟩:=Sf ng;clear hA hK ho hn hd hC;unfold cd;go_enter func87,ntmps87
 go_wp2_with fail
 go_loopg [3] 81 (fun g sl wr=>∃done c D P r d bl,wi w w.heap.size C g wr done c D P r d bl/\wr.ownsRow (w.heap.size+1) 9 1 sl done.length (jO done))
 case atStart=>
  obtain⟨h1,h2,h3,h4⟩:=HP.out;refine⟨[],t,_,u,r,0,false,⟨Rl _ _,HA.out,fun x J=>J.2,h2,h1,h3,by omega,fun _=>by omega,HC.out,by simp,(Q1 _ _).alloc (QU _) _⟩,RO _ _ _ _⟩
 case round=>
  obtain⟨i,c,D,P,r,d,bl,f,A3⟩:=hrel;have A:=aa f;have L:=aa A3;obtain⟨a0,a1,a2,a3⟩:=f.here.cells;obtain⟨B0,B1,B2,B3⟩:=f.here.free;have z:=f.here.lt;by_cases G:c.some
  ·obtain⟨b,C9,D0,hu,C5,B⟩:=f.at_.ah G;cases hu
   have A2:c≠.nil:=fun e=>by rw[e] at G;exact G
   obtain⟨o,A1⟩:∃o,gk=o+1:=⟨gk - 1,by have:=f.fuel A2;omega⟩
   have A4:c.read:=by
    have:=f.opened;cases c<;>first|exact G.elim|exact this.elim|trivial
   have Q:bL wr b c C9 D0:=(f.dD.block b B.lt).trans B;have c1:=Q.c1;have U:Hid (∀W,yW w W->Calls yP 116 #[pV (qA b)] W fun e w'=>e=rV (sV (str c.code))/\yW W w'):=fun W hW=>vW W c D _ (f.at_.below hW) f.ok.aJ.jS A4 (f.ok.aJ.nw A4)
   have K:Hid (∀W,yW w W->Calls yP 113 #[gV #[pV (qA b),sV (str r),iV .i64 (d:Int),bV bl]] W (GQ W D c r d)):=fun W hW=>Hj W D c b r d bl (f.at_.below hW) f.ok f.opened f.lz f.deep
   have R:Hid (C=i++(dZ c d++eG o (aA c r d).1 (aA c r d).2.1 (aA c r d).2.2.1)):=by
    show _=_;rw[f.all,A1];simp only[eG];rw[QW (by rw[(gn c).2 G];simp)]
   have A6:=aa A1;have n:=aa f.dD;have D3:i.length<=81:=by have:=f.qT;omega
   have I:=jP c.hash;have N:Hid (∀(W3 j:World) (l:Option Addr) (S':Nat->Prop),yW w W3->Ab W3 D c r d l S'->cU j w.heap.size l (str (aA c r d).2.1) (aA c r d).2.2.1 (aA c r d).2.2.2->yW w j->wi w w.heap.size C o j (i++dZ c d) (aA c r d).1 S' l (aA c r d).2.1 (aA c r d).2.2.1 (aA c r d).2.2.2):=fun W3 j l S' h1 h2 h3 h4=>by
    refine⟨h3,h2.at_.kept fun x J _=>(h1.block x (A.out.lt x (h2.sub x J))).symm,fun x J=>A.out.lt x (h2.sub x J),h2.opened,h2.ok,h2.lz,h2.deep,fun hk=>?_,by rw[Rn];exact R.out,?_,h4⟩
    ·have:=h2.less hk;have:=A.out.fuel A2;omega
    ·have:=A.out.qT;have hl:(dZ c d).length<=1:=by unfold dZ;split<;>simp
     rw[Q4];omega
   have D1:b<wr.heap.size:=Q.lt;clear f A3 A2 A4 B Q C5 A1;by_cases F:d=0\/c.hash≠[]
   ·have V:Hid (dZ c d=[c.code]):=by show _=_;unfold dZ;rw[QX F]
    have B8:((d:Int) == 0)=true\/(((d:Int) == 0)=false/\(str c.hash).toList.isEmpty=false):=by
     by_cases h0:d=0
     ·left;simp[h0]
     ·right;exact⟨by simp;omega,by rw[I];simp;exact F.resolve_left h0⟩
    generalize c.code=CO at*;clear F I;go_upto_region 3 with fail
    go_cut [17] (fun v wx=>v=bV true/\wx=wr)
    case first=>
     rcases B8 with B4|⟨B4,I⟩;all_goals
      go_wp2_with fail
      go_meet
      exact⟨rfl,rfl⟩
    case rest=>
     obtain⟨rfl,rfl⟩:=hcut;go_wp2_with fail
     refine(U.out _ n.out).mono ?_;rintro e w1 ⟨rfl,q⟩;have A5:=aa (n.out.trans (q.mono n.out.size));have M:=aa (qz L.out q);have e0:=(q.cell (p:=⟨w.heap.size,0,none⟩) z).trans a0;have e1:=(q.cell (p:=⟨w.heap.size,1,none⟩) z).trans a1;have e2:=(q.cell (p:=⟨w.heap.size,2,none⟩) z).trans a2;have e3:=(q.cell (p:=⟨w.heap.size,3,none⟩) z).trans a3;have B6:cU w1 w.heap.size (qA b) (str r) d bl:=A.out.here.kept (q.block _ z);have A8:=aa B6;have B9:w.heap.size<w1.heap.size:=Q6 z q.size;clear q U B6;go_wp2_with (at_builtin;refine RG _ rfl (.tmp 18) (.tmp 22) 63 rfl (w.heap.size+1) 9 i0 (sV ⟨#[]⟩) 1 16 underlying63 C2 C6 C7 C8 rfl (by decide) _ i.length (jO i) rfl (M.out.alloc _) ⟨w1.heap.size,0,none⟩ 1 1 [sV (str CO)] rfl rfl (So _ _ _) ?c2 (by omega) ?c3 ?c4 ?c5 _ rfl ?c6)
     case c2=>intro v hv;simp at hv;subst hv;rfl
     case c3=>unfold maxLen;omega
     case c4=>omega
     case c5=>simp;omega
     intro g2 A9 w2 B5 O B7 C3;have A7:=aa B5;have E:Hid (yW w w2):=(A5.out.alloc (by omega) _).grown O (by simp;omega) (fun k hk=>by have:=(M.out.lt k hk).1;omega);have C0:w.heap.size<w2.heap.size:=by have:=E.out.size;have:=O.size;simp at this;omega
     have Z:Hid (cU w2 w.heap.size (qA b) (str r) d bl):=by
      show cU _ _ _ _ _ _;refine A8.out.kept ?_;rw[O.block w.heap.size (by simp;omega) (fun h=>by have:=(M.out.lt _ h.symm).1;omega)];exact RL _ _ _ B9
     obtain⟨f0,f1,f2,f3⟩:=Z.out.cells;clear B5 O B7 C3 M A5 e0 e1 e2 e3 a0 a1 a2 a3 B0 B1 B2 B3 A8;go_wp2_with fail
     refine(K.out _ E.out).mono ?_;rintro e w4 ⟨l,S',rfl,H,s⟩;have m:cU w4 w.heap.size (qA b) (str r) d bl:=Z.out.kept (s.block _ C0);obtain⟨x0,x1,x2,x3⟩:=m.cells;obtain⟨y0,y1,y2,y3⟩:=m.free;have C1:=m.lt;have T:=aa (E.out.trans (s.mono E.out.size));have X:Hid (w4.ownsRow (w.heap.size+1) 9 1 (lV (qA g2) (i.length+1) A9) (i++dZ c d).length (jO (i++dZ c d))):=by
      have:=qz A7.out s;show World.ownsRow _ _ _ _ _ _ _;rw[V.out];unfold jO at this⊢;rw[Q4,R9];exact this
     have Y:Hid (∀j,cU j w.heap.size l (str (aA c r d).2.1) (aA c r d).2.2.1 (aA c r d).2.2.2->yW w j->wi w w.heap.size C o j (i++dZ c d) (aA c r d).1 S' l (aA c r d).2.1 (aA c r d).2.2.1 (aA c r d).2.2.2):=fun j h1 h2=>N.out w2 j l S' E.out H h1 h2
     have A0:=aa m;clear H s m N A7 E K Z f0 f1 f2 f3;unfold cd;go_wp2_with fail
     go_roundg o
     case measure=>have:=A6.out;omega
     case rel=>
      refine⟨_,_,S',l,_,_,_,Y.out _ (A0.out.set _ _ _ _) (q9 T.out (QU _) _ _ _ _),?_⟩;have y:w.heap.size<w.heap.size+1:=by omega
      exact Sy (Sy (Sy (Sy X.out (a:=⟨w.heap.size,0,none⟩) y _) (a:=⟨w.heap.size,1,none⟩) y _) (a:=⟨w.heap.size,2,none⟩) y _) (a:=⟨w.heap.size,3,none⟩) y _
   ·have V:Hid (dZ c d=[]):=by show _=_;unfold dZ;rw[QW F]
    have B4:((d:Int) == 0)=false:=by simp;omega
    have D2:(str c.hash).toList.isEmpty=true:=by rw[I];simp;exact RQ fun h=>F (.inr h)
    clear F I U;go_wp2_with fail
    refine(K.out _ n.out).mono ?_;rintro e w4 ⟨l,S',rfl,H,s⟩;have m:cU w4 w.heap.size (qA b) (str r) d bl:=A.out.here.kept (s.block _ z);obtain⟨x0,x1,x2,x3⟩:=m.cells;obtain⟨y0,y1,y2,y3⟩:=m.free;have C1:=m.lt;have T:=aa (n.out.trans (s.mono n.out.size));have X:Hid (w4.ownsRow (w.heap.size+1) 9 1 u3 (i++dZ c d).length (jO (i++dZ c d))):=by
     have:=qz L.out s;show World.ownsRow _ _ _ _ _ _ _;rw[V.out];rw[Rz];exact this
    have Y:Hid (∀j,cU j w.heap.size l (str (aA c r d).2.1) (aA c r d).2.2.1 (aA c r d).2.2.2->yW w j->wi w w.heap.size C o j (i++dZ c d) (aA c r d).1 S' l (aA c r d).2.1 (aA c r d).2.2.1 (aA c r d).2.2.2):=fun j h1 h2=>N.out wr j l S' n.out H h1 h2
    have A0:=aa m;clear H s m N L n K A a0 a1 a2 a3 B0 B1 B2 B3 z;unfold cd;go_wp2_with fail
    go_roundg o
    case measure=>have:=A6.out;omega
    case rel=>
     refine⟨_,_,S',l,_,_,_,Y.out _ (A0.out.set _ _ _ _) (q9 T.out (QU _) _ _ _ _),?_⟩;have y:w.heap.size<w.heap.size+1:=by omega
     exact Sy (Sy (Sy (Sy X.out (a:=⟨w.heap.size,0,none⟩) y _) (a:=⟨w.heap.size,1,none⟩) y _) (a:=⟨w.heap.size,2,none⟩) y _) (a:=⟨w.heap.size,3,none⟩) y _
  ·have C4:c=.nil:=by cases c<;>first|rfl|exact absurd trivial G
   subst C4;have hu:Value.pointer P=pV none:=f.at_;cases hu
   have R:Hid (C=i):=by
    show _=_;rw[f.all];cases gk<;>simp[eG,Nd.isNil]
   have n:=aa f.dD;clear f A3;go_wp2_with fail
   go_ret
   rw[R.out];exact⟨u3,rfl,L.out,n.out⟩
def bj(G:yB->Option yB)(t:Nd)(key:yB):List yL:=if 40<key.size then [] else if(aE G t key).2=0 then eG 81 (aE G t key).1 (aC key) 0 else []
theorem l9{w:World}{base base' e a v n b}(h:w.ownsRow base e a v n b)(d:base'<=base):w.ownsRow base' e a v n b:=by
 refine⟨h.1,?_⟩;rcases h.2 with h0|⟨g,cap,c,j,f,i⟩
 ·exact .inl h0
 ·exact .inr ⟨g,cap,c,j,Q7 d f,i⟩
theorem zZ{M w b d S t G}(c:dH w b d S t)(n:lp M w d G S)(key:yB)(Q:key.size<=maxLen):
 Calls yP 45 #[pV (qA b),sV key] w fun e w'=>∃v w1,e=rV (tV #[v,iV .i64 (cE G t key:Int)])/\fQ w b d S (bg G t key) w1/\yW w1 w'/\w'.ownsRow w1.heap.size 9 1 v (bj G t key).length (jO (bj G t key))/\(cE G t key≠0->v=lV none 0 0):=by
 unfold maxLen at Q;by_cases a:40<key.size
 ·have f:Hid (bj G t key=[]/\cE G t key=1/\bg G t key=t):=by unfold bj cE bg;rw[QX a,QX a,QX a];exact⟨rfl,rfl,rfl⟩
  have N:=aa c;have P:(40:Int)<(key.size:Int):=by omega
  clear c n a;generalize bj G t key=V at*;generalize cE G t key=E at*;generalize bg G t key=T at*;go_enter func45,ntmps45
  go_wp2_with fail
  go_ret2
  obtain⟨h1,h2,h3⟩:=f.out;rw[h1,h2,h3];exact⟨_,w,rfl,N.out.now (Q1 _ _),Q1 _ _,RO _ _ _ _,fun _=>rfl⟩
 ·have o:key.size<=40:=by omega
  have r:=rJ c n key o;have f:Hid (cE G t key=(aE G t key).2/\bg G t key=(aE G t key).1/\bj G t key=if(aE G t key).2=0 then eG 81 (aE G t key).1 (aC key) 0 else []):=by unfold bj cE bg;rw[QW a,QW a,QW a];exact⟨rfl,rfl,rfl⟩
  have g:Hid (Calls yP 77 #[pV (qA b),sV key] w fun e w'=>fQ w b d S (aE G t key).1 w'/\(∃(l:Option Addr) (k:yL) (i:Nat) (bl:Bool),e=rV (tV #[gV #[pV l,sV (str k),iV .i64 (i:Int),bV bl],iV .i64 ((aE G t key).2:Int)]))):=
   r.mono fun e w' ⟨h1,l,k,i,bl,h2,_⟩=>⟨h1,l,k,i,bl,h2⟩
  have P:decide ((40:Int)<(key.size:Int))=false:=by simp;omega
  by_cases h0:(aE G t key).2=0
  ·have z:Hid (aw (aE G t key).1 0/\dw (aE G t key).1 (aC key)):=⟨jf G t key c.ok,kA G t key c.ok o h0⟩
   have p:Hid (cE G t key=0/\bg G t key=(aE G t key).1/\bj G t key=eG 81 (aE G t key).1 (aC key) 0):=by
    obtain⟨h1,h2,h3⟩:=f.out;rw[QX h0] at h3;exact⟨h1.trans h0,h2,h3⟩
   have A:Hid (∀(u:Option Addr) (W:World),Calls yP 80 #[pV u,sV key] W fun e w'=>e=rV (gV #[pV u,sV (str (aC key)),iV .i64 0,bV false])/\yW W w'):=fun u W=>uo u key (by omega) W
   have J:Hid ((aC key).length<=80):=by show _<=80;rw[gA];omega
   have K:=aa (ch key);rw[h0] at g;clear c n a o r f h0;generalize bj G t key=V at*;generalize cE G t key=E at*;generalize bg G t key=T at*;generalize (aE G t key).1=T1 at*;generalize aC key=KP at*;go_enter func45,ntmps45
   go_wp2_with fail
   refine g.out.mono ?_;rintro e w1 ⟨j,l,k,i,bl,rfl⟩;have q:=aa j;obtain⟨⟨S',C,_⟩,D⟩:=j;obtain⟨u,s,B⟩:=C.at_;have d1:=s.c1;have U:=s.lt;have X:=D.size;have y:Hid (∀W,yW w1 W->Calls yP 87 #[gV #[pV u,sV (str KP),iV .i64 0,bV false]] W fun e w'=>∃v,e=rV v/\w'.ownsRow (W.heap.size+1) 9 1 v (eG 81 T1 KP 0).length (jO (eG 81 T1 KP 0))/\yW W w'):=fun W O=>Pe W u T1 S' KP (B.below O) z.out.1 z.out.2 K.out J.out
   clear C D s B g;go_wp2_with fail
   refine(A.out u _).mono ?_;rintro e w2 ⟨rfl,x⟩;have m:=aa (((Q1 w1.heap.size w1).alloc (QU _) _).trans (x.mono (by simp)));have Y:w1.heap.size<w2.heap.size:=by have:=x.size;simp at this;omega
   clear x A;go_wp2_with fail
   refine(y.out _ (m.out.alloc m.out.size _)).mono ?_;rintro e w3 ⟨v,rfl,H,F⟩;have I:Hid (yW w1 w3):=(m.out.alloc m.out.size _).trans (F.mono (by simp;omega));have L:Hid (w3.ownsRow w1.heap.size 9 1 v (eG 81 T1 KP 0).length (jO (eG 81 T1 KP 0))):=l9 H (by simp;omega);clear H F y;go_wp2_with fail
   go_ret2
   obtain⟨h1,h2,h3⟩:=p.out;rw[h1,h2,h3];exact⟨v,w1,rfl,q.out,I.out,L.out,fun h=>absurd rfl h⟩
  ·have R:(((aE G t key).2:Int) != 0)=true:=by simp;omega
   have p:Hid (cE G t key=(aE G t key).2/\bg G t key=(aE G t key).1/\bj G t key=[]):=by
    obtain⟨h1,h2,h3⟩:=f.out;rw[QW h0] at h3;exact⟨h1,h2,h3⟩
   clear c n a o r f h0;generalize bj G t key=V at*;generalize cE G t key=E at*;generalize bg G t key=T at*;generalize (aE G t key).1=T1 at*;generalize (aE G t key).2=E1 at*;go_enter func45,ntmps45
   go_wp2_with fail
   refine g.out.mono ?_;rintro e w1 ⟨j,l,k,i,bl,rfl⟩;have q:=aa j;clear j g;go_wp2_with fail
   go_ret2
   obtain⟨h1,h2,h3⟩:=p.out;rw[h1,h2,h3];exact⟨_,w1,rfl,q.out,(Q1 _ _).alloc (QU _) _,RO _ _ _ _,fun _=>rfl⟩
theorem QL{M w b a S t G}(d:dH w b a S t)(c:lp M w a G S)(key:yB)(f:key.size<=maxLen):
 Calls yP 45 #[pV (qA b),sV key] w fun e w'=>(∃v,e=rV (tV #[v,iV .i64 (cE G t key:Int)])/\w'.ownsRow w.heap.size 9 1 v (bj G t key).length (jO (bj G t key)))/\fQ w b a S (bg G t key) w':=
 (zZ d c key f).mono fun _ _ ⟨v,_,h1,h2,h3,h4,_⟩=>⟨⟨v,h1,l9 h4 h2.2.size⟩,h2.below h3⟩
def fD(w:World)(v:Value)(b:List yB):Prop:=∃(a:Option Addr) (cap:Nat),v=lV a b.length cap/\(b=[]\/∃g o,a=some ⟨g,o,none⟩/\∀i p,b[i]? =some p->w.cell? ⟨g,o+i,none⟩=some (sV p))
theorem fD.below{w w' v b}(h:fD w v b)(c:yW w w'):fD w' v b:=by
 obtain⟨a,cap,h1,h2⟩:=h;refine⟨a,cap,h1,h2.imp id fun⟨g,o,h3,h4⟩=>⟨g,o,h3,fun i p d=>?_⟩⟩;have:=h4 i p d;exact(c.cell (p:=⟨g,o+i,none⟩) (Rj w _ this)).trans this
def jV(a:List yB):Bool:=decide (96<a.length) || a.any fun p=>decide (4096<p.size)
theorem IM(w v)(b:List yB)(K:fD w v b)(A:b.length<=maxLen)(f:∀p∈b,p.size<=maxLen):
 Calls yP 88 #[v] w fun e w'=>e=rV (bV (jV b))/\w'=w:=by
 obtain⟨a,cap,rfl,m⟩:=K;unfold maxLen at A f;by_cases h96:96<b.length
 ·have G:Hid (jV b=true):=by show _=_;unfold jV;rw[Ra h96];rfl
  have x:(96:Int)<(b.length:Int):=by omega
  clear m f;generalize jV b=B at*;generalize b.length=N at*;go_enter func88,ntmps88
  go_wp2_with fail
  go_ret
  rw[G.out];exact⟨rfl,rfl⟩
 ·have j:jV b=b.any fun p=>decide (4096<p.size):=by unfold jV;rw[Q9 h96];rfl
  have s:Hid (∀i,i<b.length->∃g o p,a=some ⟨g,o,none⟩/\w.cell? ⟨g,o+i,none⟩=some (sV p)/\b[i]? =some p/\p.size<=9223372036854775807):=fun i hi=>by
   rcases m with h|⟨g,o,h1,h2⟩
   ·rw[h] at hi;simp at hi
   ·have c:b[i]? =some b[i]:=QV hi;exact⟨g,o,b[i],h1,h2 i _ c,c,f _ (RV hi)⟩
  have I:Hid (∀(i:Nat) (p:yB),b[i]? =some p->4096<p.size->jV b=true):=fun i p c d=>by
   rw[j];exact List.any_eq_true.2 ⟨p,Rv c,by simpa using d⟩
  have E:Hid ((∀(i:Nat) (p:yB),b[i]? =some p->¬4096<p.size)->jV b=false):=fun h=>by
   rw[j,List.any_eq_false];intro p c;obtain⟨i,hi⟩:=List.getElem?_of_mem c;simpa using h i p hi
  have x:¬(96:Int)<(b.length:Int):=by omega
  have J:b.length<=96:=by omega
  clear m f j A h96;generalize jV b=B at*;obtain⟨N,l⟩:=yX b.length
  have H:=aa l;rw[<-l] at x J s⊢;clear l;go_enter func88,ntmps88
  go_wp2_with fail
  go_loopg [3] N (fun g r wr=>∃i:Nat,g=N - i/\i<=N/\r=iV .i64 (i:Int)/\wr=w/\Hid (∀(k:Nat) (p:yB),k<i->b[k]? =some p->¬4096<p.size))
  case atStart=>exact⟨0,rfl,by omega,rfl,rfl,fun k _ z=>absurd z (by omega)⟩
  case round=>
   obtain⟨i,y,hi,rfl,rfl,t⟩:=hrel;have F:=aa y;clear y;by_cases O:i<N
   ·obtain⟨g,o,p,rfl,c0,c,Q⟩:=s.out i O;have u:=aa c;have M:(i:Int)<(N:Int):=by omega
    have P:(p.size:Int)<=9223372036854775807:=by omega
    clear c;by_cases d:4096<p.size
    ·have L:(4096:Int)<(p.size:Int):=by omega
     go_wp2_with fail
     go_ret
     rw[I.out i p u.out d];exact⟨rfl,rfl⟩
    ·have L:¬(4096:Int)<(p.size:Int):=by omega
     have C:=aa d;clear d;go_wp2_with fail
     go_roundg (N - (i+1))
     case measure=>have:=F.out;omega
     case rel=>
      refine⟨i+1,rfl,by omega,by go_num,rfl,fun k q z n=>?_⟩;by_cases e:k=i
      ·subst e;rw[u.out] at n;cases n;exact C.out
      ·exact t.out k q (by omega) n
   ·obtain rfl:i=N:=by omega
    have M:¬(i:Int)<(i:Int):=by omega
    have D:Hid (B=false):=E.out fun k p c=>t.out k p (by rw[H.out];exact(Rb.1 c).1) c
    go_wp2_with fail
    go_ret
    rw[D.out];exact⟨rfl,rfl⟩
structure An(w:World)(S:Nat->Prop)(t:Nd)(r:yL)(d b:Nat)(u:Option Addr)(S':Nat->Prop):Prop where
 at_:At w (aA t r d).1 S' (pV u)
 sub:∀x,S' x->S x/\x≠b
 ok:aw (aA t r d).1 (aA t r d).2.2.1
 lz:ak (aA t r d).2.1
 deep:(aA t r d).2.2.1+(aA t r d).2.1.length<=80
 less:(aA t r d).1≠.nil->(aA t r d).2.1.length+1<=r.length
def QM(W:World)(S:Nat->Prop)(t:Nd)(r:yL)(d b:Nat)(e:Ending)(w':World):Prop:=
 ∃u S',e=rV (cd (pV u) (str (aA t r d).2.1) (aA t r d).2.2.1 (aA t r d).2.2.2)/\An W S t r d b u S'/\yW W w'
theorem zm{W S t r d b}(h:aA t r d=(.nil,[],0,false)):An W S t r d b none (fun _=>False):=by
 constructor<;>(try rw[h])
 ·rfl
 ·exact fun _ h=>h.elim
 ·exact lB 0
 ·exact fun _ h=>(Si h).elim
 ·decide
 ·exact fun h=>absurd rfl h
theorem Om(W S t)(b:Nat)(r)(d:Nat)(bl:Bool)(f:At W t S (pV (qA b)))(i:aw t d)(E:t.read)(n:ak r)(C:d+r.length<=80):
 Calls yP 113 #[cd (pV (qA b)) (str r) d bl] W (QM W S t r d b):=by
 have p:=i.aJ;cases t with
 |nil=>have h:Value.pointer (qA b)=pV none:=f;cases h
 |unread _=>exact E.elim
 |leaf h q v=>
  obtain⟨l,a,_,B⟩:=f;cases a
  exact(yj b h q v _ _ r (by have:=p.2.2.1;omega) d bl W B).mono fun e w' ⟨h1,h2⟩=>⟨none,_,h1,zm rfl,h2⟩
 |ext h q k=>
  obtain⟨l,L,z,a,A,B,F,s⟩:=f;cases a
  obtain⟨w,rfl⟩:=s.ptr;have K:=p.2.2.1;by_cases e:aF q r=q.length
  ·have m:aF r q=q.length:=by rw[nL];exact e
   have D:=(g9 q r).2;rw[e] at D;have J:=Sj.2 i.bu.1;have g:aA (.ext h q k) r d=(k,r.drop q.length,d+q.length,true):=by simp only[aA,QX e]
   refine(uZ b h q k w _ r (by omega) (by omega) m d (by omega) bl W B).mono fun en w' ⟨h1,h2⟩=>⟨w,z,by rw[g];exact h1,?_,h2⟩
   constructor<;>(try rw[g])
   ·exact s
   ·exact F
   ·exact dY i
   ·exact cS n _
   ·show d+q.length+(r.drop q.length).length<=80;rw[Q8];omega
   ·intro _;show(r.drop q.length).length+1<=r.length;rw[Q8];omega
  ·have m:aF r q≠q.length:=by rw[nL];exact e
   have g:aA (.ext h q k) r d=(.nil,[],0,false):=by simp only[aA,QW e]
   exact(yk b h q k _ _ r (by omega) (by omega) m d bl W B).mono fun en w' ⟨h1,h2⟩=>⟨none,_,by rw[g];exact h1,zm g,h2⟩
 |branch h v ks=>
  cases r with
  |nil=>
   obtain⟨l,M,o,a,_,B,_⟩:=f;cases a
   exact(yl b h v ks _ _ d bl W B).mono fun en w' ⟨h1,h2⟩=>⟨none,_,h1,zm rfl,h2⟩
  |cons c r=>
   obtain⟨l,U,o,a,A,B,u⟩:=f.kids;cases a
   have j:=n c (QY ..);have I:r.length+1+d<=80:=by simp at C;omega
   refine(u7 b h v ks _ _ c r j (U c.toNat) rfl (by omega) d (by omega) bl W B).mono fun en w' ⟨h1,h2⟩=>⟨U c.toNat,o c.toNat,h1,⟨u.at_ _ j,fun x G=>u.sub _ x j G,di i _ j,fun y H=>n y (QZ _ H),?_,?_⟩,h2⟩
   ·show d+1+r.length<=80;omega
   ·intro _;simp[aA]
def oF(a:List yB)(V:yL):Option yL:=if a=[] then some V else none
def nK(t:Nd)(d:Nat)(bl:Bool)(a:List yB):Option (Nd×List yB):=match t with
 | .unread h=>match a with
  | []=>none
  |p::q=>match gh h p.data.toList d bl with
   | .error _=>none
   | .ok n=>some (n,q)
 |t=>some (t,a)
def wW(f:Nd->List yB->Option yL):Option (Nd×List yB)->Option yL
 |none=>none
 |some x=>f x.1 x.2
def iR:Nat->Nd->yL->Nat->Bool->List yB->yL->Option yL
 | 0,t,_,_,_,ps,V=>if t.isNil=true then oF ps V else none
 |f+1,t,r,d,bl,ps,V=>if t.isNil=true then oF ps V else wW (fun t1 q=>iR f (aA t1 r d).1 (aA t1 r d).2.1 (aA t1 r d).2.2.1 (aA t1 r d).2.2.2 q (t1.at r)) (nK t d bl ps)
theorem Oq(f:Nat)(r)(d:Nat)(bl:Bool)(a:List yB)(V):iR f .nil r d bl a V=oF a V:=by cases f<;>rfl
structure rB(w0:World)(S0:Nat->Prop)(ga gl:Nat)(all:List yB)(R:Option yL)(g:Nat)(wr:World)(t:Nd)(Sc:Nat->Prop)(u:Option Addr)(r:yL)(d:Nat)(bl:Bool)(n:Nat)(ul:Option Addr)(rl:yL)(dl:Nat)(bll:Bool)(V:yL):Prop where
 here:cU wr ga u (str r) d bl
 last:cU wr gl ul (str rl) dl bll
 at_:At wr t Sc (pV u)
 sub:∀x,Sc x->(S0 x\/w0.heap.size<=x)/\x<wr.heap.size/\x≠ga/\x≠gl
 ok:aw t d
 lz:ak r
 deep:d+r.length<=80
 fuel:t≠.nil->r.length+1<=g
 used:n<=all.length
 res:R=iR g t r d bl (all.drop n) V
 val:t=.nil->(ul=none/\V=[])\/∃b t kid kids,ul=some ⟨b,0,none⟩/\b<wr.heap.size/\¬Sc b/\b≠ga/\b≠gl/\bL wr b t kid kids/\t.at rl=V
 wrote:bG S0 w0 wr
theorem Fl{w0:World}{f:Nat->Prop}{j c:Nat}{all:List yB}{R:Option yL}{g:Nat}{wr:World}{t:Nd}{a:Nat->Prop}{b:Nat}{r:yL}{d:Nat}{bl:Bool}{n:Nat}{o:Option Addr}{m:yL}{i:Nat}{h:Bool}{V:yL}
 (e:rB w0 f j c all R g wr t a (qA b) r d bl n o m i h V) {t1:Nd} {w2:World} (k:At w2 t1 (fun x=>a x\/wr.heap.size<=x) (ptr b)):
 At (cH w2 c (qA b) r d bl) t1 (j6 wr w2 a) (ptr b):=by
 have p:=e.last.lt;refine(k.cut.mono (S':=j6 wr w2 a) ?_).kept ?_
 ·rintro x ⟨h1|h1,h2⟩
  ·exact .inl h1
  ·exact .inr ⟨h1,h2⟩
 ·rintro x l _;refine lZ _ _ _ _ _ _ _ ?_;rcases l with h1|⟨h1,_⟩
  ·exact(e.sub x h1).2.2.2
  ·omega
theorem Ov{w0:World}{o:Nat->Prop}{c a:Nat}{all:List yB}{R:Option yL}{g:Nat}{wr:World}{t:Nd}{j:Nat->Prop}{b:Nat}{r:yL}{d:Nat}{bl:Bool}{n:Nat}{S:Option Addr}{Q:yL}{w:Nat}{v:Bool}{V:yL}
 (e:rB w0 o c a all R (g+1) wr t j (qA b) r d bl n S Q w v V) (l:t≠.nil) (h1:c≠a) (p1:w0.heap.size<=c) (p2:w0.heap.size<=a) {t1:Nd} {n1:Nat} (E:n1<=all.length) (J:nK t d bl (all.drop n)=some (t1,all.drop n1)) (G:t1.read)
 {w2:World} (y:At w2 t1 (fun x=>j x\/wr.heap.size<=x) (ptr b)) (p:bG j wr w2)
 {w4:World} {m:Option Addr} {S':Nat->Prop} (i:An (cH w2 a (qA b) r d bl) (j6 wr w2 j) t1 r d b m S') (k:Below (cH w2 a (qA b) r d bl).heap.size (cH w2 a (qA b) r d bl) w4):
 cU w4 c (qA b) (str r) d bl/\rB w0 o c a all R g (cH w4 c m (aA t1 r d).2.1 (aA t1 r d).2.2.1 (aA t1 r d).2.2.2) (aA t1 r d).1 S' m (aA t1 r d).2.1 (aA t1 r d).2.2.1 (aA t1 r d).2.2.2 n1 (qA b) r d bl (t1.at r):=by
 have A:=e.here.lt;have C:=e.last.lt;have W:=p.size;have X:=r6 w2 a (qA b) r d bl;have Y:=k.size;have Z:=r6 w4 c m (aA t1 r d).2.1 (aA t1 r d).2.2.1 (aA t1 r d).2.2.2;have q:∀x,j6 wr w2 j x->(o x\/w0.heap.size<=x)/\x<w2.heap.size/\x≠c/\x≠a:=fun x f=>by
  rcases f with f|⟨f,L⟩
  ·have:=e.sub x f;exact⟨this.1,by omega,this.2.2⟩
  ·have:=e.wrote.size;exact⟨.inr (by omega),L,by omega,by omega⟩
 have b24:∀x,x<w2.heap.size->x≠a->w4.heap[x]? =w2.heap[x]? :=fun x f l=>(k.block x (by omega)).trans (lZ _ _ _ _ _ _ _ l)
 have b45:∀x,x≠c->(cH w4 c m (aA t1 r d).2.1 (aA t1 r d).2.2.1 (aA t1 r d).2.2.2).heap[x]? =w4.heap[x]? :=fun x l=>lZ _ _ _ _ _ _ _ l
 have O:¬j c:=fun h=>(e.sub c h).2.2.1 rfl
 have P:¬j a:=fun h=>(e.sub a h).2.2.2 rfl
 have u:cU w4 c (qA b) (str r) d bl:=(e.here.kept (p.block c A O)).kept (b24 c (by omega) h1);have T:cU w4 a (qA b) (str r) d bl:=by
  have:cU (cH w2 a (qA b) r d bl) a (qA b) (str r) d bl:=(e.last.kept (p.block a C P)).set _ _ _ _;exact this.kept (k.block a (by omega))
 refine⟨u,?_⟩;have H:t1.some:=by cases t1<;>first|exact G.elim|trivial
 obtain⟨U,M,N,K,I,B⟩:=(Fl e y).ah H;cases K
 have s:=q b I;have z:(cH w4 c m (aA t1 r d).2.1 (aA t1 r d).2.2.1 (aA t1 r d).2.2.2).heap[b]? =(cH w2 a (qA b) r d bl).heap[b]? :=by
  rw[b45 b s.2.2.1];exact k.block b (by omega)
 refine⟨u.set _ _ _ _,T.kept (b45 a (Ne.symm h1)),i.at_.kept fun x f _=>?_,fun x f=>?_,i.ok,i.lz,i.deep,fun D=>?_,E,?_,fun _=>.inr ⟨b,t1,M,N,rfl,by omega,fun h=>(i.sub b h).2 rfl,s.2.2.1,s.2.2.2,z.trans B,rfl⟩,?_⟩
 ·have:=q x (i.sub x f).1;rw[b45 x this.2.2.1];exact k.block x (by omega)
 ·have:=q x (i.sub x f).1;exact⟨this.1,by omega,this.2.2⟩
 ·have:=i.less D;have:=e.fuel l;omega
 ·rw[e.res];have F:t.isNil≠true:=by cases t<;>first|exact absurd rfl l| (intro h;cases h)
  show(if t.isNil=true then _ else wW _ (nK t d bl (all.drop n)))=_;rw[QW F,J];rfl
 ·have h5:bG o w0 w2:=e.wrote.trans p fun x f=>(e.sub x f).1
  have h6:bG o w0 (cH w2 a (qA b) r d bl):=h5.cH a p2 _ _ _ _;exact(h6.ki k).cH c p1 _ _ _ _
end Go.Proofs.YtiimkkahmpmhdaaGreatDoor
