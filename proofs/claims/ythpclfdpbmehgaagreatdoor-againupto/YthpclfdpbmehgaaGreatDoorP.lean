import Derived.Test.YthpclfdpbmehgaaGreatDoorN
import Derived.Test.YthpclfdpbmehgaaGreatDoorO
open Go.Proofs.Tryz
open Go.Proofs.Tryz renaming prog→yP
open Go.Value renaming string→sV,pointer→pV,int→iV,slice→lV,bool→bV,tuple→tV,agg→gV
open Go.Ending renaming returned→rV
namespace Go.Proofs.YthpclfdpbmehgaaGreatDoor
open Go.RowKit
set_option maxRecDepth 100000
set_option maxHeartbeats 0
set_option linter.all false
def IS(T:Nd):Except Nat Nd->Nd×Bool×Nat
 | .error e=>(T,false,e)
 | .ok t'=>(t',true,0)
def bC(G:yB->Option yB)(t:Nd)(key:yB):Nd×Bool×Nat:=if 40<key.size then(t,false,1) else if(aG G t key).2≠0 then((aG G t key).1,false,(aG G t key).2) else if aM (aG G t key).1 (aD key)=[] then((aG G t key).1,false,0) else IS (aG G t key).1 (bI G (aG G t key).1 (aD key) 0)
def oY(G:yB->Option yB)(t key)(h:aA t 0)(a:bK t):bK (aG G t key).1:=(OX G 81 t (aD key) 0 false h (b8 key)).1 a
def Qj{w w1 W w':World}{b o S S'}{t1 l:Nd}{u:Option Addr}(d:eX w1 b o S' t1)(n:∀x,S' x->S x\/w.heap.size<=x)(m:bO (fun x=>S x\/x=b) w w1)(j:yW w1 W)
 (p:At w' l (fun x=>S' x\/W.heap.size<=x) (pV u)) (i:bO S' W w') (f:aA l 0) (h3:3<=w.heap.size):gF w b o S l (w'.setCell ⟨b,1,none⟩ (pV u)):=by
 let⟨u0,q1,q2⟩:=d.at_;have t:=m.size;have v:=j.size;have y:=i.size;have s:=q1.lt;have g:∀x,(S' x\/W.heap.size<=x)->3<=x/\x≠b:=fun x a=>by
  rcases a with a|a
  ·exact⟨(d.own x a).1,(d.own x a).2.1⟩
  ·exact⟨by omega,by omega⟩
 have r:w'.heap[b]? =w1.heap[b]? :=(i.block b (by omega) fun h=>(d.own b h).2.1 rfl).trans (j.block b s);have c:bO (fun x=>S x\/x=b) w w':=(m.kU j).trans i fun x a=>(n x a).imp .inl id
 exact⟨⟨fun x=>(S' x\/W.heap.size<=x)/\x<w'.heap.size,⟨⟨u,(q1.kept r).set u,p.cut.kept fun x a _=>Uy _ _ _ _ (g x a.1).2⟩,f,fun x a=>⟨(g x a.1).1,(g x a.1).2,by simpa using a.2⟩⟩,fun x a=>a.1.elim (n x) fun h=>.inr (by omega)⟩,
  ⟨c.os,c.tape,c.output,by simpa using c.size,fun k q f=>by rw[Uy _ _ _ _ (fun e=>f (.inr e))];exact c.block k q f⟩⟩
def Ck{M w a g S t G}(l:eX w a g S t)(Y:bK t)(i:lX M w g G S)(B0:¬M a)(key:yB)(C1:key.size<=maxLen):
 yC 32 #[pV (qA a),sV key] w fun e w'=>e=rV (tV #[bV (bC G t key).2.1,i6 ((bC G t key).2.2:Int)])/\gF w a g S (bC G t key).1 w':=by
 unfold maxLen at C1;by_cases I:40<key.size
 ·have B:yH (bC G t key=(t,false,1)):=by show _=_;unfold bC;rw[Uj I]
  have HT:yH (eX w a g S t):=l;have C0:(40:Int)<(key.size:Int):=by omega
  clear l i I;generalize bC G t key=X at*;go_enter func32,ntmps32
  go_wp2
  go_ret2
  rw[B.o];exact⟨rfl,HT.o.now (Un _ _)⟩
 ·have T:key.size<=40:=by omega
  have U:=tg l i key T;have f:bC G t key=if(aG G t key).2≠0 then((aG G t key).1,false,(aG G t key).2) else if aM (aG G t key).1 (aD key)=[] then((aG G t key).1,false,0) else IS (aG G t key).1 (bI G (aG G t key).1 (aD key) 0):=by unfold bC;rw[Ui I]
  have N:yH (yC 37 #[pV (qA a),sV key] w fun e w'=>gF w a g S (aG G t key).1 w'/\(∃(y:Option Addr) (s:yL) (j:Nat) (bl:Bool),e=rV (tV #[gV #[pV y,sV (ae s),i6 (j:Int),bV bl],i6 ((aG G t key).2:Int)])/\((aG G t key).2=0->sM w' w'.heap.size y s (aM (aG G t key).1 (aD key))))):=U;have C0:decide ((40:Int)<(key.size:Int))=false:=by simp;omega
  have O:=jk G t key l.ok;have P:=oY G t key l.ok Y;have Q:=b8 key;have A2:(aD key).length<=80:=by rw[g6];omega
  have B9:=i.bz.size;have B7:yH (∀w1,bO (fun x=>S x\/x=a) w w1->aB w1):=fun w1 h=>i.bz.nL h fun x c=>by
   rcases c with c|c
   ·exact(l.own x c).1
   ·rw[c];obtain⟨u,h1,_⟩:=l.at_;exact i.bz.mU h1
  have H:yH (∀x,M x->¬(S x\/x=a)/\x<w.heap.size):=fun x c=>⟨fun h=>h.elim (fun h=>i.apart x h c) fun h=>B0 (h▸c),i.lt x c⟩
  have A5:yH (j5 M w g G/\∀k t,G k=some t->t.size<=maxLen):=⟨i.rZ,i.small⟩
  by_cases h0:(aG G t key).2=0
  ·rw[Ui (fun h=>h h0)] at f;have A9:(ae (aM (aG G t key).1 (aD key))).toList.isEmpty=decide (aM (aG G t key).1 (aD key)=[]):=ke _;have Z:=kA G t key l.ok T h0;rw[h0] at N;by_cases E:aM (aG G t key).1 (aD key)=[]
   ·rw[Uj E] at f;rw[Uw E] at A9;have B:yH (bC G t key=((aG G t key).1,false,0)):=f;clear l i I T U f O P Q A2 h0 E Z Y;generalize bC G t key=X at*;generalize aM (aG G t key).1 (aD key)=F at*;generalize (aG G t key).1=T1 at*;go_enter func32,ntmps32
    go_wp2_with fail
    refine N.m ?_;rintro e w1 ⟨q,y,s,j,bl,rfl,o⟩;have K:yH (gF w a g S T1 w1):=q;have L:yH (∀W,yW w1 W->yC 64 #[gV #[pV y,sV (ae s),i6 (j:Int),bV bl]] W fun e w'=>e=rV (sV (ae F))/\yW W w'):=fun W b=>tk (o (by first|trivial|rfl)) j bl W b
    clear q o;generalize ae F=FF at*;go_wp2_with fail
    refine(L.o _ ((Un _ _).alloc (Ug _) _)).mono ?_;rintro e w2 ⟨rfl,z⟩;have r:yH (yW w1 w2):=((Un w1.heap.size w1).alloc (Ug _) _).trans (z.mono (by simp));clear z;go_wp2
    go_ret2
    rw[B.o];exact⟨rfl,K.o.below r.o⟩
   ·rw[Ui E] at f;rw[Uv E] at A9;have A4:=px _ _ E;have V:yH (∀w1 S' u1,eX w1 a g S' (aG G t key).1->(∀x,S' x->S x\/w.heap.size<=x)->bO (fun x=>S x\/x=a) w w1->fF w1 a g u1->At w1 (aG G t key).1 S' (pV u1)->∀W,yW w1 W->yC 65 #[pV (qA a),gV #[pV u1,sV (ae (aD key)),i6 0,bV false]] W (oG W S' (bI G (aG G t key).1 (aD key) 0))):=fun w1 S' u1 m A n d D W b=>by
     have C2:∀x,M x->W.heap[x]? =w.heap[x]? :=fun x c=>(b.block x (Us (H.o x c).2 n.size)).trans (n.block x (H.o x c).2 (H.o x c).1)
     refine KC (aG G t key).1 M W a g u1 G S' u1 (aD key) 0 false (d.kept (b.block a d.lt)) (D.below b) O P Z A4 Q (by omega) (fun W' h hh c=>A5.o.1 W' h hh fun x B1=>(c x B1).trans (C2 x B1)) A5.o.2 (fun x c=>by have:=(H.o x c).2;have:=n.size;have:=b.size;omega) ((B7.o w1 n).below b) (fun x c=>?_);obtain⟨a1,a2,a3⟩:=m.own x c;refine⟨a1,a2,fun hm=>?_,Us a3 b.size⟩;rcases A x c with h|h
     ·exact(H.o x hm).1 (.inl h)
     ·have:=(H.o x hm).2;omega
    have A6:yH (∀(u1:Option Addr) (W:World),yC 38 #[pV u1,sV key] W fun e w'=>e=rV (gV #[pV u1,sV (ae (aD key)),i6 0,bV false])/\yW W w'):=fun u1 W=>vJ u1 key (by omega) W
    have B6:yH (∀v,bI G (aG G t key).1 (aD key) 0=.ok v->aA v 0):=fun v h=>(lk G _ _ 0 v O P Z A4 Q (by omega) h).1.ok
    have B3:yH (∀C,bI G (aG G t key).1 (aD key) 0=.error C->((C:Int) != 0)=true):=fun C h=>by
     have:=Ag G _ _ _ _ h;simp;omega
    clear l i I T U O P Q A2 h0 E Z Y A4 B0;generalize ae (aD key)=KP at*;generalize bC G t key=X at*;generalize aM (aG G t key).1 (aD key)=F at*;cases hlp:bI G (aG G t key).1 (aD key) 0 with
    |error C=>
     have C5:=B3.o C hlp;rw[hlp] at f V;have B:yH (X=((aG G t key).1,false,C)):=f;clear hlp f;generalize (aG G t key).1=T1 at*;go_enter func32,ntmps32
     go_wp2_with fail
     refine N.m ?_;rintro e w1 ⟨q,y,s,j,bl,rfl,o⟩;have L:yH (∀W,yW w1 W->yC 64 #[gV #[pV y,sV (ae s),i6 (j:Int),bV bl]] W fun e w'=>e=rV (sV (ae F))/\yW W w'):=fun W b=>tk (o (by first|trivial|rfl)) j bl W b
     have K:yH (gF w a g S T1 w1):=q;obtain⟨⟨S',m,A⟩,n⟩:=q;obtain⟨u1,d,D⟩:=m.at_;have A1:yH (∀W,yW w1 W->yC 65 #[pV (qA a),gV #[pV u1,sV KP,i6 0,bV false]] W fun e w'=>e=rV (tV #[pV none,i6 (C:Int)])/\yW W w'):=fun W b=>(V.o w1 S' u1 m A n d D W b).mono fun e w' hq=>hq.1
     have A8:∀W,yW w1 W->yc W a 1 (pV u1)/\a<W.heap.size:=fun W b=>⟨(b.cell (p:=⟨a,1,none⟩) d.lt).trans d.c1,Us d.lt b.size⟩
     have A0:yH (∀W,yW w1 W->yc W a 1 (pV u1)/\a<W.heap.size):=A8;clear o m A n d D A8;generalize ae F=FF at*;go_wp2_with fail
     refine(L.o _ ((Un _ _).alloc (Ug _) _)).mono ?_;rintro e w2 ⟨rfl,z⟩;have r:yH (yW w1 w2):=((Un w1.heap.size w1).alloc (Ug _) _).trans (z.mono (by simp));obtain⟨d1,B8⟩:=A0.o w2 r.o;clear z;go_wp2_with fail
     refine(A6.o _ _).mono ?_;rintro e w3 ⟨rfl,R⟩;have J:yH (yW w1 w3):=r.o.trans (R.mono r.o.size);clear R;go_wp2_with fail
     refine(A1.o _ J.o).mono ?_;rintro e w4 ⟨rfl,A7⟩;have B2:yH (yW w1 w4):=J.o.trans (A7.mono J.o.size);clear A7;go_wp2
     go_ret2
     rw[B.o];exact⟨rfl,K.o.below B2.o⟩
    |ok v=>
     have B5:yH (aA v 0):=B6.o v hlp;rw[hlp] at f V;have B:yH (X=(v,true,0)):=f;clear hlp f;generalize (aG G t key).1=T1 at*;go_enter func32,ntmps32
     go_wp2_with fail
     refine N.m ?_;rintro e w1 ⟨q,y,s,j,bl,rfl,o⟩;have L:yH (∀W,yW w1 W->yC 64 #[gV #[pV y,sV (ae s),i6 (j:Int),bV bl]] W fun e w'=>e=rV (sV (ae F))/\yW W w'):=fun W b=>tk (o (by first|trivial|rfl)) j bl W b
     obtain⟨⟨S',m,A⟩,n⟩:=q;obtain⟨u1,d,D⟩:=m.at_;have A1:yH (∀W,yW w1 W->yC 65 #[pV (qA a),gV #[pV u1,sV KP,i6 0,bV false]] W fun e w'=>∃u,e=rV (tV #[pV u,i6 0])/\(yc w' a 1 (pV u1)/\w'.frozen? ⟨a,1,none⟩=false/\a<w'.heap.size)/\yH (gF w a g S v (w'.setCell ⟨a,1,none⟩ (pV u)))):=fun W b=>(V.o w1 S' u1 m A n d D W b).mono fun e w' hq=>by
      obtain⟨⟨u,e1,e2,e3⟩,_⟩:=hq;have C3:w'.heap[a]? =w1.heap[a]? :=(e3.block a (Us d.lt b.size) fun h=>(m.own a h).2.1 rfl).trans (b.block a d.lt);have A3:=d.kept C3;exact⟨u,e1,⟨A3.c1,A3.free 1,A3.lt⟩,Qj m A n b e2 e3 B5.o B9⟩
     have A0:yH (∀W,yW w1 W->yc W a 1 (pV u1)/\a<W.heap.size):=fun W b=>⟨(b.cell (p:=⟨a,1,none⟩) d.lt).trans d.c1,Us d.lt b.size⟩
     clear o m A n d D;generalize ae F=FF at*;go_wp2_with fail
     refine(L.o _ ((Un _ _).alloc (Ug _) _)).mono ?_;rintro e w2 ⟨rfl,z⟩;have r:yH (yW w1 w2):=((Un w1.heap.size w1).alloc (Ug _) _).trans (z.mono (by simp));obtain⟨d1,B8⟩:=A0.o w2 r.o;clear z;go_wp2_with fail
     refine(A6.o _ _).mono ?_;rintro e w3 ⟨rfl,R⟩;have J:yH (yW w1 w3):=r.o.trans (R.mono r.o.size);clear R;go_wp2_with fail
     refine(A1.o _ J.o).mono ?_;rintro e w4 ⟨u4,rfl,⟨d4,f4,C6⟩,HF⟩;go_wp2
     go_ret2
     rw[B.o];exact⟨rfl,HF.o⟩
  ·have C4:(((aG G t key).2:Int) != 0)=true:=by simp;omega
   rw[Uj h0] at f;have B4:yH (bC G t key=((aG G t key).1,false,(aG G t key).2)):=f;clear l i I T U f O P Q A2 h0 Y;generalize bC G t key=X at*;generalize aM (aG G t key).1 (aD key)=F at*;generalize (aG G t key).1=T1 at*;generalize (aG G t key).2=E1 at*;go_enter func32,ntmps32
   go_wp2_with fail
   refine N.m ?_;rintro e w1 ⟨q,y,s,j,bl,rfl,o⟩;have K:yH (gF w a g S T1 w1):=q;clear q o;go_wp2
   go_ret2
   rw[B4.o];exact⟨rfl,K.o.below ((Un _ _).alloc (Ug _) _)⟩
structure fv(w:World)(sb:Nat)(vs:Nat->Value)(ps:List (yB×yB)):Prop where
 st:gG 3 w sb vs ps
 n:ps.length<4000000000000
 sm:∀h t,ah ps h=some t->t.size<=4096
 m3:∀x,cy sb vs x->3<=x
def fv.kept{w w':World}{sb a b}(h:fv w sb a b)(k:∀x,cy sb a x->w'.heap[x]? =w.heap[x]?):fv w' sb a b:=⟨h.st.kept k,h.n,h.sm,h.m3⟩
def fv.below{w w' sb b a}(h:fv w sb b a)(k:yW w w'):fv w' sb b a:=h.kept fun x c=>k.block x (h.st.eM x c)
def fv.rZ{w sb b a}(h:fv w sb b a):j5 (cy sb b) w (qA sb) (ah a):=fun W k c d=>by
 refine(Oc 3 W sb b a (h.st.kept d) k h.n).mono ?_
 rintro e w' ⟨rfl,f⟩
 refine⟨?_,f⟩
 unfold pz kG
 rw[Uj c,Uj c]
 cases ah a k<;>rfl
def fv.over{w sb a b S}(h:fv w sb a b)(T:aB w)(c:∀x,S x->¬cy sb a x):lX (cy sb a) w (qA sb) (ah b) S:=
 ⟨h.rZ,fun k t d=>Ut (h.sm k t d) (by decide),h.st.eM,c,T⟩
def uB{G t key}(b:aA t 0)(a:bK t):bK (bE G t key):=by
 unfold bE;split
 ·exact a
 ·exact oY G t key b a
def zn{G t key value}(b:aA t 0)(a:bK t):bK (b6 G t key value):=by
 unfold b6;split
 ·next h=>
  let⟨h1,_,_,h4,_⟩:=tK h;exact(yv (oY G t key b a) (kA G t key b h1 h4)).loose
 ·unfold fR;split
  ·exact a
  ·split
   ·exact a
   ·exact oY G t key b a
def Bi{G t key}(a:aA t 0)(b:bK t):bK (bC G t key).1:=by
 have h1:=oY G t key a b;unfold bC;split
 ·exact b
 ·next h40=>
  split
  ·exact h1
  ·next h0=>
   split
   ·exact h1
   ·next hf=>
    have c:=Va h0;cases hl:bI G (aG G t key).1 (aD key) 0 with
    |error e=>exact h1
    |ok t'=>
     exact(lk G _ _ 0 t' (jk G t key a) h1 (kA G t key a (by omega) c) (px _ _ hf) (b8 key) (by rw[g6];omega) hl).1.tight.loose
def Own(K:Nat->Prop)(w:World)(sb a:Nat)(t:Nd):Prop:=∃S vs,eX w a (qA sb) S t/\bK t/\fv w sb vs []/\(∀x,S x->¬K x/\¬cy sb vs x)/\¬K a/\¬cy sb vs a/\(∀x,cy sb vs x->¬K x)/\∀x,K x->x<w.heap.size
def jH(K:Nat->Prop)(w w':World):Prop:=bO (fun x=>¬K x) w w'
def jH.less{K K' w w1}(h:jH K w w1)(c:∀x,K' x->K x):jH K' w w1:=⟨h.os,h.tape,h.output,h.size,fun x e d=>h.block x e fun b=>d fun a=>b (c x a)⟩
def jH.below{w w' b}(h:jH (fun x=>x<b) w w')(d:b<=w.heap.size):Below b w w':=⟨h.os,h.tape,h.output,h.size,fun x a=>h.block x (Us a d) fun c=>c a⟩
def jH.at_{K w w'}(h:jH K w w')(x:Nat)(c:K x)(b:x<w.heap.size):w'.heap[x]? =w.heap[x]? :=h.block x b fun a=>a c
def jH.cell{K w w'}(h:jH K w w'){x o v}(c:K x)(b:x<w.heap.size)(a:yc w x o v):yc w' x o v:=(Uz (w:=w) (h.at_ x c b)).trans a
def Own.lt{K w sb a t}(h:Own K w sb a t):∀x,K x->x<w.heap.size:=by
 let⟨S,b,_,_,_,_,_,_,_,h⟩:=h;exact h
def Own.below{K w w' sb b t}(h:Own K w sb b t)(k:yW w w'):Own K w' sb b t:=by
 let⟨S,d,⟨⟨u,h1,h2⟩,h3,h4⟩,h5,h6,h7,h8,h9,h10,h11⟩:=h;have c:=k.size;exact⟨S,d,⟨⟨u,h1.kept (k.block b h1.lt),h2.below k⟩,h3,fun x a=>by have:=h4 x a;exact⟨this.1,this.2.1,by omega⟩⟩,h5,h6.below k,h7,h8,h9,h10,fun x a=>Us (h11 x a) c⟩
def Own.more{K w w' sb c t}(h:Own K w sb c t)(k:yW w w'):Own (fun x=>K x\/(w.heap.size<=x/\x<w'.heap.size)) w' sb c t:=by
 let⟨S,e,⟨⟨u,h1,h2⟩,h3,h4⟩,h5,h6,h7,h8,h9,h10,h11⟩:=h;have d:=k.size;have f:=h1.lt;exact⟨S,e,⟨⟨u,h1.kept (k.block c h1.lt),h2.below k⟩,h3,fun x b=>by have:=h4 x b;exact⟨this.1,this.2.1,by omega⟩⟩,h5,h6.below k,fun x b=>⟨fun a=>by have:=h4 x b;rcases a with a|a;exact(h7 x b).1 a;omega,(h7 x b).2⟩,fun a=>by rcases a with a|a;exact h8 a;omega,h9,fun x b a=>by have:=h6.st.eM x b;rcases a with a|a;exact h10 x b a;omega,fun x b=>by rcases b with b|b;exact Us (h11 x b) d;exact b.2⟩
def Own.less{K K' w sb d t}(h:Own K w sb d t)(c:∀x,K' x->K x):Own K' w sb d t:=by
 let⟨S,e,h1,h5,h6,h7,h8,h9,h10,h11⟩:=h;exact⟨S,e,h1,h5,h6,fun x a=>⟨fun b=>(h7 x a).1 (c x b),(h7 x a).2⟩,fun b=>h8 (c _ b),h9,fun x a b=>h10 x a (c x b),fun x a=>h11 x (c x a)⟩
def Own.now{K}{w w':World}{sb d}{g:Nd}{S b}(h6:fv w sb b [])(h7:∀x,S x->¬K x/\¬cy sb b x)(h8:¬K d)(h9:¬cy sb b d)(h10:∀x,cy sb b x->¬K x)(h11:∀x,K x->x<w.heap.size)
 (j:gF w d (qA sb) S g w') (i:bK g):Own K w' sb d g/\jH K w w':=by
 let⟨⟨S',h1,h2⟩,h3⟩:=j;have f:∀x,cy sb b x->w'.heap[x]? =w.heap[x]? :=fun x a=>h3.block x (h6.st.eM x a) fun c=>c.elim (fun h=>(h7 x h).2 a) fun e=>h9 (e▸a)
 refine⟨⟨S',b,h1,i,h6.kept f,fun x a=>?_,h8,h9,h10,fun x a=>Us (h11 x a) h3.size⟩,⟨h3.os,h3.tape,h3.output,h3.size,fun k f m=>h3.block k f fun c=>?_⟩⟩
 ·rcases h2 x a with h|h
  ·exact h7 x h
  ·exact⟨fun c=>by have:=h11 x c;omega,fun l=>by have:=h6.st.eM x l;omega⟩
 ·apply m;rcases c with h|h
  ·exact(h7 k h).1
  ·rw[h];exact h8
def Own.put{K w sb c t}(h:Own K w sb c t)(T:aB w)(key value:yB)(g:key.size<=maxLen)(i:value.size<=maxLen):
 yC 30 #[pV (qA c),sV key,sV value] w fun e w'=>e=rV (i6 (cH (ah []) t key value:Int))/\Own K w' sb c (b6 (ah []) t key value)/\jH K w w':=by
 let⟨S,k,h1,h5,h6,h7,h8,h9,h10,h11⟩:=h;refine(BP h1 (h6.over T fun x j=>(h7 x j).2) key value g i).mono ?_;rintro e w' ⟨f,d⟩;let⟨a,b⟩:=Own.now h6 h7 h8 h9 h10 h11 d (zn h1.ok h5);exact⟨f,a,b⟩
def Own.del{K w sb c t}(h:Own K w sb c t)(T:aB w)(key:yB)(g:key.size<=maxLen):
 yC 32 #[pV (qA c),sV key] w fun e w'=>e=rV (tV #[bV (bC (ah []) t key).2.1,i6 ((bC (ah []) t key).2.2:Int)])/\Own K w' sb c (bC (ah []) t key).1/\jH K w w':=by
 let⟨S,j,h1,h5,h6,h7,h8,h9,h10,h11⟩:=h;refine(Ck h1 h5 (h6.over T fun x i=>(h7 x i).2) h9 key g).mono ?_;rintro e w' ⟨f,d⟩;let⟨a,b⟩:=Own.now h6 h7 h8 h9 h10 h11 d (Bi h1.ok h5);exact⟨f,a,b⟩
def Own.prove{K w sb c t}(h:Own K w sb c t)(T:aB w)(key:yB)(g:key.size<=maxLen):
 yC 22 #[pV (qA c),sV key] w fun e w'=>(∃v,e=rV (tV #[v,i6 (cK (ah []) t key:Int)])/\w'.ownsRow w.heap.size 9 1 v (aQ (ah []) t key).length (kT (aQ (ah []) t key)))/\Own K w' sb c (bE (ah []) t key)/\jH K w w':=by
 let⟨S,j,h1,h5,h6,h7,h8,h9,h10,h11⟩:=h;refine(T9 h1 (h6.over T fun x i=>(h7 x i).2) key g).mono ?_;rintro e w' ⟨f,d⟩;let⟨a,b⟩:=Own.now h6 h7 h8 h9 h10 h11 d (uB h1.ok h5);exact⟨f,a,b⟩
def Own.root{K w sb a t}(h:Own K w sb a t)(T:aB w):
 yC 21 #[pV (qA a)] w fun e w'=>e=rV (sV (ae (bQ t)))/\Own K w' sb a t/\yW w w':=by
 have c:=h;let⟨S,f,⟨⟨u,h1,h2⟩,h3,h4⟩,_⟩:=h;refine(qQ w a _ u t S h1 h2 h3.aK T).mono ?_;rintro e w' ⟨d,b⟩;exact⟨d,c.below b,b⟩
def Fh{w w1 w2:World}{b:Nat}{u:Option Addr}(h3:3<=w.heap.size)(i:gG 3 w1 w.heap.size (fun _=>lV none 0 0) [])(l:w.heap.size<w1.heap.size)
 (h1:w1.heap.size<=b) (h2:fF w2 b (qA w.heap.size) u) (h4:At w2 .nil (fun x=>w1.heap.size<=x/\x≠b) (pV u)) (f:yW w1 w2):Own (fun x=>x<w.heap.size) w2 w.heap.size b .nil:=by
 have d:∀x,cy w.heap.size (fun _=>Value.slice none 0 0) x->x=w.heap.size:=fun x a=>by
  rcases a with h|⟨c,_,h⟩
  ·exact h
  ·simp[Value.ownBlock] at h
 have m:=f.size;refine⟨fun _=>False,fun _=>lV none 0 0,⟨⟨u,h2,?_⟩,mE 0,fun x a=>a.elim⟩,trivial,⟨i.kept fun k j=>f.block k (by rw[d k j];exact l),by decide,(fun h t e=>by cases e),fun x a=>by rw[d x a];exact h3⟩,fun x a=>a.elim,by omega,fun h=>by have:=d b h;omega,fun x a=>by rw[d x a];omega,fun x a=>by omega⟩;have g:=h4;exact g
def fM:yB:=⟨#[100,101,116,111,117,114]⟩
def xB:yB:=⟨#[120]⟩
def bj:yB->Option yB:=ah []
def dY(n:Nat)(turn:Int)(i:Nat):Nat:=if turn.tmod 2=0 then n - 1 - i else(i+bW turn n) % n
def mV(t:Nd)(key:yB):Nd:=(bC bj (b6 bj t key xB) key).1
def ly(turn:Int)(t:Nd)(p:yB×yB):Nd:=b6 bj (if turn.tmod 3=0 then mV t p.1 else t) p.1 p.2
def eE(m:List (yB×yB))(turn:Int):Nat->Nd
 | 0=>.nil
 |i+1=>ly turn (eE m turn i) (m.getD (dY m.length turn i) (⟨#[]⟩,⟨#[]⟩))
def aR(m:List (yB×yB))(turn:Int):Nd:=
 if turn.tmod 5=0/\(bD m fM).size=0 then mV (eE m turn m.length) fM else eE m turn m.length
def qf(n:Nat)(turn:Int)(i:Nat)(h:i<n):dY n turn i<n:=by
 unfold dY;split
 ·omega
 ·exact Nat.mod_lt _ (by omega)
def Own.Jq{w:World}{g o v}(h:w.cell? ⟨g,o,none⟩=some v):g<w.heap.size:=by
 rcases Nat.lt_or_ge g w.heap.size with b|a
 ·exact b
 ·unfold World.cell? at h;rw[show(⟨g,o,none⟩:Addr).block=g from rfl,UF a] at h;cases h
structure jJ(w:World)(sb tb:Nat)(t:Nd)(bx:Nat)(k v:yB)(w':World):Prop where
 own:Own (fun x=>x<w.heap.size\/x=bx) w' sb tb t
 c0:w'.cell? ⟨bx,0,none⟩=some (sV k)
 c1:w'.cell? ⟨bx,1,none⟩=some (sV v)
 below:yW w w'
def Ha{w W:World}{sb d t}(k v)(h:Own (fun x=>x<w.heap.size) W sb d t)(c:Below w.heap.size w W):jJ w sb d t W.heap.size k v (W.alloc (.cells #[sV k,sV v] 144)):=by
 have b:Below W.heap.size W (W.alloc (.cells #[sV k,sV v] 144)):=(Un _ _).alloc (Ug _) _;refine⟨(h.more b).less fun x a=>?_,?_,?_,c.trans (b.mono c.size)⟩
 ·rcases a with a|a
  ·exact .inl a
  ·exact .inr ⟨by omega,by simp;omega⟩
 ·rw[Ur _ _ 0 _ _ _ (UG W _)];rfl
 ·rw[Ur _ _ 1 _ _ _ (UG W _)];rfl
def jJ.lt{w w' sb b t a k v}(h:jJ w sb b t a k v w'):a<w'.heap.size:=h.own.lt a (.inr rfl)
def jJ.step{w w1 w2 sb c t d a k v}(h:jJ w sb c t a k v w1)(e:Own (fun x=>x<w.heap.size\/x=a) w2 sb c d)(b:jH (fun x=>x<w.heap.size\/x=a) w1 w2):jJ w sb c d a k v w2:=
 ⟨e,b.cell (.inr rfl) h.lt h.c0,b.cell (.inr rfl) h.lt h.c1,h.below.trans ((b.less fun _ hx=>.inl hx).below h.below.size)⟩
def jJ.put{w w1 sb a t b k v}(h:jJ w sb a t b k v w1)(T:aB w1)(key value:yB)(d:key.size<=maxLen)(f:value.size<=maxLen):
 yC 30 #[pV (qA a),sV key,sV value] w1 fun e w'=>(∃c,e=rV (i6 c))/\jJ w sb a (b6 bj t key value) b k v w':=
 (h.own.put T key value d f).mono fun _ _ ⟨h1,h2,h3⟩=>⟨⟨_,h1⟩,h.step h2 h3⟩
def jJ.del{w w1 sb a t d k v}(h:jJ w sb a t d k v w1)(T:aB w1)(key:yB)(f:key.size<=maxLen):
 yC 32 #[pV (qA a),sV key] w1 fun e w'=>(∃b c,e=rV (tV #[bV b,i6 c]))/\jJ w sb a (bC bj t key).1 d k v w':=
 (h.own.del T key f).mono fun _ _ ⟨h1,h2,h3⟩=>⟨⟨_,_,h1⟩,h.step h2 h3⟩
def q8(a:Int)(k:Int):(a.tmod k == 0)=decide (a.tmod k=0):=by
 by_cases h:a.tmod k=0<;>simp[h]
def Ax(w v m)(turn:Int)(hm:eH w v m)(hn:m.length<4200000000000)(hr:Rg turn)(C0:∀p∈m,p.1.size<=maxLen/\p.2.size<=maxLen)(T:aB w):
 yC 83 #[v,i6 turn] w fun e w'=>∃sb f,e=rV (pV (qA f))/\Own (fun x=>x<w.heap.size) w' sb f (aR m turn)/\yW w w':=by
 have h3:=T.size;obtain⟨a,cap,rfl⟩:=hm.form;have HT:yH (∀W,yW w W->aB W):=fun W l=>T.below l
 have D0:yH (yC 6 #[] w fun e w'=>e=rV (pV (qA w.heap.size))/\yH (gG 3 w' w.heap.size (fun _=>lV none 0 0) [])/\yH (yW w w')/\w.heap.size<w'.heap.size):=(tN 3 w).mono fun e w' ⟨h1,h2,h3⟩=>⟨h1,h2,h3,h2.eM _ (.inl rfl)⟩
 have C6:yH (∀W,yW w W->yC 7 #[] W fun e w'=>e=rV (sV (ae bM))/\yW W w'):=fun W l=>ph W (T.below l)
 have D5:yH (∀W,yW w W->yC 17 #[pV (qA w.heap.size),sV (ae bM)] W fun e w'=>∃f u,e=rV (tV #[pV (qA f),i6 0])/\W.heap.size<=f/\fF w' f (qA w.heap.size) u/\At w' .nil (fun x=>W.heap.size<=x/\x≠f) (pV u)/\yW W w'):=fun W l=>by
  have:=sL W (qA w.heap.size) bM (kE _) (T.below l);have e:bP bM=.nil:=by unfold bP;rw[Uj rfl]
  rw[e] at this;exact this
 have HA:yH (∀k (_:k<m.length),∃p q g,m.getD k (⟨#[]⟩,⟨#[]⟩)=(p,q)/\a=some ⟨g,0,none⟩/\(∀W,yW w W->yc W g (k*2) (sV p)/\yc W g (k*2+1) (sV q))/\p.size<=maxLen/\q.size<=maxLen):=fun k s=>by
  have hp:m[k]? =some m[k]:=Uh s;obtain⟨g,e,_,c,d⟩:=hm.at_ k _ hp;obtain⟨s1,s2⟩:=C0 _ (Vc s);exact⟨_,_,g,by rw[Up,hp];rfl,e,fun W l=>⟨eg l c,eg l d⟩,s1,s2⟩
 have C8:yH (∀W,yW w W->yC 77 #[lV a m.length cap,sV fM] W fun e w'=>e=rV (sV (bD m fM))/\w'=W):=fun W l=>og W _ m fM (hm.below l) hn
 have D7:yH (∀W,0<m.length->yC 40 #[i6 turn,i6 m.length] W fun e w'=>e=rV (i6 (bW turn m.length))/\w'=W):=fun W h0=>qq turn _ hr h0 (by omega) W
 have D1:yH (∀i,eE m turn (i+1)=ly turn (eE m turn i) (m.getD (dY m.length turn i) (⟨#[]⟩,⟨#[]⟩))):=fun i=>rfl
 have C9:yH (∀i,i<m.length->dY m.length turn i<m.length):=fun i h=>qf _ _ _ h
 have C7:yH (∀i,dY m.length turn i=if turn.tmod 2=0 then m.length - 1 - i else(i+bW turn m.length) % m.length):=fun i=>rfl
 have A3:yH (aR m turn=if turn.tmod 5=0/\(bD m fM).size=0 then mV (eE m turn m.length) fM else eE m turn m.length):=rfl;have L:yH (∀sb f t J k v W key value,jJ w sb f t J k v W->key.size<=maxLen->value.size<=maxLen->yC 30 #[pV (qA f),sV key,sV value] W fun e w'=>(∃c,e=rV (i6 c))/\jJ w sb f (b6 bj t key value) J k v w'):=fun sb f t J k v W key value C s hv=>C.put (T.below C.below) key value s hv
 have A9:yH (∀sb f t J k v W key,jJ w sb f t J k v W->key.size<=maxLen->yC 32 #[pV (qA f),sV key] W fun e w'=>(∃b c,e=rV (tV #[bV b,i6 c]))/\jJ w sb f (bC bj t key).1 J k v w'):=fun sb f t J k v W key C s=>C.del (T.below C.below) key s
 have D8:yH (∀sb f t W key value,Own (fun x=>x<w.heap.size) W sb f t->yW w W->key.size<=maxLen->value.size<=maxLen->yC 30 #[pV (qA f),sV key,sV value] W fun e w'=>(∃c,e=rV (i6 c))/\Own (fun x=>x<w.heap.size) w' sb f (b6 bj t key value)/\yW w w'):=fun sb f t W key value C l s hv=>
  (C.put (T.below l) key value s hv).mono fun e w' ⟨h1,h2,h3⟩=>⟨⟨_,h1⟩,h2,l.trans (h3.below l.size)⟩
 have C5:yH (∀sb f t W key,Own (fun x=>x<w.heap.size) W sb f t->yW w W->key.size<=maxLen->yC 32 #[pV (qA f),sV key] W fun e w'=>(∃b c,e=rV (tV #[bV b,i6 c]))/\Own (fun x=>x<w.heap.size) w' sb f (bC bj t key).1/\yW w w'):=fun sb f t W key C l s=>
  (C.del (T.below l) key s).mono fun e w' ⟨h1,h2,h3⟩=>⟨⟨_,_,h1⟩,h2,l.trans (h3.below l.size)⟩
 clear hm C0 T;obtain⟨E8,E9⟩:=hr;generalize m.length=N at*;generalize bD m fM=HD at*;generalize aR m turn=R at*;go_enter func83,ntmps83
 go_wp2_with fail
 refine D0.m ?_;rintro e w1 ⟨rfl,A2,U,E6⟩;go_wp2_with fail
 refine(C6.o w1 U.o).mono ?_;rintro e w2 ⟨rfl,Y⟩;have A0:=aa (U.o.trans (Y.mono U.o.size));have D6:yH (gG 3 w2 w.heap.size (fun _=>lV none 0 0) []):=A2.o.kept fun k s=>Y.block k (A2.o.eM k s)
 have B9:w.heap.size<w2.heap.size:=by have:=Y.size;omega
 clear Y A2;go_wp2_with fail
 refine(D5.o w2 A0.o).mono ?_;rintro e w3 ⟨f,u,rfl,h1,h2,h4,A6⟩;have C2:=aa (A0.o.trans (A6.mono A0.o.size));have D2:=aa (Fh h3 D6.o B9 h1 h2 h4 A6);clear h1 h2 h4 A6 U E6 B9;go_wp2
 go_loopg [10] N (fun g r wr=>∃i:Nat,g=N - i/\i<=N/\r=i6 i/\yH (Own (fun x=>x<w.heap.size) wr w.heap.size f (eE m turn i))/\yH (yW w wr))
 case atStart=>exact⟨0,rfl,by omega,rfl,D2,C2⟩
 case round=>
  obtain⟨i,hg,hi,rfl,E,z⟩:=hrel;have V:=aa hg;clear hg;by_cases E4:i<N
  ·have E3:(i:Int)<(N:Int):=by omega
   have B0:yH (∀W,yC 40 #[i6 turn,i6 N] W fun e w'=>e=rV (i6 (bW turn N))/\w'=W):=fun W=>D7.o W (by omega)
   obtain⟨j,hj⟩:=yX (dY N turn i)
   have B7:=C9.o i E4;have K:=C7.o i;have A1:=D1.o i;rw[<-hj] at B7 K A1;obtain⟨q,hq⟩:=yX ((i+bW turn N) % N)
   have F0:bW turn N<N:=ky turn N (by omega);rw[<-hq] at K;have E5:q<N:=by rw[hq];exact Nat.mod_lt _ (by omega)
   have qI:((i:Int)+(bW turn N:Int)) % (N:Int)=(q:Int):=by rw[hq];simp
   have F1:(q:Int)<(N:Int):=by omega
   obtain⟨p1,v1,g,_,rfl,B5,_,_⟩:=HA.o q E5;obtain⟨p2,v2,g2,B6,Q,A7,B8,C1⟩:=HA.o j B7;injection Q with Q;injection Q with Q _;subst Q;obtain⟨c1,c2⟩:=B5 wr z.o;obtain⟨d1,d2⟩:=A7 wr z.o;have E7:=aa A7;have X:yH (eE m turn (i+1)=ly turn (eE m turn i) (p2,v2)):=by rw[A1,B6];rfl
   have o:yH (p2.size<=maxLen/\v2.size<=maxLen):=⟨B8,C1⟩
   have hz:=z.o.size;generalize bW turn N=r at*;clear B5 A7 A1 B6 hj hq B8 C1;generalize wr=WR at*;generalize gk=GK at*;by_cases Z:turn.tmod 2=0
   ·rw[Uj Z] at K;have E1:(turn.tmod 2 == 0)=true:=by rw[Z];rfl
    have E2:=Own.Jq d1;subst K;go_wp2_with fail
    refine(B0.o _).mono ?_;rintro e A ⟨rfl,S⟩;subst S;have P:=aa (Ha p2 v2 E.o z.o);clear E;by_cases B:turn.tmod 3=0
    ·have A5:(turn.tmod 3 == 0)=true:=by rw[B];rfl
     have G:yH (eE m turn (i+1)=b6 bj (bC bj (b6 bj (eE m turn i) p2 xB) p2).1 p2 v2):=by rw[X.o];show _=_;unfold ly mV;rw[Uj B]
     go_wp2_with fail
     refine(L.o _ _ _ _ _ _ _ p2 xB P.o o.o.1 (by decide)).mono ?_;rintro e w4 ⟨⟨c,rfl⟩,D⟩;have d0:=D.c0;have hl:=D.lt;have A4:=aa D;clear D;go_wp2_with fail
     refine(A9.o _ _ _ _ _ _ _ p2 A4.o o.o.1).mono ?_;rintro e w5 ⟨⟨b,c,rfl⟩,y⟩;have e0:=y.c0;have e1:=y.c1;have A8:=y.lt;have I:=aa y;clear y d0 hl;go_wp2_with fail
     refine(L.o _ _ _ _ _ _ _ p2 v2 I.o o.o.1 o.o.2).mono ?_;rintro e w6 ⟨⟨c,rfl⟩,n⟩;have H:yH (Own (fun x=>x<w.heap.size) w6 w.heap.size f (eE m turn (i+1))):=by rw[G.o];exact n.own.less fun _ h=>.inl h
     have F:=aa n.below;clear n e0 e1 A8;go_wp2
     go_roundg (N - (i+1))
     case measure=>have:=V.o;omega
     case rel=>exact⟨i+1,rfl,by omega,by go_num,H,F⟩
    ·have A5:(turn.tmod 3 == 0)=false:=by rw[q8];exact Uv B
     have G:yH (eE m turn (i+1)=b6 bj (eE m turn i) p2 v2):=by rw[X.o];show _=_;unfold ly;rw[Ui B]
     have I:=P;go_wp2_with fail
     refine(L.o _ _ _ _ _ _ _ p2 v2 I.o o.o.1 o.o.2).mono ?_;rintro e w6 ⟨⟨c,rfl⟩,n⟩;have H:yH (Own (fun x=>x<w.heap.size) w6 w.heap.size f (eE m turn (i+1))):=by rw[G.o];exact n.own.less fun _ h=>.inl h
     have F:=aa n.below;clear n;go_wp2
     go_roundg (N - (i+1))
     case measure=>have:=V.o;omega
     case rel=>exact⟨i+1,rfl,by omega,by go_num,H,F⟩
   ·rw[Ui Z] at K;have E1:(turn.tmod 2 == 0)=false:=by rw[q8];exact Uv Z
    have E2:=Own.Jq d1;subst K;have e1:p1=p2:=by have:=c1.symm.trans d1;injection this with this;injection this
    have e2:v1=v2:=by have:=c2.symm.trans d2;injection this with this;injection this
    subst e1 e2;go_wp2_with fail
    refine(B0.o _).mono ?_;rintro e A ⟨rfl,S⟩;subst S;have P:=aa (Ha p1 v1 E.o z.o);clear E;by_cases B:turn.tmod 3=0
    ·have A5:(turn.tmod 3 == 0)=true:=by rw[B];rfl
     have G:yH (eE m turn (i+1)=b6 bj (bC bj (b6 bj (eE m turn i) p1 xB) p1).1 p1 v1):=by rw[X.o];show _=_;unfold ly mV;rw[Uj B]
     go_wp2_with fail
     refine(L.o _ _ _ _ _ _ _ p1 xB P.o o.o.1 (by decide)).mono ?_;rintro e w4 ⟨⟨c,rfl⟩,D⟩;have d0:=D.c0;have hl:=D.lt;have A4:=aa D;clear D;go_wp2_with fail
     refine(A9.o _ _ _ _ _ _ _ p1 A4.o o.o.1).mono ?_;rintro e w5 ⟨⟨b,c,rfl⟩,y⟩;have e0:=y.c0;have e1:=y.c1;have A8:=y.lt;have I:=aa y;clear y d0 hl;go_wp2_with fail
     refine(L.o _ _ _ _ _ _ _ p1 v1 I.o o.o.1 o.o.2).mono ?_;rintro e w6 ⟨⟨c,rfl⟩,n⟩;have H:yH (Own (fun x=>x<w.heap.size) w6 w.heap.size f (eE m turn (i+1))):=by rw[G.o];exact n.own.less fun _ h=>.inl h
     have F:=aa n.below;clear n e0 e1 A8;go_wp2
     go_roundg (N - (i+1))
     case measure=>have:=V.o;omega
     case rel=>exact⟨i+1,rfl,by omega,by go_num,H,F⟩
    ·have A5:(turn.tmod 3 == 0)=false:=by rw[q8];exact Uv B
     have G:yH (eE m turn (i+1)=b6 bj (eE m turn i) p1 v1):=by rw[X.o];show _=_;unfold ly;rw[Ui B]
     have I:=P;go_wp2_with fail
     refine(L.o _ _ _ _ _ _ _ p1 v1 I.o o.o.1 o.o.2).mono ?_;rintro e w6 ⟨⟨c,rfl⟩,n⟩;have H:yH (Own (fun x=>x<w.heap.size) w6 w.heap.size f (eE m turn (i+1))):=by rw[G.o];exact n.own.less fun _ h=>.inl h
     have F:=aa n.below;clear n;go_wp2
     go_roundg (N - (i+1))
     case measure=>have:=V.o;omega
     case rel=>exact⟨i+1,rfl,by omega,by go_num,H,F⟩
  ·obtain rfl:i=N:=by omega
   have E3:¬(i:Int)<(i:Int):=by omega
   by_cases h5:turn.tmod 5=0
   ·have D9:(turn.tmod 5 == 0)=true:=by rw[h5];rfl
    go_wp2_with fail
    refine(C8.o _ z.o).mono ?_;rintro e A ⟨rfl,S⟩;subst S;by_cases M:HD.size=0
    ·have E0:HD.toList.isEmpty=true:=by rw[g7];exact M
     have O:yH (R=mV (eE m turn i) fM):=by rw[A3.o,Uj ⟨h5,M⟩];rfl
     clear M;go_wp2_with fail
     refine(D8.o _ _ _ _ fM xB E.o z.o (by decide) (by decide)).mono ?_;rintro e w4 ⟨⟨c,rfl⟩,B3,B1⟩;have D3:=aa B3;have C3:=aa B1;clear B3 B1 E z;go_wp2_with fail
     refine(C5.o _ _ _ _ fM D3.o C3.o (by decide)).mono ?_;rintro e w5 ⟨⟨b,c,rfl⟩,B4,B2⟩;have D4:=aa B4;have C4:=aa B2;clear B4 B2;go_wp2
     go_ret
     exact⟨_,_,rfl,by rw[O.o];exact D4.o,C4.o⟩
    ·have E0:HD.toList.isEmpty=false:=by rw[iv];exact M
     have O:yH (R=eE m turn i):=by rw[A3.o,Ui (fun h=>M h.2)];rfl
     clear M;go_wp2
     go_ret
     exact⟨_,_,rfl,by rw[O.o];exact E.o,z.o⟩
   ·have D9:(turn.tmod 5 == 0)=false:=by rw[q8];exact Uv h5
    have O:yH (R=eE m turn i):=by rw[A3.o,Ui (fun h=>h5 h.1)];rfl
    go_wp2
    go_ret
    exact⟨_,_,rfl,by rw[O.o];exact E.o,z.o⟩
def Lh(ks:Nat->Nd)(c:Nat):aJ ks c (ks c)=ks:=by
 funext i
 by_cases e:i=c
 ·subst e;exact dK _ _ _
 ·exact e9 _ _ _ _ e
def O9(G:yB->Option yB):∀(f:Nat) (t) (p) (dep:Nat) (bl:Bool),bL t->aw p->dc G f t p dep bl=(t,0):=by
 intro f;induction f with
 |zero=>intro t p dep bl _ _;rfl
 |succ f ih=>
  intro t p dep bl a b;show lG t (fun t1=>gj (dc G f) t1 p dep) (dG G t dep bl)=_;rw[ru a];show gj (dc G f) t p dep=_;cases t with
  |nil=>rfl
  |unread _=>exact a.elim
  |leaf _ _ _=>rfl
  |ext h q k=>
   simp only[gj];rw[ih k (p.drop q.length) (dep+q.length) true a (da b _)];split<;>rfl
  |branch h v ks=>
   cases p with
   |nil=>rfl
   |cons c r=>
    simp only[gj];rw[ih (ks c.toNat) r (dep+1) false (a _ (b c (Uk ..))) fun y d=>b y (Ul _ d),Lh]
def lM{G t}(key)(a:bL t):aG G t key=(t,0):=O9 G 81 t (aD key) 0 false a (b8 key)
def Rr{G t}(key)(a:bL t):bE G t key=t:=by
 unfold bE;split
 ·rfl
 ·rw[lM key a]
def p8{G t}{key:yB}(a:bL t)(b:key.size<=40):aQ G t key=dS 81 t (aD key) 0:=by
 unfold aQ;rw[Ui (by omega),lM key a,Uj rfl]
def vZ{G t}(key value)(a:bL t):bL (b6 G t key value):=by
 unfold b6;split
 ·unfold jx;rw[lM key a];exact yk a (b8 key)
 ·unfold fR;split
  ·exact a
  ·split
   ·exact a
   ·rw[lM key a];exact a
def IQ{G t}(key)(a:bL t):bL (bC G t key).1:=by
 unfold bC;rw[lM key a];split
 ·exact a
 ·split
  ·exact a
  ·split
   ·exact a
   ·cases hl:bI G t (aD key) 0 with
    |error e=>exact a
    |ok t'=>exact ot.less_all G _ _ _ _ a hl
def sw(m)(turn:Int):∀i,bL (eE m turn i)
 | 0=>trivial
 |i+1=>by
  show bL (ly turn (eE m turn i) _)
  have a:=sw m turn i
  unfold ly mV
  split
  ·exact vZ _ _ (IQ _ (vZ _ _ a))
  ·exact vZ _ _ a
def xJ(m)(turn:Int):bL (aR m turn):=by
 unfold aR mV;split
 ·exact IQ _ (vZ _ _ (sw m turn _))
 ·exact sw m turn _
def KT:∀(f:Nat) (t) (r) (d:Nat),aA t d->bL t->aw r->(dS f t r d).length<=f/\∀c∈dS f t r d,c.length<=4096:=by
 intro f;induction f with
 |zero=>intro t r d _ _ _;exact⟨Ug _,fun c h=>by cases h⟩
 |succ f ih=>
  intro t r d e g l;by_cases i:t.isNil=true
  ·simp only[dS,Uj i];exact⟨UD _,fun c h=>by cases h⟩
  ·have hs:t.some:=(gM t).1 (by simpa using i);have n:=g.read hs;have j:aA (ay t r d).1 (ay t r d).2.2.1/\bL (ay t r d).1/\aw (ay t r d).2.1:=by
    have b:aA (Nd.nil) 0/\bL .nil/\aw []:=⟨mE 0,trivial,fun _ h=>by cases h⟩
    cases t with
    |nil=>exact b
    |unread _=>exact b
    |leaf _ _ _=>exact b
    |ext h q k=>
     simp only[ay];split
     ·exact⟨fq e,g,da l _⟩
     ·exact b
    |branch h v ks=>
     cases r with
     |nil=>exact b
     |cons c r=>
      have a:=l c (Uk ..);exact⟨dA e _ a,g _ a,fun y o=>l y (Ul _ o)⟩
   let⟨i1,i2⟩:=ih _ _ _ j.1 j.2.1 j.2.2;simp only[dS,Ui i];have m:(dm t d).length<=1/\∀c∈dm t d,c.length<=4096:=by
    unfold dm;split
    ·exact⟨Ug _,fun c a=>by rw[Uo.1 a];exact(e.aK.ow n).2⟩
    ·exact⟨UD _,fun c h=>by cases h⟩
   exact⟨by rw[Uq];omega,fun c a=>(UA.1 a).elim (m.2 c) (i2 c)⟩
def Aw{a b}(h:aD a=aD b):a=b:=by
 unfold aD at h;have:=congrArg gT h;rw[tR,tR] at this;exact Go.WideShapes.bytes_inj this
def dV(a b:yB):(a.toList == b.toList)=decide (a=b):=by
 rw[ByteArray.toList_eq,ByteArray.toList_eq];by_cases h:a=b
 ·subst h;simp
 ·rw[Uv h,Vd];exact fun e=>h (Go.WideShapes.bytes_inj e)
def gn:List (yB×yB)->yL->yL
 | [],_=>[]
 |p::m,x=>if aD p.1=x then p.2.data.toList else gn m x
def ql:∀(m) (key),gn m (aD key)=(bD m key).data.toList
 | [],key=>rfl
 |p::m,key=>by
  have a:=ql m key
  unfold bD at a⊢
  simp only[gn,ah,dV]
  by_cases e:p.1=key
  ·rw[Uj (by rw[e]),Uj (Uw e)];rfl
  ·rw[Ui fun h=>e (Aw h),Ui (by rw[Uv e];exact Bool.false_ne_true),a]
def wW:∀(a b) (x),(∀p∈a,aD p.1≠x)->gn (a++b) x=gn b x
 | [],b,x,_=>rfl
 |p::a,b,x,h=>by
  show(if aD p.1=x then _ else gn (a++b) x)=_
  rw[Ui (h p (Uk ..)),wW a b x fun q c=>h q (Ul _ c)]
def Ge:∀(m) (key) (b) (x),x≠aD key->(∀p∈b,aD p.1≠x)->gn (others m key++b) x=gn m x
 | [],key,b,x,_,hb=>by have:=wW b [] x hb;simpa [others,gn] using this
 |p::m,key,b,x,hx,hb=>by
  have a:=Ge m key b x hx hb
  unfold others at a⊢
  by_cases e:p.1=key
  ·have:(!(p.1.toList == key.toList))=false:=by rw[dV,Uw e];rfl
   rw[List.filter_cons_of_neg (by simp[this]),a]
   simp only[gn]
   rw[Ui (by rw[e];exact fun h=>hx h.symm)]
  ·have:(!(p.1.toList == key.toList))=true:=by rw[dV,Uv e];rfl
   rw[List.filter_cons_of_pos (by simp[this])]
   simp only[List.cons_append,gn,a]
def zE(m key):∀p∈others m key,p.1≠key:=fun p a e=>by
 unfold others at a
 have:=(List.mem_filter.1 a).2
 rw[dV,Uw e] at this
 cases this
def ui(m key value x):gn (aL m key value) x=if x=aD key then value.data.toList else gn m x:=by
 unfold aL;by_cases e:x=aD key
 ·rw[Uj e,wW _ _ _ fun p a h=>zE m key p a (Aw (h.trans e))];split
  ·next h0=>
   have:value.data.toList=[]:=UH.1 (by simpa using h0);rw[this];rfl
  ·simp only[gn];rw[Uj e.symm]
 ·rw[Ui e];refine Ge m key _ x e ?_;split
  ·exact fun p h=>by cases h
  ·intro p a;rw[Uo.1 a];exact fun h=>e h.symm
structure fu(m:List (yB×yB))(F:Nd):Prop where
 ok:aA F 0
 loose:bK F
 all:bL F
 find:∀x,aw x->aM F x=gn m x
def fu.congr{m b F}(h:fu m F)(c:∀x,aw x->gn m x=gn b x):fu b F:=⟨h.ok,h.loose,h.all,fun x a=>(h.find x a).trans (c x a)⟩
def vE:fu [] .nil:=⟨mE 0,trivial,trivial,fun _ _=>rfl⟩
def CL{m F}(h:fu m F)(key value:yB)(g:key.size<=40)(h0:0<value.size)(i:value.size<=160):fu (aL m key value) (bR F (aD key) value.data.toList):=by
 have b:value.data.toList.length=value.size:=by simp
 have d:value.data.toList≠[]:=fun e=>by rw[e] at b;simp at b;omega
 have a:=nT h.all (b8 key);have c:=yj h.ok a (b8 key) (by rw[g6];omega) d (by omega);refine⟨c,(yv h.loose a).loose,yk h.all (b8 key),fun x f=>?_⟩;rw[IG a x,ui,h.find x f]
def Gj{F p dep}(d:aA F dep)(e:bK F)(a:bL F)(j:jL F p)(f:aw p)(i:dep+p.length<=80):∃b,bI iF F p dep=.ok b:=by
 have g:sE iF False (fun _=>False):=fun c h=>h.elim
 rcases EW g F F p dep (Part.refl a) d d e e a (nT a f) j f i with⟨k,b,h1,_⟩|⟨h,_⟩
 ·exact⟨k,h1⟩
 ·exact h.elim
def CN{m F a}(h:fu m F)(key:yB)(g:key.size<=40)(d:jL F (aD key))(b:bI iF F (aD key) 0=.ok a):fu (aL m key ⟨#[]⟩) a:=by
 have f:=nT h.all (b8 key);have c:0+(aD key).length<=80:=by rw[g6];omega
 let⟨h1,_⟩:=lk iF F (aD key) 0 a h.ok h.loose f d (b8 key) c b;refine⟨h1.ok,h1.tight.loose,ot.less_all iF _ _ _ _ h.all b,fun x e=>?_⟩;rw[ot iF F (aD key) 0 a h.ok h.loose h.all d (b8 key) c b x e,ui,h.find x e]
def CM{m F}(h:fu m F)(key)(h0:aM F (aD key)=[]):fu (aL m key ⟨#[]⟩) F:=by
 refine h.congr fun x a=>?_
 rw[ui];by_cases e:x=aD key
 ·rw[Uj e,e,<-h.find _ (b8 key),h0]
 ·rw[Ui e]
def CG{G m F}(h:fu m F)(key value:yB)(a:key.size<=40)(h0:0<value.size)(b:value.size<=160):fu (aL m key value) (b6 G F key value):=by
 have e:cH G F key value=0:=by unfold cH;rw[Ui (by omega),Ui (by omega),lM key h.all]
 unfold b6;rw[Uj e];unfold jx;rw[lM key h.all];exact CL h key value a h0 b
def Gk(G b:yB->Option yB):∀(F) (p) (dep:Nat),bL F->aw p->bI G F p dep=bI b F p dep:=by
 have hs:∀(ks:Nat->Nd) (v:yL) (dep:Nat),(∀i,i<16->bL (ks i))->cd G ks v dep=cd b ks v dep:=fun ks v dep a=>by
  unfold cd;by_cases h0:cO ks 16=0
  ·rw[Uj h0,Uj h0]
  ·let⟨g,_⟩:=nt ks 16 (by omega);rw[ru (a _ g),ru (a _ g)]
 intro F;induction F with
 |nil=>intro p dep _ _;rfl
 |unread _=>intro p dep h;exact h.elim
 |leaf _ _ _=>intro p dep _ _;rfl
 |ext h q k ih=>
  intro p dep a d;show lH q (bI G k _ _)=lH q (bI b k _ _);rw[ih _ _ a (da d _)]
 |branch h v ks ih=>
  intro p dep a d;cases p with
  |nil=>exact hs ks [] dep a
  |cons c r=>
   show pU (fun k=>cd G (aJ ks c.toNat k) v dep) (bI G (ks c.toNat) r (dep+1))=pU (fun k=>cd b (aJ ks c.toNat k) v dep) (bI b (ks c.toNat) r (dep+1));have f:=d c (Uk ..);rw[ih c.toNat r (dep+1) (a _ f) fun y j=>d y (Ul _ j)];cases hk:bI b (ks c.toNat) r (dep+1) with
   |error e=>rfl
   |ok k=>exact hs _ v dep (vw a (ot.less_all b _ _ _ _ (a _ f) hk))
def Lq{G m F}(h:fu m F)(key:yB)(d:key.size<=40):fu (aL m key ⟨#[]⟩) (bC G F key).1/\(bC G F key).2.2=0/\(bC G F key).2.1=decide ((bD m key).size≠0):=by
 have a:aM F (aD key)=(bD m key).data.toList:=(h.find _ (b8 key)).trans (ql m key);have c:(bD m key).data.toList.length=(bD m key).size:=by simp
 unfold bC;rw[Ui (by omega),lM key h.all,Ui (by simp)];by_cases h0:aM F (aD key)=[]
 ·rw[Uj h0];refine⟨CM h key h0,rfl,?_⟩;rw[a] at h0;rw[h0] at c;simp at c;exact(Uv (by omega)).symm
 ·rw[Ui h0];have b:=px _ _ h0;let⟨f,e⟩:=Gj h.ok h.loose h.all b (b8 key) (by rw[g6];omega);rw[Gk G iF F _ 0 h.all (b8 key),e];refine⟨CN h key d b e,rfl,?_⟩;rw[a] at h0;refine(Uw ?_).symm;intro e2;exact h0 (UH.1 (by omega))
structure cT(m:List (yB×yB)):Prop where
 once:(m.map (·.1)).Nodup
 size:∀p∈m,p.1.size<=40/\0<p.2.size/\p.2.size<=160
def o9:cT []:=⟨List.nodup_nil,fun p h=>by cases h⟩
def rM{m}(h:cT m)(key value:yB)(g:key.size<=40)(i:value.size<=160):cT (aL m key value):=by
 have d:(others m key).Sublist m:=List.filter_sublist;have h1:((others m key).map (·.1)).Nodup:=(d.map _).nodup h.once;unfold aL;split
 ·rw[UU];exact⟨h1,fun p c=>h.size p (d.subset c)⟩
 ·next h0=>
  refine⟨?_,fun p c=>?_⟩
  ·rw[Vl,List.nodup_append];refine⟨h1,by simp,fun a f b e=>?_⟩;obtain⟨p,c,rfl⟩:=UO.1 f;simp at e;rw[e];exact zE m key p c
  ·rcases UA.1 c with c|c
   ·exact h.size p (d.subset c)
   ·rw[Uo.1 c];exact⟨g,Nat.pos_of_ne_zero h0,i⟩
def Gf{m}(h:cT m){p}(a:p∈m):gn m (aD p.1)=p.2.data.toList:=by
 have b:=h.once;clear h;induction m with
 |nil=>cases a
 |cons q m ih=>
  simp only[List.map_cons,List.nodup_cons] at b;rcases UC.1 a with rfl|a
  ·show(if aD p.1=aD p.1 then _ else _)=_;rw[Uj rfl]
  ·simp only[gn];rw[Ui,ih a b.2];intro e;apply b.1;rw[Aw e];exact UO.2 ⟨p,a,rfl⟩
def wV{m x}(h:∀p∈m,aD p.1≠x):gn m x=[]:=by
 have:=wW m [] x h;rw[UU] at this;exact this
def CX{m F}(h:fu m F)(key:yB)(a:key.size<=40)(x):fu (aL (aL m key xB) key ⟨#[]⟩) (mV F key)/\gn (aL (aL m key xB) key ⟨#[]⟩) x=if x=aD key then [] else gn m x:=by
 refine⟨(Lq (CG h key xB a (by decide) (by decide)) key a).1,?_⟩;rw[ui,ui];split<;>rfl
open Classical in
def Ti{m}(t:cT m)(turn:Int):∀i,i<=m.length->aA (eE m turn i) 0/\bK (eE m turn i)/\∀x,aw x->aM (eE m turn i) x=if(∃k p,k<i/\m[dY m.length turn k]? =some p/\aD p.1=x) then gn m x else []:=by
 intro i;induction i with
 |zero=>
  intro _;refine⟨mE 0,trivial,fun x _=>?_⟩;rw[Ui (by rintro ⟨k,_,h,_⟩;omega)];rfl
 |succ i ih=>
  intro hi;let⟨h1,h2,h3⟩:=ih (by omega);have C:=qf m.length turn i (by omega);obtain⟨p,c⟩:∃p,m[dY m.length turn i]? =some p:=⟨_,Uh C⟩
  have A:m.getD (dY m.length turn i) (⟨#[]⟩,⟨#[]⟩)=p:=by rw[Up,c];rfl
  have u:=UQ c;let⟨s1,s2,s3⟩:=t.size p u;have key:∀(F:Nd) (f:yL->yL),aA F 0->bK F->bL F->(∀x,aw x->aM F x=f x)->∀(k v:yB),k.size<=40->0<v.size->v.size<=160->aA (b6 bj F k v) 0/\bK (b6 bj F k v)/\bL (b6 bj F k v)/\∀x,aw x->aM (b6 bj F k v) x=if x=aD k then v.data.toList else f x:=fun F f g1 g2 g3 g4 k v k1 k2 k3=>by
   have s:v.data.toList.length=v.size:=by simp
   have b:v.data.toList≠[]:=fun e=>by rw[e] at s;simp at s;omega
   have e:cH bj F k v=0:=by unfold cH;rw[Ui (by omega),Ui (by omega),lM k g3]
   have e2:b6 bj F k v=bR F (aD k) v.data.toList:=by unfold b6;rw[Uj e];unfold jx;rw[lM k g3]
   have l:=nT g3 (b8 k);have z:=yj g1 l (b8 k) (by rw[g6];omega) b (by omega);rw[e2];refine⟨z,(yv g2 l).loose,yk g3 (b8 k),fun x a=>?_⟩;rw[IG l x,g4 x a]
  have w:∀(F:Nd) (f:yL->yL),aA F 0->bK F->bL F->(∀x,aw x->aM F x=f x)->∀(k:yB),k.size<=40->f (aD k)≠[]->aA (bC bj F k).1 0/\bK (bC bj F k).1/\bL (bC bj F k).1/\∀x,aw x->aM (bC bj F k).1 x=if x=aD k then [] else f x:=fun F f g1 g2 g3 g4 k k1 r=>by
   have j:=px F (aD k) (by rw[g4 _ (b8 k)];exact r);have g:0+(aD k).length<=80:=by rw[g6];omega
   let⟨d,e⟩:=Gj g1 g2 g3 j (b8 k) g;have e2:(bC bj F k).1=d:=by
    unfold bC;rw[Ui (by omega),lM k g3,Ui (by simp),Ui (by rw[g4 _ (b8 k)];exact r),Gk bj iF F _ 0 g3 (b8 k),e];rfl
   rw[e2];let⟨l1,_⟩:=lk iF F (aD k) 0 d g1 g2 (nT g3 (b8 k)) j (b8 k) g e;refine⟨l1.ok,l1.tight.loose,ot.less_all iF _ _ _ _ g3 e,fun x a=>?_⟩;rw[ot iF F (aD k) 0 d g1 g2 g3 j (b8 k) g e x a,g4 x a]
  have B:=Gf t u;have n:∀(F:Nd) (f:yL->yL),aA F 0->bK F->bL F->(∀x,aw x->aM F x=f x)->(∀x,aw x->x≠aD p.1->f x=aM (eE m turn i) x)->aA (b6 bj F p.1 p.2) 0/\bK (b6 bj F p.1 p.2)/\∀x,aw x->aM (b6 bj F p.1 p.2) x=if(∃k q,k<i+1/\m[dY m.length turn k]? =some q/\aD q.1=x) then gn m x else []:=fun F f g1 g2 g3 g4 g5=>by
   let⟨a1,a2,_,a4⟩:=key F f g1 g2 g3 g4 p.1 p.2 s1 s2 s3;refine⟨a1,a2,fun x a=>?_⟩;rw[a4 x a];by_cases e:x=aD p.1
   ·rw[Uj e,Uj ⟨i,p,by omega,c,e.symm⟩,e,B]
   ·rw[Ui e,g5 x a e,h3 x a];by_cases e2:∃k q,k<i/\m[dY m.length turn k]? =some q/\aD q.1=x
    ·let⟨k,q,b1,b2,b3⟩:=e2;rw[Uj ⟨k,q,b1,b2,b3⟩,Uj ⟨k,q,by omega,b2,b3⟩]
    ·rw[Ui e2,Ui];rintro ⟨k,q,b1,b2,b3⟩;by_cases y:k=i
     ·subst y;rw[c] at b2;cases b2
      exact e b3.symm
     ·exact e2 ⟨k,q,by omega,b2,b3⟩
  show aA (ly turn (eE m turn i) (m.getD (dY m.length turn i) (⟨#[]⟩,⟨#[]⟩))) 0/\bK (ly turn (eE m turn i) (m.getD (dY m.length turn i) (⟨#[]⟩,⟨#[]⟩)))/\∀x,aw x->aM (ly turn (eE m turn i) (m.getD (dY m.length turn i) (⟨#[]⟩,⟨#[]⟩))) x=_;rw[A];unfold ly;by_cases o:turn.tmod 3=0
  ·rw[Uj o];unfold mV;let⟨a1,a2,a3,a4⟩:=key (eE m turn i) _ h1 h2 (sw m turn i) (fun x _=>rfl) p.1 xB s1 (by decide) (by decide);let⟨b1,b2,b3,b4⟩:=w _ _ a1 a2 a3 a4 p.1 s1 (by rw[Uj rfl];decide);refine n _ _ b1 b2 b3 b4 fun x a b=>?_
   rw[Ui b,Ui b]
  ·rw[Ui o];exact n _ _ h1 h2 (sw m turn i) (fun x _=>rfl) fun x _ _=>rfl
def Pm(n:Nat)(turn:Int)(j:Nat)(h:j<n):∃k,k<n/\dY n turn k=j:=by
 unfold dY;split
 ·exact⟨n - 1 - j,by omega,by omega⟩
 ·have a:bW turn n<n:=ky turn n (by omega);generalize bW turn n=r at*;by_cases e:r<=j
  ·exact⟨j - r,by omega,by rw[show j - r+r=j by omega];exact VH h⟩
  ·exact⟨j+n - r,by omega,by rw[show j+n - r+r=j+n by omega,Nat.add_mod_right];exact VH h⟩
open Classical in
def jV{m}(n:cT m)(turn:Int):fu m (aR m turn):=by
 let⟨h1,h2,h3⟩:=Ti n turn m.length (Ug _);have a:fu m (eE m turn m.length):=by
  refine⟨h1,h2,sw m turn _,fun x c=>?_⟩;rw[h3 x c];by_cases e:∃k p,k<m.length/\m[dY m.length turn k]? =some p/\aD p.1=x
  ·rw[Uj e]
  ·rw[Ui e];refine(wV fun p o g=>e ?_).symm;let⟨j,b,f⟩:=List.mem_iff_getElem.1 o;let⟨k,i,l⟩:=Pm m.length turn j b;exact⟨k,p,i,by rw[l,Uh b,f],g⟩
 unfold aR;split
 ·next h=>
  have d:=(CX a fM (by decide) []).1;refine d.congr fun x c=>?_
  rw[(CX a fM (by decide) x).2];by_cases e:x=aD fM
  ·rw[Uj e,e,ql];have q:(bD m fM).data.toList.length=(bD m fM).size:=by simp
   exact(UH.1 (by omega)).symm
  ·rw[Ui e]
 ·exact a
def fu.one{m F b}(h:fu m F)(a:fu m b)(Q:yL->Prop):Part Q F b:=Lo Q F b 0 h.ok a.ok h.loose a.loose h.all a.all fun x c=>(h.find x c).trans (a.find x c).symm
def bf:yB:=⟨#[128]⟩
def dd{P f a w}{R:World->Prop}(h:∀Q:Ending->World->Prop,yH (∀b w',R w'->Q (rV (bV b)) w')->Calls P f a w (fun e w'=>Q e w'/\True)):Calls P f a w (fun e w'=>∃b,e=rV (bV b)/\R w'):=
 (h (fun e w'=>∃b,e=rV (bV b)/\R w') fun b _ c=>⟨b,rfl,c⟩).mono fun _ _ h=>h.1
def qd{w:World}{base v}{l:List yB}(h:w.ownsRow base 9 1 v l.length (l.map Value.string)):gQ w v l:=by
 obtain⟨a,cap,rfl,_,_,f⟩:=dM h;refine⟨a,cap,rfl,?_⟩;rcases f with⟨_,h0,_⟩|⟨g,rfl⟩
 ·exact .inl (UH.1 h0)
 ·refine .inr ⟨g,0,rfl,fun i p b=>?_⟩;rw[Vj];exact fc h rfl i _ (by rw[UK,b];rfl)
def vA(l:List yL):kT l=(l.map ae).map Value.string:=by unfold kT;rw[List.map_map];rfl
def zt{t}(b:aA t 0)(a:bL t)(key):(aQ bj t key).length<=81/\∀c∈aQ bj t key,c.length<=4096:=by
 unfold aQ;split
 ·exact⟨UD _,fun c h=>by cases h⟩
 ·rw[lM key a,Uj rfl];exact KT 81 t (aD key) 0 b a (b8 key)
def Own.others{K}{w w':World}{sb c t}(h:Own K w sb c t)(e:w.heap.size<=w'.heap.size)(k:∀x,x<w.heap.size->¬K x->w'.heap[x]? =w.heap[x]?):Own (fun x=>K x\/(w.heap.size<=x/\x<w'.heap.size)) w' sb c t:=by
 let⟨S,f,⟨⟨u,h1,h2⟩,h3,h4⟩,h5,h6,h7,h8,h9,h10,h11⟩:=h;have g:=h1.lt;exact⟨S,f,⟨⟨u,h1.kept (k c h1.lt h8),h2.kept fun x a d=>k x d (h7 x a).1⟩,h3,fun x a=>by have:=h4 x a;exact⟨this.1,this.2.1,by omega⟩⟩,h5,h6.kept fun x a=>k x (h6.st.eM x a) (h10 x a),fun x a=>⟨fun b=>by have:=h4 x a;rcases b with b|b;exact(h7 x a).1 b;omega,(h7 x a).2⟩,fun b=>by rcases b with b|b;exact h8 b;omega,h9,fun x a b=>by have:=h6.st.eM x a;rcases b with b|b;exact h10 x a b;omega,fun x a=>by rcases a with a|a;exact Us (h11 x a) e;exact a.2⟩
structure nI(w:World)(sb tb:Nat)(t:Nd)(l:List yB)(v:Value)(wr:World):Prop where
 own:Own (fun x=>x<w.heap.size\/v.ownBlock=some x) wr sb tb t
 row:wr.ownsRow w.heap.size 9 1 v l.length (l.map Value.string)
 below:yW w wr
def nI.kept{w wr w' sb a t l v}(h:nI w sb a t l v wr)(d:Own (fun x=>x<w.heap.size\/v.ownBlock=some x) w' sb a t)(c:jH (fun x=>x<w.heap.size\/v.ownBlock=some x) wr w'):nI w sb a t l v w':=
 ⟨d,cM h.row fun g b=>c.at_ g (.inr b) (h.row.lt g b).2,h.below.trans ((c.less fun _ hx=>.inl hx).below h.below.size)⟩
def nI.more{w wr w' sb b t l v}(h:nI w sb b t l v wr)(a:yW wr w'):nI w sb b t l v w':=
 ⟨h.own.below a,cM h.row fun g c=>a.block g (h.row.lt g c).2,h.below.trans (a.mono h.below.size)⟩
def IM{w wr W w':World}{sb c t}{l l':List yB}{v:Value}{g cap n:Nat}(j:Own (fun x=>x<w.heap.size\/v.ownBlock=some x) wr sb c t)(f:yW w wr)(y:wr.ownsRow w.heap.size 9 1 v l.length (l.map Value.string))(d:yW wr W)
 (b:W.grownBy w' v.ownBlock) (p:v.ownBlock=some g\/g=W.heap.size) (r:g<w'.heap.size) (u:w'.ownsRow w.heap.size 9 1 (lV (qA g) n cap) l'.length (l'.map Value.string)):nI w sb c t l' (lV (qA g) n cap) w':=by
 have m:=j.below d;have i:=f.trans (d.mono f.size);have o:=(m.others (w':=w') b.size fun x a s=>b.block x a fun e=>s (.inr e.symm))
 refine⟨o.less fun x a=>?_,u,i.grown b i.size fun k q=>(y.lt k q).1⟩;rcases a with a|a
 ·exact .inl (.inl a)
 ·have e:g=x:=by simpa [Value.ownBlock] using a
  subst e;rcases p with h|h
  ·exact .inl (.inr h)
  ·exact .inr ⟨by omega,r⟩
def QN{M w P G}(hG:j5 M w P G)(V:∀x,M x->x<w.heap.size)(C1:∀k t,G k=some t->t.size<=maxLen)(v m)(J:eH w v m)(hn:m.length<4200000000000)(Y:cT m)(T:aB w):
 yC 82 #[pV P,v] w fun e w'=>∃b,e=rV (bV b)/\yW w w':=by
 refine dd fun Q HQ=>?_
 obtain⟨a,cap,rfl⟩:=J.form;have h3:=T.size;have A7:=jV Y 1;have X:=xJ m 1;have Z:∀p∈m,p.1.size<=maxLen/\p.2.size<=maxLen:=fun p n=>by have:=Y.size p n;unfold maxLen;omega
 have C7:yH (yC 83 #[lV a m.length cap,i6 1] w fun e w'=>∃sb d,e=rV (pV (qA d))/\Own (fun x=>x<w.heap.size) w' sb d (aR m 1)/\yW w w'):=Ax w _ m 1 J hn ⟨by decide,by decide⟩ Z T;have HA:yH (∀k (_:k<m.length),∃key g,a=some ⟨g,0,none⟩/\(∀W,yW w W->yc W g (k*2) (sV key))/\key.size<=maxLen):=fun k q=>by
  have n:m[k]? =some m[k]:=Uh q;obtain⟨g,e,_,c,_⟩:=J.at_ k _ n;exact⟨_,g,e,fun W j=>eg j c,(Z _ (Vc q)).1⟩
 have D6:yH (∀K sb d W key,Own K W sb d (aR m 1)->yW w W->key.size<=maxLen->yC 22 #[pV (qA d),sV key] W fun e w'=>∃u,e=rV (tV #[u,i6 (cK bj (aR m 1) key:Int)])/\w'.ownsRow W.heap.size 9 1 u ((aQ bj (aR m 1) key).map ae).length (((aQ bj (aR m 1) key).map ae).map Value.string)/\Own K w' sb d (aR m 1)/\jH K W w'):=fun K sb d W key hO j q=>
  (hO.prove (T.below j) key q).mono fun e w' ⟨⟨u,e1,e2⟩,e3,e4⟩=>⟨u,e1,by rw[UM,<-vA];exact e2,by rw[Rr key X] at e3;exact e3,e4⟩
 have D9:yH (∀W c,yW w W->c.length<=4096->yC 121 #[pV P,sV (ae c)] W fun e w'=>e=rV (bV (eI G (ae c)))/\yW W w'):=fun W c j hc=>
  Gv (M:=M) (G:=G) (fun W' h hh q=>hG W' h hh fun x A=>(q x A).trans (j.block x (V x A))) (fun x A=>Us (V x A) j.size) C1 (ae c) (by rw[aN];unfold maxLen;omega) (T.below j)
 have C8:yH (∀W u l,yW w W->gQ W u l->l.length<=4200000000000->(∀p∈l,p.size<=maxLen)->yC 13 #[u] W fun e w'=>e=rV (bV (bY l l.length))/\yW W w'):=fun W u l j hu hl hs=>pk W u l hu hl hs (T.below j)
 have D7:yH (∀key,(aQ bj (aR m 1) key).length<=81/\∀c∈aQ bj (aR m 1) key,c.length<=4096):=fun key=>zt A7.ok X key
 obtain⟨i0,B2,C2,C3,C4⟩:=Vp oo;clear J Y A7 X Z T hG V C1;generalize m.length=N at*;generalize aR m 1=t at*;go_enter func82,ntmps82
 go_wp2_with fail
 refine C7.m ?_;rintro e w1 ⟨sb,d,rfl,A4,U⟩;have D4:=aa A4;have C5:=aa U;have hz:=U.size;clear A4 U;go_wp2_with (at_builtin;refine U0 _ rfl (.tmp 14) (.tmp 15) 40 rfl w.heap.size 9 i0 (sV ⟨#[]⟩) 1 16 underlying40 B2 C2 C3 C4 rfl (by decide) _ 0 [] rfl (U8 _ _ _ _) ⟨w1.heap.size,0,none⟩ 1 1 [sV bf] rfl rfl (Vx _ _ _) ?c2 (by omega) ?c3 ?c4 ?c5 _ rfl ?c6)
 case c2=>intro v H;simp at H;subst H;rfl
 case c3=>decide
 case c4=>omega
 case c5=>simp;omega
 intro g0 E1 w2 B6 B0 A8 B4;have D0:yH (nI w sb d t [bf] (lV (qA g0) 1 E1) w2):=IM (W:=w1.alloc (.cells #[sV bf] 9)) (l:=[]) (v:=lV none 0 0) (D4.o.less fun x A=>A.elim id fun h=>by simp[Value.ownBlock] at h) C5.o (U8 _ _ _ _) ((Un _ _).alloc (Ug _) _) B0 (by simpa using A8) B4 B6;clear B6 B0 A8 B4 hz;go_wp2
 go_loopg [6,7] N (fun g v r wr=>∃(i:Nat) (l:List yB),g=N - i/\i<=N/\r=i6 i/\yH (l.length<=i+1/\∀p∈l,p.size<=maxLen)/\yH (nI w sb d t l v wr))
 case atStart=>exact⟨0,_,rfl,by omega,rfl,⟨Ug _,fun p n=>by rw[Uo.1 n];decide⟩,D0⟩
 case round=>
  obtain⟨i,l,F,hi,rfl,B,s⟩:=hrel;have HG:=aa F;clear F;by_cases E9:i<N
  ·obtain⟨key,g,rfl,B8,B9⟩:=HA.o i E9;have c1:=B8 wr s.o.below;have A3:=D6.o _ sb d wr key s.o.own s.o.below B9;have E4:(i:Int)<(N:Int):=by omega
   obtain⟨F1,A6⟩:=D7.o key;generalize aQ bj t key=C at*;generalize (cK bj t key:Int)=E at*;have D5:=aa A3;have C9:=aa A6;clear B8 B9 A3 A6;go_wp2_with fail
   refine D5.m ?_;rintro e w3 ⟨u,rfl,O,A5,B3⟩;obtain⟨a3,E2,rfl,_⟩:=dM O;have A2:=aa (s.o.kept A5 B3);have S:=aa O;rw[UM] at O S;clear O A5 B3 s c1;rw[UM];generalize wr=WR at*;generalize gk=GK at*;generalize u6=V6 at*;have A1:yH (∀k (_:k<C.length),∃c g,a3=some ⟨g,0,none⟩/\(∀W,yW w3 W->yc W g k (sV (ae c)))/\c.length<=4096):=fun k q=>by
    have n:C[k]? =some C[k]:=Uh q;obtain⟨a4,F0,e4,_,_,f⟩:=dM S.o;cases e4
    rcases f with⟨_,h0,_⟩|⟨g,rfl⟩
    ·omega
    ·exact⟨_,g,rfl,fun W j=>eg j (fc S.o rfl k _ (by rw[UK,UK,n];rfl)),C9.o _ (Vc q)⟩
   generalize hL:C.length=L at*;go_wp2
   go_loopg [10] L (fun g r wr=>∃k:Nat,g=L - k/\k<=L/\r=i6 k/\yH (yW w3 wr))
   case atStart=>exact⟨0,rfl,by omega,rfl,Un _ _⟩
   case round=>
    obtain⟨k,F,q,rfl,y⟩:=hrel;have D2:=aa F;clear F;by_cases E7:k<L
    ·obtain⟨c,g3,rfl,D,I⟩:=A1.o k E7;have d1:=D wr y.o;have o:=aa (A2.o.more y.o);have E0:=aa (D9.o wr c o.o.below I);have E6:(k:Int)<(L:Int):=by omega
     generalize ae c=C' at*;generalize eI G C'=TK at*;clear D I;go_wp2_with fail
     refine E0.m ?_;rintro e w4 ⟨rfl,z⟩;have C6:=aa (y.o.trans (z.mono y.o.size));have R:yH (∀b,Q (rV (bV b)) w4):=fun b=>HQ.o b _ (o.o.below.trans (z.mono o.o.below.size))
     clear z;cases TK with
     |true=>
      go_wp2
      go_ret
      exact⟨R.o _,trivial⟩
     |false=>
      go_wp2
      go_roundg (L - (k+1))
      case measure=>have:=D2.o;omega
      case rel=>exact⟨k+1,rfl,by omega,by go_num,C6⟩
    ·obtain rfl:k=L:=by omega
     have E6:¬(k:Int)<(k:Int):=by omega
     have o:=aa (A2.o.more y.o);have E8:=B.o.1;by_cases E5:0<k
     ·obtain⟨c,g3,rfl,D,I⟩:=A1.o 0 E5;have d1:=D wr y.o;have F2:(0:Int)<(k:Int):=by omega
      have D3:yH ((l++[ae c]).length<=i+1+1/\∀p∈l++[ae c],p.size<=maxLen):=⟨by rw[Uq,Vm];omega,fun p n=>(UA.1 n).elim (B.o.2 p) fun n=>by rw[Uo.1 n,aN];unfold maxLen;omega⟩
      have C0:=o.o.row;have F3:=o.o.below.size;generalize ae c=C' at*;clear D I;go_wp2_with (at_builtin;refine U0 _ rfl (.tmp 49) (.tmp 53) 40 rfl w.heap.size 9 i0 (sV ⟨#[]⟩) 1 16 underlying40 B2 C2 C3 C4 rfl (by decide) _ l.length (l.map Value.string) rfl (C0.alloc _) ⟨wr.heap.size,0,none⟩ 1 1 [sV C'] rfl rfl (Vx _ _ _) ?f2 (by omega) ?f3 ?f4 ?f5 _ rfl ?f6)
      case f2=>first|rfl| (intro v H;simp at H;subst H;rfl)
      case f3=>unfold maxLen;omega
      case f4=>omega
      case f5=>first|omega| (simp;omega)
      intro g5 E3 w5 B7 B1 A9 B5;have D1:yH (nI w sb d t (l++[C']) (lV (qA g5) (l.length+1) E3) w5):=IM (W:=wr.alloc (.cells #[sV C'] 9)) o.o.own o.o.below o.o.row ((Un _ _).alloc (Ug _) _) B1 (by simpa using A9) B5 (by rw[Uq,Vl];exact B7);clear B7 B1 A9 B5 C0;go_wp2
      go_roundg (N - (i+1))
      case measure=>have:=HG.o;omega
      case rel=>exact⟨i+1,_,rfl,by omega,by go_num,D3,D1⟩
     ·obtain rfl:k=0:=by omega
      go_wp2
      go_roundg (N - (i+1))
      case measure=>have:=HG.o;omega
      case rel=>exact⟨i+1,_,rfl,by omega,by go_num,⟨by omega,B.o.2⟩,o⟩
  ·obtain rfl:i=N:=by omega
   have E4:¬(i:Int)<(i:Int):=by omega
   have E8:=B.o.1;have D8:=aa (C8.o wr u6 _ s.o.below (qd s.o.row) (by omega) B.o.2);have A0:=aa s.o.below;go_wp2_with fail
   refine D8.m ?_;rintro e w4 ⟨rfl,z⟩;have R:yH (∀b,Q (rV (bV b)) w4):=fun b=>HQ.o b _ (A0.o.trans (z.mono A0.o.size))
   clear z;go_wp2
   go_ret
   exact⟨R.o _,trivial⟩
end Go.Proofs.YthpclfdpbmehgaaGreatDoor
