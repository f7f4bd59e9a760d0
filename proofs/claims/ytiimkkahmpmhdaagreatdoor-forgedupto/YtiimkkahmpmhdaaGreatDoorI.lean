import Derived.Test.YtiimkkahmpmhdaaGreatDoorH
open Go.Proofs.Tryz
open Go.Proofs.Tryz renaming prog→yP
open Go.Value renaming string→sV,pointer→pV,int→iV,slice→lV,bool→bV,tuple→tV,agg→gV
open Go.Ending renaming returned→rV
namespace Go.Proofs.YtiimkkahmpmhdaaGreatDoor
open Go.RowKit
set_option maxRecDepth 100000
set_option maxHeartbeats 0
set_option linter.all false
def bF:Nd->yL->yL->Nd
 | .nil,p,v=>da p v
 | .unread h,_,_=>.unread h
 | .leaf h q x,p,v=>if q=p then da p v else eM (.leaf h q x) p v (aF q p)
 | .ext h q k,p,v=>if aF q p=q.length then fq q (bF k (p.drop q.length) v) else eM (.ext h q k) p v (aF q p)
 | .branch _ x ks,p,v=>match p with
  | []=>cP ks v
  |c::r=>cP (aD ks c.toNat (bF (ks c.toNat) r v)) x
def dw:Nd->yL->Prop
 | .nil,_=>True
 | .unread _,_=>False
 | .leaf _ _ _,_=>True
 | .ext _ q k,p=>aF q p=q.length->dw k (p.drop q.length)
 | .branch _ _ ks,p=>match p with
  | []=>True
  |c::r=>dw (ks c.toNat) r
theorem wM{k:Nd}{p v}(a:k.fw)(b:dw k p):(bF k p v).fw:=by
 cases k with
 |nil=>exact a.elim
 |unread _=>exact b.elim
 |leaf _ _ _=>exact a.elim
 |ext _ _ _=>exact a.elim
 |branch h x ks=>cases p<;>trivial
theorem s6:∀{t} {p v:yL},aI t->dw t p->ak p->p.length<=80->v.length<=160->aI (bF t p v):=by
 intro t;induction t with
 |nil=>intro p v _ _ b f d;exact oB b f d
 |unread h=>intro p v _ g;exact g.elim
 |leaf h q x=>
  intro p v a _ b f d;simp only[bF];split
  ·exact oB b f d
  ·exact Fz (.inl rfl) b f d a a.2.1 a.2.2.1
 |ext h q k ih=>
  intro p v a g b f d;simp only[bF];split
  ·next e=>exact td a.2.1 a.2.2.1 (wM a.2.2.2.1 (g e)) (ih a.2.2.2.2 (g e) (cS b _) (by rw[Q8];omega) d)
  ·exact Fz (.inr rfl) b f d a a.2.1 a.2.2.1
 |branch h x ks ih=>
  intro p v a g b f d;cases p with
  |nil=>exact oC d a.2.2
  |cons c r=>
   have j:=b c (QY ..);refine oC a.2.1 fun i hi=>?_
   unfold aD;split
   ·exact ih c.toNat (a.2.2 _ j) g (fun y l=>b y (QZ _ l)) (by simp at f;omega) d
   ·exact a.2.2 i hi
def nA(t:Nd):Prop:=∀(w:World) (S:Nat->Prop) (u:Option Addr) (p v:yL),At w t S (pV u)->aI t->dw t p->ak p->p.length<=80->v.length<=160->az w->
 Calls yP 110 #[pV u,sV (str p),sV (str v)] w (Made w S (bF t p v))
theorem Hv:nA .nil:=by
 intro w S u p v i _ _ f a b T;cases i
 have c:Hid (Calls yP 133 #[sV (str p),sV (str v)] w (Made w S (da p v))):=
  (pe w p v ⟨.inl rfl,f,a,b⟩ (nt _ _ _ a b) T).mono fun e w' h=>h.mono fun x j=>j.elim
 show Calls yP 110 _ w (Made w S (da p v));clear f T a b;generalize da p v=R at*;generalize str p=P at*;generalize str v=V at*;go_enter func110,ntmps110
 go_wp2_with fail
 refine c.out.mono ?_;rintro e1 w1 ⟨u1,rfl,d⟩;have g:Hid _:=d;clear d c;go_wp2_with fail
 go_ret
 exact⟨u1,rfl,g.out⟩
theorem Ia(h x:yL)(ks:Nat->Nd)
 (f:∀(w:World) (S:Nat->Prop) (u:Option Addr) (p v:yL),At w (.branch h x ks) S (pV u)->aI (.branch h x ks)->dw (.branch h x ks) p->ak p->p.length<=80->v.length<=160->az w->
  Calls yP 134 #[pV u,sV (str p),sV (str v)] w (Made w S (bF (.branch h x ks) p v))):nA (.branch h x ks):=by
 intro w S u p v c e j i g k T;have a:=aa (f w S u p v c e j i g k T);obtain⟨b,r,o,n,q,B,m⟩:=c;cases n
 have c0:=B.c0;clear i T g k B m f e j;generalize bF (.branch h x ks) p v=R at*;generalize str p=P at*;generalize str v=V at*;go_enter func110,ntmps110
 go_wp2_with fail
 refine a.out.mono ?_;rintro e1 w1 ⟨u1,rfl,d⟩;have l:Hid _:=d;clear d a;go_wp2_with fail
 go_ret
 exact⟨u1,rfl,l.out⟩
structure En where
 p:yL
 stub:Bool
 t:yL
def bB:Nd->yL->List En
 | .nil,_=>[]
 | .unread h,a=>[⟨a,true,h⟩]
 | .leaf _ p v,a=>[⟨a++p,false,v⟩]
 | .ext _ p k,a=>bB k (a++p)
 | .branch _ v ks,a=>(if v=[] then [] else [⟨a,false,v⟩])++(List.range 16).flatMap fun i=>bB (ks i) (a++[UInt8.ofNat i])
theorem qV(p v a):bB (da p v) a=[⟨a++p,false,v⟩]:=rfl
theorem vP(p k a):bB (fq p k) a=bB k (a++p):=rfl
theorem zy(ks:Nat->Nd)(v a):bB (cP ks v) a=bB (.branch [] v ks) a:=rfl
theorem iN(h v)(ks:Nat->Nd)(a)(e:En):e∈bB (.branch h v ks) a↔(v≠[]/\e=⟨a,false,v⟩)\/∃i,i<16/\e∈bB (ks i) (a++[UInt8.ofNat i]):=by
 simp only[bB,Re,List.mem_flatMap,Sg];constructor
 ·rintro (h|h)
  ·left;by_cases b:v=[]
   ·rw[QX b] at h;cases h
   ·rw[QW b] at h;exact⟨b,Q2.1 h⟩
  ·exact .inr h
 ·rintro (⟨b,rfl⟩|h)
  ·left;rw[QW b];exact Q2.2 rfl
  ·exact .inr h
theorem qW(p)(t:Nd)(a)(h:t.some):bB (aQ p t) a=bB t (a++p):=by
 by_cases b:p=[]
 ·subst b;rw[lF,Rz]
 ·cases t with
  |nil=>exact h.elim
  |leaf h q v=>simp only[aQ,QW b,qV];simp[bB]
  |ext h q k=>simp only[aQ,QW b,vP];simp[bB]
  |unread h=>simp only[aQ,QW b,vP]
  |branch h v ks=>simp only[aQ,QW b,vP]
theorem lI:∀(t) (a) (e:En),e∈bB t a->∃q,e.p=a++q:=by
 intro t;induction t with
 |nil=>intro a e h;cases h
 |unread h=>intro a e h;obtain rfl:=Q2.1 h;exact⟨[],(Rz _).symm⟩
 |leaf h p v=>intro a e h;obtain rfl:=Q2.1 h;exact⟨p,rfl⟩
 |ext h p k ih=>intro a e h;obtain⟨q,b⟩:=ih _ e h;exact⟨p++q,by rw[b,Rn]⟩
 |branch h v ks ih=>
  intro a e h;rcases(iN _ _ _ _ _).1 h with⟨_,rfl⟩|⟨i,_,h⟩
  ·exact⟨[],(Rz _).symm⟩
  ·obtain⟨q,b⟩:=ih i _ e h;exact⟨UInt8.ofNat i::q,by rw[b,Rn];rfl⟩
theorem xv:∀(q p:yL),q.take (aF q p)=p.take (aF q p)
 | [],[]=>rfl
 | [],_::_=>rfl
 | _::_,[]=>rfl
 |x::q,y::p=>by
  simp only[aF]
  by_cases e:x=y
  ·rw[QX e];simp[e,xv q p]
  ·rw[QW e];rfl
theorem xx:∀(q p),aF q p<q.length->aF q p<p.length->q.getD (aF q p) 0≠p.getD (aF q p) 0
 | [],_,h,_=>by simp at h
 | _::_,[],_,h=>by simp at h
 |x::q,y::p,h1,h2=>by
  simp only[aF] at h1 h2⊢
  by_cases e:x=y
  ·rw[QX e] at h1 h2⊢
   simp only[List.getD_cons_succ]
   exact xx q p (by simp at h1;omega) (by simp at h2;omega)
  ·rw[QW e];simpa using e
theorem xy:∀(a b),aF a b=a.length->aF a b=b.length->a=b
 | [],[],_,_=>rfl
 | [],y::b,_,h=>by simp[aF] at h
 |x::a,[],h,_=>by simp[aF] at h
 |x::a,y::b,h1,h2=>by
  simp only[aF] at h1 h2
  by_cases e:x=y
  ·rw[QX e] at h1 h2
   rw[e,xy a b (by simp at h1;omega) (by simp at h2;omega)]
  ·rw[QW e] at h1;simp at h1
theorem FW(q:yL)(s:Nat)(h:s<q.length):q=q.take s++[q.getD s 0]++q.drop (s+1):=by
 rw[Q3,QV h];simp
theorem kB(c:UInt8):UInt8.ofNat c.toNat=c:=by simp
theorem DB(n:Nd)(s:Nat)(c:ak n.path)(b:yL)(e:En):
 (∃i,i<16/\e∈bB (dG n s i) (b++[UInt8.ofNat i]))↔(s<n.path.length/\e∈bB (fU n (n.path.drop (s+1))) (b++[n.path.getD s 0])):=by
 unfold dG;by_cases h:s<n.path.length
 ·rw[QX h];constructor
  ·rintro ⟨i,_,a⟩;unfold aD at a;by_cases e1:i=(n.path.getD s 0).toNat
   ·rw[QX e1,e1,kB] at a;exact⟨h,a⟩
   ·rw[QW e1] at a;cases a
  ·rintro ⟨_,a⟩;refine⟨(n.path.getD s 0).toNat,jU c s,?_⟩;rw[df,kB];exact a
 ·rw[QW h];constructor
  ·rintro ⟨i,_,a⟩;cases a
  ·rintro ⟨h1,_⟩;exact absurd h1 h
theorem MJ(n:Nd)(p v:yL)(s:Nat)(c:ak n.path)(f:ak p)(d:s<n.path.length->s<p.length->n.path.getD s 0≠p.getD s 0)(b:yL)(e:En):
 (∃i,i<16/\e∈bB (cM n p v s i) (b++[UInt8.ofNat i]))↔(s<p.length/\e=⟨b++[p.getD s 0]++p.drop (s+1),false,v⟩)\/(s<n.path.length/\e∈bB (fU n (n.path.drop (s+1))) (b++[n.path.getD s 0])):=by
 rw[<-DB n s c b e];unfold cM;by_cases h:s<p.length
 ·rw[QX h];constructor
  ·rintro ⟨i,hi,a⟩;unfold aD at a;by_cases e1:i=(p.getD s 0).toNat
   ·rw[QX e1,e1,kB,qV] at a;exact .inl ⟨h,Q2.1 a⟩
   ·rw[QW e1] at a;exact .inr ⟨i,hi,a⟩
  ·rintro (⟨_,rfl⟩|⟨i,hi,a⟩)
   ·refine⟨(p.getD s 0).toNat,jU f s,?_⟩;rw[df,kB,qV];exact Q2.2 rfl
   ·refine⟨i,hi,?_⟩;by_cases e1:i=(p.getD s 0).toNat
    ·exfalso;obtain⟨h1,_⟩:=(DB n s c b e).1 ⟨i,hi,a⟩;unfold dG at a;rw[QX h1] at a;unfold aD at a;by_cases e2:i=(n.path.getD s 0).toNat
     ·exact d h1 h (UInt8.toNat_inj.1 (by omega))
     ·rw[QW e2] at a;cases a
    ·rw[dJ _ _ _ _ e1];exact a
 ·rw[QW h];constructor
  ·exact fun h1=>.inr h1
  ·rintro (⟨h1,_⟩|h1)
   ·exact absurd h1 h
   ·exact h1
theorem OM(n:Nd)(s:Nat)(a)(b:n.kind=1\/n.kind=2)(c:aI n)(h:s<n.path.length):bB (fU n (n.path.drop (s+1))) (a++n.path.take s++[n.path.getD s 0])=bB n a:=by
 have d:=FW n.path s h;have e:a++n.path.take s++[n.path.getD s 0]++n.path.drop (s+1)=a++n.path:=by
  conv=>rhs;rw[d]
  simp only[Rn]
 cases n with
 |nil=>rcases b with h|h<;>cases h
 |unread _=>rcases b with h|h<;>cases h
 |branch _ _ _=>rcases b with h|h<;>cases h
 |leaf h0 q x=>show bB (da _ x) _=_;rw[qV,e];rfl
 |ext h0 q k=>show bB (aQ _ k) _=_;rw[qW _ _ _ (nk c.2.2.2.1),e];rfl
theorem DC(n:Nd)(p v)(i:n.kind=1\/n.kind=2)(m:aI n)(z:ak n.path)(u:ak p)(A:v≠[])(B:n.kind=1->n.value≠[])(g:n.kind=2->aF n.path p≠n.path.length)(t:n.path≠p)(a:yL)(e:En):
 e∈bB (eM n p v (aF n.path p)) a↔e=⟨a++p,false,v⟩\/e∈bB n a:=by
 obtain⟨s,c⟩:=yX (aF n.path p)
 have j:=g9 n.path p;have f:=xv n.path p;have r:s<n.path.length->s<p.length->n.path.getD s 0≠p.getD s 0:=fun h1 h2=>by rw[c] at h1 h2⊢;exact xx _ _ h1 h2
 have C:¬(s=n.path.length/\s=p.length):=fun h=>t (xy n.path p (by rw[<-c];exact h.1) (by rw[<-c];exact h.2))
 rw[<-c] at j f g⊢;unfold eM;rw[qW _ (cP (cM n p v s) (dy n p v s)) _ trivial,zy,iN,MJ n p v s z u r];have l:s<n.path.length->bB (fU n (n.path.drop (s+1))) (a++p.take s++[n.path.getD s 0])=bB n a:=fun h=>by rw[<-f];exact OM n s a i m h
 have w:s<p.length->a++p.take s++[p.getD s 0]++p.drop (s+1)=a++p:=fun h=>by
  conv=>rhs;rw[FW p s h]
  simp only[Rn]
 by_cases h2:s<p.length
 ·have d:dy n p v s=if s<n.path.length then [] else n.value:=by unfold dy;rw[QX h2]
  rw[d,w h2];by_cases h1:s<n.path.length
  ·rw[QX h1,l h1];constructor
   ·rintro (⟨h,_⟩|⟨_,h⟩|⟨_,h⟩)
    ·exact absurd rfl h
    ·exact .inl h
    ·exact .inr h
   ·rintro (h|h)
    ·exact .inr (.inl ⟨h2,h⟩)
    ·exact .inr (.inr ⟨h1,h⟩)
  ·rw[QW h1];have k:s=n.path.length:=by omega
   have b:n.kind=1:=i.resolve_right fun h=>g h k
   have o:bB n a=[⟨a++p.take s,false,n.value⟩]:=by
    cases n with
    |leaf h0 q x=>show [(⟨a++q,false,x⟩:En)]=_;rw[<-f,show(Nd.leaf h0 q x).path=q from rfl,RI (by rw[k];exact QU _)];rfl
    |nil=>cases b
    |unread _=>cases b
    |ext _ _ _=>cases b
    |branch _ _ _=>cases b
   rw[o];constructor
   ·rintro (⟨_,h⟩|⟨_,h⟩|⟨h,_⟩)
    ·exact .inr (Q2.2 h)
    ·exact .inl h
    ·exact absurd h h1
   ·rintro (h|h)
    ·exact .inr (.inl ⟨h2,h⟩)
    ·exact .inl ⟨B b,Q2.1 h⟩
 ·have D:s=p.length:=by omega
  have h1:s<n.path.length:=by have:=j.1;omega
  have d:dy n p v s=v:=by unfold dy;rw[QW h2]
  rw[d,l h1];have y:p.take s=p:=RI (by omega);rw[y];constructor
  ·rintro (⟨_,h⟩|⟨h,_⟩|⟨_,h⟩)
   ·exact .inl h
   ·exact absurd h h2
   ·exact .inr h
  ·rintro (h|h)
   ·exact .inl ⟨A,h⟩
   ·exact .inr (.inr ⟨h1,h⟩)
def lP:Nd->Prop
 | .nil=>True
 | .unread _=>True
 | .leaf _ _ v=>v≠[]
 | .ext _ p k=>p≠[]/\k.fw/\lP k
 | .branch _ _ ks=>∀i,i<16->lP (ks i)
theorem rU:∀(q r),aF q (q++r)=q.length
 | [],r=>by cases r<;>rfl
 |x::q,r=>by simp only[List.cons_append,aF,RJ,Ro,rU q r]
theorem xw(q p)(h:aF q p=q.length):q++p.drop q.length=p:=by
 have:=xv q p;rw[h,SG] at this;conv=>lhs;lhs;rw[this]
 exact Su _ _
theorem MH:∀(t) (p v a:yL) (e:En),aI t->lP t->dw t p->ak p->v≠[]->
 (e∈bB (bF t p v) a↔e=⟨a++p,false,v⟩\/(e∈bB t a/\(e.stub=true\/e.p≠a++p))):=by
 intro t;induction t with
 |nil=>
  intro p v a e _ _ _ _ _;show e∈bB (da p v) a↔_;rw[qV,Q2];constructor
  ·exact .inl
  ·rintro (h|⟨h,_⟩)
   ·exact h
   ·cases h
 |unread h=>intro p v a e _ _ m;exact m.elim
 |leaf h q x=>
  intro p v a e b l _ d g;simp only[bF];by_cases j:q=p
  ·subst j;rw[QX rfl,qV,Q2];constructor
   ·exact .inl
   ·rintro (h1|⟨h1,h2⟩)
    ·exact h1
    ·obtain rfl:=Q2.1 h1;exact(h2.elim (fun h=>by cases h) (fun h=>absurd rfl h))
  ·rw[QW j];refine(DC (.leaf h q x) p v (.inl rfl) b b.2.1 d g (fun _=>l) (fun h=>by cases h) j a e).trans ?_;constructor
   ·rintro (h1|h1)
    ·exact .inl h1
    ·refine .inr ⟨h1,.inr ?_⟩;obtain rfl:=Q2.1 h1;exact fun h2=>j (RZ h2)
   ·rintro (h1|⟨h1,_⟩)
    ·exact .inl h1
    ·exact .inr h1
 |ext h q k ih=>
  intro p v a e b l m d g;simp only[bF];by_cases f:aF q p=q.length
  ·have A:=xw q p f;rw[QX f,vP,ih (p.drop q.length) v (a++q) e b.2.2.2.2 l.2.2 (m f) (cS d _) g];have e1:a++q++p.drop q.length=a++p:=by rw[Rn,A]
   rw[e1];exact Iff.rfl
  ·have j:q≠p:=fun e1=>f (by have:=rU q [];rw[Rz] at this;rw[<-e1];exact this)
   rw[QW f];refine(DC (.ext h q k) p v (.inr rfl) b b.2.1 d g (fun h=>by cases h) (fun _=>f) j a e).trans ?_;constructor
   ·rintro (h1|h1)
    ·exact .inl h1
    ·refine .inr ⟨h1,.inr fun h2=>?_⟩;obtain⟨r,n⟩:=lI k (a++q) e h1;rw[n,Rn] at h2;have:=RZ h2;exact f (by rw[<-this];exact rU q r)
   ·rintro (h1|⟨h1,_⟩)
    ·exact .inl h1
    ·exact .inr h1
 |branch h x ks ih=>
  intro p v a e b l m d g;cases p with
  |nil=>
   show e∈bB (cP ks v) a↔_;rw[zy,iN,Rz];constructor
   ·rintro (⟨_,h1⟩|⟨i,hi,h1⟩)
    ·exact .inl h1
    ·refine .inr ⟨(iN h x ks a e).2 (.inr ⟨i,hi,h1⟩),.inr fun h2=>?_⟩;obtain⟨r,n⟩:=lI _ _ e h1;rw[n] at h2;have:=congrArg List.length h2;simp at this
   ·rintro (h1|⟨h1,h2⟩)
    ·exact .inl ⟨g,h1⟩
    ·rcases(iN h x ks a e).1 h1 with⟨_,rfl⟩|h3
     ·exact(h2.elim (fun h=>by cases h) (fun h=>absurd rfl h))
     ·exact .inr h3
  |cons c r=>
   have s:=d c (QY ..);have n:ak r:=fun y D=>d y (QZ _ D)
   have hi:=fun w z=>ih c.toNat r v w z (b.2.2 _ s) (l _ s) m n g
   have u:a++[c]++r=a++c::r:=by simp
   show e∈bB (cP (aD ks c.toNat (bF (ks c.toNat) r v)) x) a↔_;rw[zy,iN];constructor
   ·rintro (⟨C,rfl⟩|⟨i,o,h1⟩)
    ·refine .inr ⟨(iN h x ks a _).2 (.inl ⟨C,rfl⟩),.inr fun h2=>?_⟩;have:=congrArg List.length h2;simp at this
    ·by_cases e1:i=c.toNat
     ·subst e1;rw[df,kB,hi] at h1;rw[u] at h1;rcases h1 with h1|⟨h1,h2⟩
      ·exact .inl h1
      ·exact .inr ⟨(iN h x ks a e).2 (.inr ⟨_,o,by rw[kB];exact h1⟩),h2⟩
     ·rw[dJ _ _ _ _ e1] at h1;refine .inr ⟨(iN h x ks a e).2 (.inr ⟨i,o,h1⟩),.inr fun h2=>?_⟩;obtain⟨q,B⟩:=lI _ _ e h1;rw[B,Rn] at h2;have h3:=RZ h2;have h4:UInt8.ofNat i=c:=by simpa using(List.cons.inj h3).1
      exact e1 (by rw[<-h4,RH];omega)
   ·rintro (h1|⟨h1,h2⟩)
    ·refine .inr ⟨c.toNat,s,?_⟩;rw[df,kB,hi];exact .inl (by rw[u];exact h1)
    ·rcases(iN h x ks a e).1 h1 with h3|⟨i,o,h3⟩
     ·exact .inl h3
     ·refine .inr ⟨i,o,?_⟩;by_cases e1:i=c.toNat
      ·subst e1;rw[df,kB,hi];rw[kB] at h3;exact .inr ⟨h3,by rw[u];exact h2⟩
      ·rw[dJ _ _ _ _ e1];exact h3
theorem bL.all{w b t c a}(h:bL w b t c a):w.cell? ⟨b,5,none⟩=some (a 0)/\w.cell? ⟨b,6,none⟩=some (a 1)/\w.cell? ⟨b,7,none⟩=some (a 2)/\w.cell? ⟨b,8,none⟩=some (a 3)/\w.cell? ⟨b,9,none⟩=some (a 4)/\w.cell? ⟨b,10,none⟩=some (a 5)/\w.cell? ⟨b,11,none⟩=some (a 6)/\w.cell? ⟨b,12,none⟩=some (a 7)/\w.cell? ⟨b,13,none⟩=some (a 8)/\w.cell? ⟨b,14,none⟩=some (a 9)/\w.cell? ⟨b,15,none⟩=some (a 10)/\w.cell? ⟨b,16,none⟩=some (a 11)/\w.cell? ⟨b,17,none⟩=some (a 12)/\w.cell? ⟨b,18,none⟩=some (a 13)/\w.cell? ⟨b,19,none⟩=some (a 14)/\w.cell? ⟨b,20,none⟩=some (a 15):=⟨h.ck 0 (by omega),h.ck 1 (by omega),h.ck 2 (by omega),h.ck 3 (by omega),h.ck 4 (by omega),h.ck 5 (by omega),h.ck 6 (by omega),h.ck 7 (by omega),h.ck 8 (by omega),h.ck 9 (by omega),h.ck 10 (by omega),h.ck 11 (by omega),h.ck 12 (by omega),h.ck 13 (by omega),h.ck 14 (by omega),h.ck 15 (by omega)⟩
theorem Dn(k:Int)(h p v b a c)(e:∀i,i<16->a i=c i):eX k h p v b a=eX k h p v b c:=by
 unfold eX;congr 2;exact Sq fun i hi=>e i (Sg.1 hi)
theorem At.kids{w h v ks S p}(g:At w (.branch h v ks) S (pV p)):
 ∃(b:Nat) (u:Nat->Option Addr) (d:Nat->Nat->Prop),p=some ⟨b,0,Option.none⟩/\S b/\bL w b (.branch h v ks) cL (fun i=>pV (u i))/\Kids w ks (fun x=>S x/\x≠b) u d:=by
 obtain⟨b,c,d,k,j,B,h1,h2,h3⟩:=g;cases k
 have f:∀i,i<16->c i=pV ((fun i=>match c i with| pV a=>a| _=>Option.none) i):=fun i hi=>by
  obtain⟨u,e⟩:=(h3 i hi).ptr;show c i=pV (match c i with| pV a=>a| _=>Option.none);rw[e]
 refine⟨b,_,d,rfl,j,?_,⟨fun i hi=>by rw[<-f i hi];exact h3 i hi,fun i x hi l=>h1 i x hi l,h2⟩⟩;unfold bL at B⊢;rw[B];congr 2;exact Dn _ _ _ _ _ _ _ f
theorem PM(h x)(ks:Nat->Nd)(w S u)(v:yL)(f:At w (.branch h x ks) S (pV u))(c:aI (.branch h x ks))(d:v.length<=160)(T:az w):
 Calls yP 134 #[pV u,sV ⟨#[]⟩,sV (str v)] w (Made w S (cP ks v)):=by
 obtain⟨b,U,l,m,o,B,j⟩:=f.kids;cases m
 have a:Hid (Calls yP 138 #[fP U,sV (str v)] w (Made w S (cP ks v))):=
  (qE w v ks _ U l j ⟨.inl rfl,d,fun i hi=>(c.2.2 i hi).jS⟩ (oG _ _ _ d c.2.2) T).mono fun e w' h=>h.mono fun x n=>n.1
 obtain⟨k0,k1,k2,k3,k4,k5,k6,k7,k8,k9,k10,k11,k12,k13,k14,k15⟩:=B.all;clear B j c d T f;generalize cP ks v=R at*;generalize str v=V at*;unfold fP at a;go_enter func134,ntmps134
 go_wp2_with fail
 refine a.out.mono ?_;rintro e1 w1 ⟨u1,rfl,g⟩;have k:Hid _:=g;clear g a;go_wp2_with fail
 go_ret
 exact⟨u1,rfl,k.out⟩
theorem PJ(h x)(ks:Nat->Nd)(c:UInt8)(r)(ih:nA (ks c.toNat))(w S u)(v:yL)(Z:At w (.branch h x ks) S (pV u))(o:aI (.branch h x ks))(N:dw (ks c.toNat) r)(L:ak (c::r))(F:(c::r).length<=80)(O:v.length<=160)(T:az w):
 Calls yP 134 #[pV u,sV (str (c::r)),sV (str v)] w (Made w S (cP (aD ks c.toNat (bF (ks c.toNat) r v)) x)):=by
 obtain⟨b,U,D,hu,hs,B,hK⟩:=Z.kids;cases hu
 have j:=L c (QY ..);have M:ak r:=fun y k=>L y (QZ _ k)
 have B4:r.length<=79:=by simp at F;omega
 have J:=hK.cut;have c3:=B.c3;have A5:=B.lt;have G:Hid (∀W,yW w W->Calls yP 110 #[pV (U c.toNat),sV (str r),sV (str v)] W (Made W (fun x=>D c.toNat x/\x<w.heap.size) (bF (ks c.toNat) r v))):=fun W g=>
  ih W _ _ r v ((J.at_ c.toNat j).below g) (o.2.2 _ j) N M (by omega) O (T.below g)
 have I:∀i,i<16->aI (aD ks c.toNat (bF (ks c.toNat) r v) i):=fun i hi=>by
  unfold aD;split
  ·exact s6 (o.2.2 _ j) N M (by omega) O
  ·exact o.2.2 i hi
 have Q:Hid (∀W d m,Kids W (aD ks c.toNat (bF (ks c.toNat) r v)) (fun x=>S x\/w.heap.size<=x) d m->yW w W->Calls yP 138 #[fP d,sV (str x)] W (Made w S (cP (aD ks c.toNat (bF (ks c.toNat) r v)) x))):=fun W d m E g=>
  (qE W x _ _ d m E ⟨.inl rfl,o.2.1,fun i hi=>(I i hi).jS⟩ (oG _ _ _ o.2.1 I) (T.below g)).mono fun e w' h=>by
   obtain⟨u1,e1,e2,e3⟩:=h;exact⟨u1,e1,e2.mono fun x f=>f.elim id (fun h=>.inr (Q7 g.size h)),g.trans (e3.mono g.size)⟩
 obtain⟨k0,k1,k2,k3,k4,k5,k6,k7,k8,k9,k10,k11,k12,k13,k14,k15⟩:=B.all;have A4:w.cell? ⟨b,5+c.toNat,none⟩=some (pV (U c.toNat)):=B.ck _ j;obtain⟨l,q⟩:∃R,R=str (c::r):=⟨_,rfl⟩
 have A7:l.size=r.length+1:=by rw[q,aH];rfl
 have hp:0<l.size:=by omega
 have h0:l[0]'hp=c:=by subst q;rfl
 have f:l.extract 1 l.size=str r:=by
  subst q;apply Go.WideShapes.bytes_inj;rw[Lib.extract_data,dV,dV];exact RI (by rw[A7];simp)
 have he:l.toList.isEmpty=false:=by rw[q,jP];simp
 have B6:(0:Int)<(l.size:Int):=by omega
 have B7:=hp;have ha:=rh c j;have B5:(c.toNat:Int)<16:=by omega
 rw[<-f] at G;rw[<-q];have n:=aa J;clear B hK o O T Z q A7 f L F B4 N ih M I J;generalize cP (aD ks c.toNat (bF (ks c.toNat) r v)) x=R at*;generalize str v=V at*;obtain⟨a,A⟩:=yX (w.alloc (.cells #[pV (U 0),pV (U 1),pV (U 2),pV (U 3),pV (U 4),pV (U 5),pV (U 6),pV (U 7),pV (U 8),pV (U 9),pV (U 10),pV (U 11),pV (U 12),pV (U 13),pV (U 14),pV (U 15)] 165))
 have A3:dF a w.heap.size U:=by rw[A];exact dF.made w U
 have A8:a.heap.size=w.heap.size+1:=by rw[A];simp
 have K:yW w a:=by rw[A];exact(Q1 _ _).alloc (QU _) _
 have t:=aa A8;have C:=aa A3;have s:=aa K;have Y:=aa A;have B2:=(K.cell (p:=⟨b,5+c.toNat,none⟩) A5).trans A4;clear A3 A8 K A;go_enter func134,ntmps134
 go_upto_region 5 with fail
 rw[<-Y.out];clear k0 k1 k2 k3 k4 k5 k6 k7 k8 k9 k10 k11 k12 k13 k14 k15 A4;go_cut [] (fun P=>∃d m,dF P w.heap.size d/\Kids P (aD ks c.toNat (bF (ks c.toNat) r v)) (fun x=>(S x\/w.heap.size<=x)/\x≠w.heap.size) d m/\yW w P)
 case first=>
  go_region_with (go_at_call 110;refine(G.out _ (by first|exact s.out|exact s.out.drew)).mono ?_;rintro e1 w1 ⟨x2,rfl,A1,z⟩;have ca:w1.cell? ⟨w.heap.size,c.toNat,none⟩=some (pV (U c.toNat)):=(z.cell (p:=⟨w.heap.size,c.toNat,none⟩) (show w.heap.size<a.heap.size by rw[t.out];omega)).trans (C.out.cell _ j);have fa:w1.frozen? ⟨w.heap.size,c.toNat,none⟩=false:=(z.frozen (p:=⟨w.heap.size,c.toNat,none⟩) (show w.heap.size<a.heap.size by rw[t.out];omega)).trans (C.out.free _);have B0:Hid (At w1 (bF (ks c.toNat) r v) (fun x=>(D c.toNat x/\x<w.heap.size)\/a.heap.size<=x) (pV x2)/\dF w1 w.heap.size U/\yW w w1):=⟨A1,C.out.kept (z.block _ (show w.heap.size<a.heap.size by rw[t.out];omega)),s.out.drew.trans (z.mono s.out.size)⟩;clear A1 z)
  all_goals
   go_wp2_with fail
   go_meet
   obtain⟨g1,g2,g4⟩:=B0.out;have hz:=t.out;have B3:Kids w1 ks (fun x=>(S x\/w.heap.size<=x)/\x≠w.heap.size) U (fun i x=>D i x/\x<w.heap.size):=⟨fun i hi=>(n.out.at_ i hi).kept fun x f F=>g4.block x F,fun i x hi f=>⟨.inl (n.out.sub i x hi f).1,by omega⟩,n.out.iH⟩
   refine⟨fM U c.toNat x2,_,g2.set c.toNat x2 j,B3.put (fun x f _=>Rc _ _ _ _ f.2) c.toNat _ x2 _ (g1.kept fun x f _=>Rc _ _ _ _ (show x≠w.heap.size by omega)) (fun y k=>?_),g4.setCell (QU _) _⟩;rcases k with k|k
   ·exact⟨⟨.inl (n.out.sub _ y j k).1,by omega⟩,fun i hi A6 h=>A6 (n.out.iH i c.toNat y hi j h k)⟩
   ·exact⟨⟨.inr (by omega),by omega⟩,fun i hi A6 h=>by have:=h.2;omega⟩
 case rest=>
  obtain⟨d,m,A2,E,H⟩:=hcut;obtain⟨k0,k1,k2,k3,k4,k5,k6,k7,k8,k9,k10,k11,k12,k13,k14,k15⟩:=A2.all;have d3:=(H.cell (p:=⟨b,3,none⟩) A5).trans c3;have X:Hid (∀W,(∀x,W.heap[x]? =wc.heap[x]?)->yW w W->Calls yP 138 #[fP d,sV (str x)] W (Made w S R)):=fun W hk g=>
   Q.out W d m ((E.kept fun y _ _=>hk y).mono fun y k=>k.1) g
  have A9:=aa H;unfold fP at X;clear A2 E H Q G n C s Y t B2 c3;go_wp2_with fail
  go_region_with (go_at_call 138;refine(X.out wc.drew (fun _=>rfl) A9.out.drew).mono ?_;rintro e1 w1 ⟨u1,rfl,A0⟩;have B1:Hid _:=A0;clear A0)
  all_goals
   go_wp2_with fail
   go_ret
   exact⟨u1,rfl,B1.out⟩
theorem PN(h x)(ks:Nat->Nd)(j:∀i,i<16->nA (ks i))(w S u)(p v:yL)(a:At w (.branch h x ks) S (pV u))(b:aI (.branch h x ks))(g:dw (.branch h x ks) p)(d:ak p)(f:p.length<=80)(e:v.length<=160)(T:az w):
 Calls yP 134 #[pV u,sV (str p),sV (str v)] w (Made w S (bF (.branch h x ks) p v)):=by
 cases p with
 |nil=>exact PM h x ks w S u v a b e T
 |cons c r=>exact PJ h x ks c r (j _ (d c (QY ..))) w S u v a b g d f e T
end Go.Proofs.YtiimkkahmpmhdaaGreatDoor
