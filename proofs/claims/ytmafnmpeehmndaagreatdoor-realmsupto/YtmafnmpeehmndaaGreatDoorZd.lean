import Derived.Test.YtmafnmpeehmndaaGreatDoorZc
open Go.Proofs.Tryz
open Go.Proofs.Tryz renaming prog→yP
open Go.Value renaming string→sV,pointer→pV,int→iV,slice→lV,bool→bV,tuple→tV,agg→gV
open Go.Ending renaming returned→rV
namespace Go.Proofs.YtmafnmpeehmndaaGreatDoor
open Go.RowKit
set_option maxRecDepth 100000
set_option maxHeartbeats 0
set_option linter.all false
def qN.bt{l l' w b sb c t S}(h:qN l w b sb c t S)(d:∀k,k<w.heap.size->Of b (l k)->l' k=l k):qN l' w b sb c t S:=
 ⟨h.tr,h.loose,(d c h.tr.lt ⟨_,h.lt⟩).trans h.lt,fun x a=>(d x (h.tr.own x a).2.2 ⟨_,h.lS x a⟩).trans (h.lS x a)⟩
def jX.bt{l l' w e sb m D n i j f}(h:jX l w e sb m D n i j f)(d:∀k,k<w.heap.size->Of e (l k)->l' k=l k):jX l' w e sb m D n i j f:=
 {ai:=h.ai
  jA:=(d _ h.ai.lt ⟨_,h.jA⟩).trans h.jA
  jB:=fun c g a b=>(d g ((h.ai.own c a).lt g b).2 ⟨_,h.jB c g a b⟩).trans (h.jB c g a b)
  ie:=h.ie
  gI:=h.gI
  dJ:=h.dJ
  lO:=h.lO
  gy:=fun p o=>(h.gy p o).bt d}
def SX.bt{l l' w a sb d D N e c k P}(h:SX l w a sb d D N e c k P)(j:∀k,k<w.heap.size->Of a (l k)->l' k=l k)(h0:∀k,k<w.heap.size->l k=0->l' k=0)(hs:∀k,k<w.heap.size->l k=pr sb 0->l' k=pr sb 0):SX l' w a sb d D N e c k P:=by
 let⟨p,n,o,f,X,g,m⟩:=h.st;exact⟨⟨p,n,o,f,X,g.bt j,m⟩,h.jw,fun x b=>hs x (h.jw.st.eM x b) (h.ls x b),h.bz,fun k i=>h0 k (by have:=h.bz.size;omega) (h.l3 k i),h.ne⟩
def oH.bt{l l' w v hs}(h:oH l v hs)(H:gw w v hs)(h0:∀k,k<w.heap.size->l k=0->l' k=0):oH l' v hs:=
 ⟨fun g a=>h0 g (H.1.lt g a).2 (h.1 g a),fun x b g a=>h0 g ((H.2 x b).at_.lt g a).2 (h.2 x b g a)⟩
def iy.bt{l l' w R}(h:iy l w R)(h0:∀k,k<w.heap.size->l k=0->l' k=0)(h1:∀k,k<w.heap.size->l k=pr R.rb 0->l' k=pr R.rb 0)(h2:∀k,k<w.heap.size->l k=pr R.tt 0->l' k=pr R.tt 0):iy l' w R:=
 ⟨h.ai,h1 _ h.jm h.lb,h.pm,h.lm.bt h.pm h0,h.pb,h.lv.bt h.pb h0,h.sn,fun g a=>h1 g (h.sn.lt g a).2 (h.ls g a),h.sm,h.tn,h2 _ h.qj h.lt,h.nm,h.nb,h.ns⟩
def dh.JG{l w w' R us ps P K ts bx}(h:dh l w R us ps)(hS:SC (R.arg l w us ps) P K ts bx w'):∃l' D',Mv (Of R.sp) l l' w w'/\pK l' w' {R with D:=D',N:=R.N+K} us ps P/\∀b∈bx,l' b.1=0:=by
 let⟨n1,n2,_⟩:=h.ne;let⟨l',D',m,_,_,hx,h3⟩:=hS;have hy:=h.y.move m (mr _) (lN n1) (lN n2);let⟨L,hL⟩:=yX (nD (R.arg l w us ps))
 have A3:L=pr (R.sp+R.sb+1) 7:=hL;have A1:∀a b,b≠7->pr a b≠L:=fun a b hb e=>by rw[A3] at e;exact hb (fS e).2
 have A5:∀b,pr R.sp b≠L:=fun b e=>by rw[A3] at e;have:=(fS e).1;omega
 have A4:(0:Nat)≠L:=fun e=>by have:=iu (R.sp+R.sb+1) 7;omega
 let⟨l2,A2⟩:=yX (fun k=>if w.heap.size<=k/\l' k=L then 0 else l' k)
 have A0:∀k x,x≠L->l' k=x->l2 k=x:=fun k x hx e=>by rw[A2];simp only;rw[Ui (fun hh=>hx (e.symm.trans hh.2))];exact e
 have A6:∀k,k<w.heap.size->l2 k=l' k:=fun k hk=>by rw[A2];simp only;rw[Ui (fun hh=>by omega)]
 refine⟨l2,D',⟨m.os,m.tape,m.output,m.size,fun k hk=>(A6 k hk).trans (m.bt k hk),m.ai⟩,⟨?_,hx.bt (fun k _ ⟨b,e⟩=>(A0 k _ (A5 b) e).trans e.symm) (fun k _ e=>A0 k 0 A4 e) (fun k _ e=>A0 k _ (A1 _ 0 (by decide)) e)⟩,fun b hb=>?_⟩
 ·have:=hy.bt (l':=l2) (fun k _ e=>A0 k 0 A4 e) (fun k _ e=>A0 k _ (A1 _ 0 (by decide)) e) (fun k _ e=>A0 k _ (A1 _ 0 (by decide)) e);exact⟨this.ai,this.lb,this.pm,this.lm,this.pb,this.lv,this.sn,this.ls,this.sm,this.tn,this.lt,this.nm,this.nb,this.ns⟩
 ·let⟨_,b2,b3⟩:=h3 b hb;rw[A2];simp only;rw[Uj ⟨b3,by rw[b2,hL]⟩]
def pK.cQ{l w w1 R s r P}(h:pK l w R s r P)(o:yW w w1){d}{i:List aH}(q:w1.ownsRow w.heap.size 107 5 d i.length (g9 i))(f:∀x∈i,jK w x/\∀g,x.sv.ownBlock=some g->l g=0)(p:i.length<1000000000):
 ∃l',Mv (fun x=>x=pr R.rb 0) l l' w (w1.setCell ⟨R.rb,2,none⟩ d)/\pK l' (w1.setCell ⟨R.rb,2,none⟩ d) {R with mv:=d,m:=i} s r P:=by
 let⟨n1,n2,n3,n4,n5⟩:=h.ne;have h3:=h.x.bz.size;have a:pK (gv l w.heap.size) w1 R s r P:=⟨h.y.move (Mv.below (fun _=>False) l o) id id id,h.x.below o⟩
 have C:=h.y.jm;have e1:∀k,k≠R.rb->(w1.setCell ⟨R.rb,2,none⟩ d).heap[k]? =w1.heap[k]? :=fun k f=>UL _ _ _ k f
 have e2:(w1.setCell ⟨R.rb,2,none⟩ d).heap[R.rb]? =some (.cells #[pV (qA R.sb),pV (qA R.sp),d,R.bv,R.sv,pV (qA R.tt)] 65 (0,0)):=by
  rw[U7 w1 R.rb 2 _ _ (0,0) _ a.y.ai,Vk w1 R.rb _ _ _ _ a.y.ai];rfl
 have A:(w1.setCell ⟨R.rb,2,none⟩ d).heap.size=w1.heap.size:=by simp
 have m1:Mv (fun x=>x=pr R.rb 0) (gv l w.heap.size) (gv l w.heap.size) w1 (w1.setCell ⟨R.rb,2,none⟩ d):=⟨rfl,rfl,rfl,by rw[A];exact Ug _,fun _ _=>rfl,fun k f p=>e1 k fun e=>p (by rw[e];exact a.y.lb)⟩
 have p0:=iu R.rb 0;refine⟨gv l w.heap.size,((Mv.below (fun _=>False) l o).mono fun _ j=>j.elim).trans m1,⟨?_,a.x.move m1 (fun e=>by omega) (fun e=>n4 (fS e).1.symm) fun b e=>n1 (fS e).1⟩⟩;have t:=a.y.pb.mv a.y.lv m1 (fun e=>by omega);exact
  {ai:=e2
   lb:=a.y.lb
   pm:=⟨nj (cM q fun g c=>e1 g (by have:=(q.lt g c).1;omega)) (by omega),fun x j=>by
    have k:=(f x j).1;exact⟨k.addr,k.n,k.aI,k.code,cM (k.at_.below o) fun g c=>e1 g (fun e=>by
     have z:=(f x j).2 g c;rw[e,h.y.lb] at z;omega),k.len,k.small⟩⟩
   lm:=⟨fun g c=>ou (q.lt g c).1,fun x j g c=>(kH (((f x j).1.at_).lt g c).2).trans ((f x j).2 g c)⟩
   pb:=t.1
   lv:=t.2
   sn:=cM a.y.sn fun g c=>e1 g (fun e=>by
    subst e;rcases a.y.sn.2 with⟨h1,_⟩|⟨u,cap,B,h1,_,h2,_⟩
    ·rw[show({R with mv:=d,m:=i}:aV).sv=R.sv from rfl,h1] at c;simp[Value.ownBlock] at c
    ·have v:R.rb=u:=by
      rw[show({R with mv:=d,m:=i}:aV).sv=R.sv from rfl,h1] at c;simp[Value.ownBlock] at c;exact c.symm
     rw[<-v,a.y.ai] at h2;injection h2 with h2;injection h2 with _ h2;cases h2)
   ls:=a.y.ls
   sm:=a.y.sm
   tn:=(e1 _ (fun e=>n3 e.symm)).trans a.y.tn
   lt:=a.y.lt
   nm:=p
   nb:=a.y.nb
   ns:=a.y.ns}
def BF{l w R g f}(h:dh l w R g f){addr slot:yB}(i:addr∈R.seen)(hs:slot.size=0\/(slot.size=32/\slot∈R.seen)):Kf (R.arg l w g f) (bG R.m) R.m addr slot:=fun b h20=>by
 have b:R.de:=b
 have hi:=b.inj
 have e:=(h.k b).1
 have d:=Hd hi i (hs:=R.m) fun x a=>(e.each x a).1.addr
 have j:∀{m:List aH} {x:aH},dH m addr=some x->x∈m:=by
  intro m;induction m with
  |nil=>intro x h;cases h
  |cons y t ih=>
   intro x h;have h:(if y.addr=addr then some y else dH t addr)=some x:=h;split at h
   ·cases h;exact Uk ..
   ·exact Ul _ (ih h)
 unfold aY bT;cases hq:dH R.m addr with
 |none=>
  rw[d,hq];refine⟨rfl,rfl,Int.le_refl 0,fun h0=>⟨(hs.resolve_left h0).1,fun v c a=>?_⟩⟩;exact a.1 rfl
 |some x=>
  have a:=(e.each x (j hq)).1;rw[d,hq];exact⟨rfl,rfl,a.n.1,fun h0=>⟨(hs.resolve_left h0).1,fun v c o=>Mk hi a (hs.resolve_left h0).2 o⟩⟩
def By{a}{addr:yB}(h20:addr.size=20)(b:addr∈a):iz a (lz addr):=⟨h20,b,⟨Int.le_refl 0,show(0:Int)<_ by decide⟩,rfl,dz _,List.nodup_nil,(fun p c=>by cases c),fun _=>rfl⟩
def bA:List aH->Nat
 | []=>0
 |h::t=>1+h.az.length+bA t
def Rc(a b:List aH):bA (a++b)=bA a+bA b:=by
 induction a with
 |nil=>show bA b=0+bA b;omega
 |cons x t ih=>show 1+x.az.length+bA (t++b)=1+x.az.length+bA t+bA b;omega
def uv(a:List aH):a.length<=bA a:=by
 induction a with
 |nil=>exact Ug _
 |cons x t ih=>show t.length+1<=1+x.az.length+bA t;omega
def xv (a : ByteArray) : ∀ m : List aH, bA (dv m a) + (match dH m a with | some x => 1 + x.az.length | none => 0) ≤ bA m
  | [] => by show bA [] + 0 ≤ bA []; exact Nat.le_refl _
  | x :: t => by
    have ih := xv a t
    by_cases e : x.addr = a
    · have h1 : dv (x :: t) a = dv t a := by unfold dv; rw [List.filter_cons, if_neg]; rw [dV, decide_eq_true e]; decide
      have h2 : dH (x :: t) a = some x := by unfold dH; rw [if_pos e]
      rw [h1, h2]
      show bA (dv t a) + (1 + x.az.length) ≤ 1 + x.az.length + bA t
      have : bA (dv t a) ≤ bA t := by omega
      omega
    · have h1 : dv (x :: t) a = x :: dv t a := by unfold dv; rw [List.filter_cons, if_pos]; rw [dV, decide_eq_false e]; rfl
      have h2 : dH (x :: t) a = dH t a := by (conv => lhs; unfold dH); rw [if_neg e]
      rw [h1, h2]
      show 1 + x.az.length + bA (dv t a) + _ ≤ 1 + x.az.length + bA t
      omega
def Rb(m:List aH)(x:aH)(h:x.az.length<=(bT m x.addr).1.az.length+1):bA (dv m x.addr++[x])<=bA m+2:=by
 have h1:=xv x.addr m;rw[Rc];show _+(1+x.az.length+0)<=_;unfold bT at h;cases hf:dH m x.addr with
 |some y=>rw[hf] at h h1;simp only at h h1;omega
 |none=>rw[hf] at h h1;simp only[lz] at h h1;simp at h;omega
def RT(R:aV)(x:Nat):Prop:=Of R.sp x\/x=pr R.rb 0\/x=pr R.tt 0
structure kM(R R':aV):Prop where
 rb:R'.rb=R.rb
 sb:R'.sb=R.sb
 sp:R'.sp=R.sp
 tw:R'.tw=R.tw
 tt:R'.tt=R.tt
 base:R'.base=R.base
 seen:R'.seen=R.seen
 yes:R'.yes=false->R.yes=false
def kM.refl(R:aV):kM R R:=⟨rfl,rfl,rfl,rfl,rfl,rfl,rfl,id⟩
def kM.trans{R a b}(h:kM R a)(k:kM a b):kM R b:=⟨k.rb.trans h.rb,k.sb.trans h.sb,k.sp.trans h.sp,k.tw.trans h.tw,k.tt.trans h.tt,k.base.trans h.base,k.seen.trans h.seen,fun e=>h.yes (k.yes e)⟩
def RT.same{R a}(h:kM R a){x}(b:RT a x):RT R x:=by unfold RT at*;rw[h.sp,h.rb,h.tt] at b;exact b
def eY(l:Nat->Nat)(w:World)(R:aV)(b:Nat->Value)(a:List (yB×yB))(K:Nat)(w':World):Prop:=∃l' R',Mv (RT R) l l' w w'/\dh l' w' R' b a/\kM R R'/\R'.N<=R.N+K/\bA R'.m<=bA R.m+2
def dh.done{l w w' R c a P K K' g d}(h:dh l w R c a)(e:SC (R.arg l w c a) P K g d w')(j:K<=K')(f:∀X r,P X r->R.wk a X r):eY l w R c a K' w':=by
 let⟨l',i,m,b⟩:=h.after e f;exact⟨l',_,m.mono fun x b=>.inl b,b,⟨rfl,rfl,rfl,rfl,rfl,rfl,rfl,id⟩,by show R.N+K<=_;omega,by show bA R.m<=_;omega⟩
def OK{w:World}{base e b v n d}(h:w.ownsRow base e b v n d):∃a c,v=lV a n c:=by
 let⟨a,c,e,_⟩:=dM h;exact⟨a,c,e⟩
def pL(l:Nat->Nat)(w:World)(R:aV)(c:Nat->Value)(b:List (yB×yB))(K:Nat)(a:World):Prop:=∃l' R',Mv (RT R) l l' w a/\dh l' a R' c b/\kM R R'/\R'.N<=R.N+K/\bA R'.m<=bA R.m+2
def pL.asks{l w f R d c K}(h:pL l w R d c K f)(addr slot:yB)(j:addr.size<=1073741824)(o:slot.size<=1073741824)(g:addr∈R.seen)(n:slot.size=0\/(slot.size=32/\slot∈R.seen))(s:R.N+K+1000<4000000000):
 yC 24 #[pV (qA R.rb),sV addr,sV slot] f fun e w'=>e=rV (bV true)/\eY l w R d c (K+800) w':=by
 let⟨l',b,m,a,hs,t,p⟩:=h;have:=TG a.facts a.start addr slot j o (BF a (by rw[hs.seen];exact g) (by rw[hs.seen];exact n)) (by show b.N+0+1000<_;omega);rw[hs.rb] at this;refine this.mono ?_;rintro e w' ⟨k,i⟩;let⟨l3,r,m3,q⟩:=a.after i fun _ _ h=>h
 exact⟨k,l3,_,m.trans (m3.mono fun x a=>RT.same hs (.inl a)),q,⟨hs.rb,hs.sb,hs.sp,hs.tw,hs.tt,hs.base,hs.seen,hs.yes⟩,by show b.N+(0+800)<=_;omega,p⟩
structure lC(R:aV)(ps:List (yB×yB))(P:GP)(er want:Int)(x:aH):Prop where
 bad:want≠0->er=want/\∀X r,P X r->R.wk ps X r
 may:want=0->er≠0->¬R.de
 bB:want=0->er=0->(∀X r,P X r->R.de->Wd R.kn ps R.tw X (bG (ng R.m x)) gK)/\(R.de->iM R.seen (ng R.m x))
def vV{l w W R f d P K ts bx}(h:dh l w R f d)(Z:SC (R.arg l w f d) P K ts bx W)(B A:Int)(x:aH)(D:jK W x)(B7:∀g,x.sv.ownBlock=some g->(g<w.heap.size/\l g=0)\/∃o,(g,o)∈bx)(C:x.az.length<=(bT R.m x.addr).1.az.length+1)(hA:x.addr∈R.seen)(E:lC R d P B A x)(hN:R.N+K+2000<4000000000)(hm:bA R.m+2<1000000000):
 yC 65 #[pV (qA R.rb),i6 B,i6 A,iR x] W fun e w'=>e=rV (bV true)/\eY l w R f d (K+800) w':=by
 obtain⟨c,p,i,j,q,s,n⟩:=x;have v:=Z.box #[sV c,i6 p,sV i,sV j,lV q n.length s] 107;obtain⟨a,H⟩:=yX (W.alloc (.cells #[sV c,i6 p,sV i,sV j,lV q n.length s] 107))
 rw[<-H] at v;have F:yW W a:=by rw[H];exact(Un _ _).alloc (Ug _) _
 have B9:yH (A≠0->B=A/\eY l w R f d (K+800) a):=fun C=>⟨(E.bad C).1,h.done v (by omega) (E.bad C).2⟩
 have C0:yH (A=0->B≠0->yC 53 #[pV (qA R.rb)] a fun e w2=>e=rV (bV true)/\eY l w R f d (K+800) w2):=fun C he=>(h.may v).mono fun _ _ ⟨⟨b,h1,h3⟩,h2⟩=>⟨by rw[h1,h3 (E.may C he)],h.done h2 (by omega) fun _ _ _ I=>absurd I (E.may C he)⟩
 have Q:=h.cells v.drew;have O:=aa (Qz a.drew R.mv R.m _ Q.2.1 (by have:=h.y.nm;omega) D.len v.drew.bz);have A4:yH (A=0->B=0->∀e w2,BU a.drew R.m ⟨c,p,i,j,q,s,n⟩ e w2->∃(a':Option Addr) (z t:Nat),e=rV (lV a' z t)/\w2.cell? ⟨R.rb,2,none⟩=some R.mv/\w2.frozen? ⟨R.rb,2,none⟩=false/\jt w2 W.heap.size 107 (sV c) (i6 p) (sV i) (sV j) (lV q n.length s)/\W.heap.size≠R.rb/\yW a w2/\pL l w R f d K (w2.setCell ⟨R.rb,2,none⟩ (lV a' z t))/\((w2.setCell ⟨R.rb,2,none⟩ (lV a' z t)).cell? ⟨W.heap.size,0,none⟩=some (sV c))):=by
  rintro B5 B2 e w2 ⟨⟨v',M,rfl,U,A0⟩,hb⟩;have B1:M=dv R.m c\/M=dv R.m c++[⟨c,p,i,j,q,s,n⟩]:=by
   rw[A0];unfold ng;split
   ·exact .inl (UU _)
   ·exact .inr rfl
  obtain⟨a',t,rfl⟩:=OK U;obtain⟨l1,D1,m1,A1,C6⟩:=h.JG v.drew;have G:Below a.drew.heap.size a.drew w2:=hb;have D0:=Q.2.1;have C9:∀y∈M,jK a.drew y/\∀g,y.sv.ownBlock=some g->l1 g=0:=by
   have D3:∀y∈R.m,jK a.drew y/\∀g,y.sv.ownBlock=some g->l1 g=0:=fun y u=>⟨D0.2 y u,A1.y.lm.2 y u⟩
   have B4:∀y∈dv R.m c,jK a.drew y/\∀g,y.sv.ownBlock=some g->l1 g=0:=fun y u=>D3 y (List.mem_filter.1 u).1
   intro y u;rcases B1 with rfl|rfl
   ·exact B4 y u
   ·rcases UA.1 u with u|u
    ·exact B4 y u
    ·rw[Uo.1 u];refine⟨D.below ⟨F.os,F.tape,F.output,F.size,F.block⟩,fun g hg=>?_⟩;rcases B7 g hg with⟨g1,g2⟩|⟨o,U⟩
     ·exact(m1.bt g g1).trans g2
     ·exact C6 (g,o) (Ul _ U)
  have D5:bA M<=bA R.m+2:=by
   rcases B1 with rfl|rfl
   ·have:=xv c R.m;show bA (dv R.m c)<=_;omega
   ·exact Rb R.m ⟨c,p,i,j,q,s,n⟩ C
  have D7:=uv M;obtain⟨l2,m2,B6⟩:=A1.cQ G U C9 (by omega);have A7:yW a w2:=⟨G.os,G.tape,G.output,G.size,G.block⟩
  have D4:=h.y.jm;have D8:R.rb<W.heap.size:=by have:=Z.size;exact Us D4 this
  have D9:=F.size;have A5:jt w2 W.heap.size 107 (sV c) (i6 p) (sV i) (sV j) (lV q n.length s):=by
   have A8:a.heap[W.heap.size]? =some (.cells #[sV c,i6 p,sV i,sV j,lV q n.length s] 107 (0,0)):=v.at_;have D2:W.heap.size<a.heap.size:=(Um.1 A8).1;exact(A7.block _ D2).trans A8
  have C7:=A5.cells.1.1;have A9:w2.heap[R.rb]? =some (.cells #[pV (qA R.sb),pV (qA R.sp),R.mv,R.bv,R.sv,pV (qA R.tt)] 65 (0,0)):=(G.block _ (by show R.rb<a.heap.size;omega)).trans A1.y.ai;refine⟨a',_,t,rfl,?_,US w2 R.rb 2 _ _ A9,A5,by omega,A7,⟨l2,_,(m1.mono fun x D=>.inl D).trans (m2.mono fun x D=>.inr (.inl D)),⟨⟨B6.y,B6.x.ev fun X r hX I=>by have:=(E.bB B5 B2).1 X r hX I;rw[<-A0] at this;exact this⟩,fun I=>⟨by have:=(E.bB B5 B2).2 I;rw[<-A0] at this;exact this,(h.k I).2⟩⟩,⟨rfl,rfl,rfl,rfl,rfl,rfl,rfl,id⟩,Ug _,D5⟩,?_⟩
  ·rw[Ur w2 R.rb 2 _ _ _ A9];rfl
  ·rw[Uz (w:=w2) (UL _ _ _ _ (by show W.heap.size≠R.rb;omega))];exact C7
 have B8:yH (∀J,pL l w R f d K J->yC 24 #[pV (qA R.rb),sV c,sV ⟨#[]⟩] J fun e w'=>e=rV (bV true)/\eY l w R f d (K+800) w'):=fun J hm=>hm.asks c ⟨#[]⟩ D.addr (by decide) hA (.inl rfl) (by omega)
 obtain⟨⟨_,_,c2,_⟩,_⟩:=h.cells v;obtain⟨ma,mc,T⟩:=Q.2.1.form;have B0:jt a W.heap.size 107 (sV c) (i6 p) (sV i) (sV j) (lV q n.length s):=v.at_;obtain⟨⟨k0,k1,k2,k3,k4⟩,_⟩:=B0.cells;unfold iR aH.sv at O⊢;simp only at O⊢;rw[T] at O c2;have D6:=aa T;rw[T] at A4;clear h Z v Q D B7 C T B0 F E hA;generalize n.length=XL at*;generalize R.m.length=MN at*;by_cases V:A=0
 ·subst V;by_cases S:B=0
  ·subst S;have A3:=A4.o rfl rfl;have C5:=aa A3;clear A3;go_enter func65,ntmps65
   go_upto_region 5 with fail
   rw[<-H];clear H;go_cut [] (fun J=>yH (pL l w R f d K J)/\J.cell? ⟨W.heap.size,0,none⟩=some (sV c))
   case first=>
    go_region_with (go_at_call 103;refine O.m ?_;rintro e w2 ⟨hp,_⟩;obtain⟨a',z,t,rfl,q1,q2,q3,q4,q5,q6,q7⟩:=C5.o e w2 hp;obtain⟨⟨r0,r1,r2,r3,r4⟩,_⟩:=q3.cells;have C2:yH (pL l w R f d K (w2.setCell ⟨R.rb,2,none⟩ (lV a' z t))):=q6;have C3:yH ((w2.setCell ⟨R.rb,2,none⟩ (lV a' z t)).cell? ⟨W.heap.size,0,none⟩=some (sV c)):=q7;clear hp q3 q5 q6 q7)
    all_goals
     go_wp2
     go_meet
     exact⟨C2,C3.o⟩
   case rest=>
    obtain⟨HM,x0⟩:=hcut;go_wp2_with fail
    refine(B8.o _ HM.o).mono ?_;rintro e w5 ⟨rfl,L⟩;have Y:=aa L;clear L;go_wp2
    go_ret
    exact⟨rfl,Y.o⟩
  ·have C8:(B != 0)=true:=by simpa using S
   have A2:=C0.o rfl S;have C1:=aa A2;clear S A2;go_enter func65,ntmps65
   go_wp2_with fail
   rw[<-H];refine C1.m ?_;rintro e w5 ⟨rfl,L⟩;have Y:=aa L;clear L;go_wp2
   go_ret
   exact⟨rfl,Y.o⟩
 ·have C8:(A != 0)=true:=by simpa using V
  obtain⟨B3,A6⟩:=B9.o V;have h1:(B == A)=true:=by simpa using B3
  have C4:=aa A6;clear V B3 A6;go_enter func65,ntmps65
  go_wp2
  go_ret
  rw[<-H];exact⟨rfl,C4.o⟩
def Eo{l w W R d a K j i}(h:dh l w R d a)(D:SC (R.arg l w d a) (Wm (R.arg l w d a) (bG R.m)) K j i W)(addr:yB)(ha:addr.size<=1073741824)(o:Int)(A0:addr.size=20->o=0)(E:addr.size≠20->o=2)(x:addr∈R.seen)(hN:R.N+K+3000<4000000000)(hm:bA R.m+2<1000000000):
 yC 69 #[pV (qA R.rb),sV addr,i6 o] W fun e w'=>e=rV (bV true)/\eY l w R d a (K+1500) w':=by
 obtain⟨v,I⟩:=yX (Wm (R.arg l w d a) (bG R.m))
 obtain⟨p,C⟩:=yX (Wm (R.arg l w d a) (dO (bG R.m) addr true fun _=>lP))
 rw[<-I] at D;obtain⟨⟨_,_,c2,_⟩,H,_⟩:=h.cells D;obtain⟨ma,mc,Y⟩:=H.form;have B:=aa (D.find H h.y.nm addr);have A2:yH (∀W,SC (R.arg l w d a) v K j i W->yC 105 #[pV (qA R.sp),sV addr] W fun e w'=>(∃(b:Bool) (c:Nat),e=rV (tV #[bV b,i6 c])/\(addr.size≠20->b=false/\c=2)/\(addr.size=20->R.de->b=(bT R.m addr).2/\c=0))/\SC (R.arg l w d a) p (K+500) j i w'):=fun W s=>by
  rw[I] at s;rw[C];refine(MP s addr (by unfold maxLen;omega) (by show R.N+K+500<_;omega)).mono ?_;rintro e w' ⟨⟨b,c,h1,h2,h3,h4⟩,_⟩;refine⟨⟨b,c,h1,h2,fun h20 f=>?_⟩,h4⟩;obtain⟨e1,e2⟩:=h3 h20 f;exact⟨e1.trans (BF h x (slot:=⟨#[]⟩) (.inl rfl) f h20).2.1,e2⟩
 have A4:yH (∀W,¬R.de->SC (R.arg l w d a) p (K+500) j i W->yC 53 #[pV (qA R.rb)] W fun e w2=>e=rV (bV true)/\eY l w R d a (K+1500) w2):=fun W Z s=>(h.may s).mono fun _ _ ⟨⟨b,h1,h3⟩,h2⟩=>⟨by rw[h1,h3 Z],h.done h2 (by omega) fun _ _ _ f=>absurd f Z⟩
 have P:yH (∀W,SC (R.arg l w d a) p (K+500) j i W->yC 94 #[] W fun e w'=>e=rV (sV cZ)/\SC (R.arg l w d a) p (K+500) j i w'):=fun W s=>(Aq W s.bz).mono fun _ _ ⟨h1,h2⟩=>⟨h1,s.below h2⟩
 have A3:yH (∀(c:Nat) W,(addr.size≠20->c=2)->(addr.size=20->R.de->c=0)->SC (R.arg l w d a) p (K+500) j i W->yC 65 #[pV (qA R.rb),i6 c,i6 o,gV #[sV addr,i6 0,sV ⟨#[]⟩,sV cZ,lV none 0 0]] W fun e w'=>e=rV (bV true)/\eY l w R d a (K+1500) w'):=fun c W A6 A7 s=>(vV h s c o (lz addr) (Jw W ha) (fun g hg=>by simp[aH.sv,lz,Value.ownBlock] at hg) (by show 0<=_;omega) x (by
  have h20:o=0->addr.size=20:=fun e=>Vn fun q=>by have:=E q;omega
  have L:o≠0->addr.size≠20:=fun q e=>q (A0 e)
  refine⟨fun q=>⟨by rw[A6 (L q),E (L q)];rfl,fun X r n=>?_⟩,fun q1 q2 f=>q2 (by rw[A7 (h20 q1) f];rfl),fun q1 _=>⟨fun X r n f=>?_,fun f=>(h.k f).1.place (By (h20 q1) x)⟩⟩
  ·rw[C] at n;have n:R.de->Wd R.kn a R.tw X (dO (bG R.m) addr true fun _=>lP) gK:=n;unfold dO at n;rw[Ui (fun z=>L q z.1)] at n;exact n
  ·rw[C] at n;have n:R.de->Wd R.kn a R.tw X (dO (bG R.m) addr true fun _=>lP) gK:=n;unfold dO at n;rw[Uj ⟨h20 q1,rfl⟩] at n;rw[AE f.inj (h.k f).1 (By (h20 q1) x)];exact n f) (by omega) hm).mono fun _ _ ⟨h1,l',R',q1,q2,q3,q4,q5⟩=>⟨h1,l',R',q1,q2,q3,by omega,q5⟩
 have A1:yH (∀S K' W,SC (R.arg l w d a) S K' j i W->yc W R.rb 1 (pV (qA R.sp))):=fun S K' W s=>(h.cells s).1.2.1
 rw[Y] at c2 B;generalize (bT R.m addr).2=f at*;generalize (bT R.m addr).1=y at*;obtain⟨xa,xn,xb,xc,xp,xq,xl⟩:=y;unfold iR aH.sv at B;simp only at B;generalize xl.length=XL at*;generalize R.m.length=MN at*;generalize cZ=NC at*;clear h D H Y I C x;go_enter func69,ntmps69
 go_wp2_with fail
 refine B.m ?_;rintro e w1 ⟨rfl,T⟩;have Q:yH (SC (R.arg l w d a) v K j i (w1.alloc (.cells #[sV xa,i6 xn,sV xb,sV xc,lV xp XL xq] 107))):=T.below ((Un _ _).alloc (Ug _) _);have d1:=A1.o _ _ _ Q.o;clear T c2;go_wp2_with fail
 refine(A2.o _ Q.o).mono ?_;rintro e w3 ⟨⟨b,c,rfl,V,J⟩,U⟩;have M:=A3.o c;have O:yH (∀W,SC (R.arg l w d a) p (K+500) j i W->yC 65 #[pV (qA R.rb),i6 c,i6 o,gV #[sV addr,i6 0,sV ⟨#[]⟩,sV NC,lV none 0 0]] W fun e w'=>e=rV (bV true)/\eY l w R d a (K+1500) w'):=fun W=>M W (fun q=>(V q).2) (fun q f=>(J q f).2)
 have A5:yH (o=0->b≠f->¬R.de):=fun q1 q2 q3=>q2 (J (Vn fun q=>by have:=E q;omega) q3).1
 clear M V J A0 E;have F:=aa U;clear U d1;have A8:(o == 0)=false\/((o == 0)=true/\((c:Int) == 0)=false)\/((o == 0)=true/\((c:Int) == 0)=true):=by
  cases (o == 0)<;>cases ((c:Int) == 0)<;>simp
 rcases A8 with h1|⟨h1,h2⟩|⟨h1,h2⟩;case inr.inr=>cases b<;>cases f<;>(go_wp2_with fail;first
  | (refine(A4.o _ (A5.o (by simpa using h1) (by simp)) F.o).mono ?_;rintro e w5 ⟨rfl,t⟩;have u:yH (eY l w R d a (K+1500) w5):=t;clear t;go_wp2_with fail;go_ret;exact⟨rfl,u.o⟩)
  | (refine(P.o _ F.o).mono ?_;rintro e w4 ⟨rfl,A⟩;have G:yH (SC (R.arg l w d a) p (K+500) j i w4):=A;clear A;go_wp2_with fail;refine(O.o _ G.o).mono ?_;rintro e w5 ⟨rfl,t⟩;have u:yH (eY l w R d a (K+1500) w5):=t;clear t;go_wp2_with fail;go_ret;exact⟨rfl,u.o⟩))
 all_goals
  go_wp2_with fail
  refine(P.o _ F.o).mono ?_;rintro e w4 ⟨rfl,A⟩;have G:=aa A;clear A;go_wp2_with fail
  refine(O.o _ G.o).mono ?_;rintro e w5 ⟨rfl,t⟩;have u:=aa t;clear t;go_wp2
  go_ret
  exact⟨rfl,u.o⟩
def S9(n:Int)(D:Nat)(X:Int)(h0:0<=X)(h1:X<256)(a:0<=n->X=(D:Int))(wr:World):∃c:UInt8,Value.int .u8 X=iV .u8 (c.toNat:Int)/\yH (0<=n->c.toNat=D)/\wr=wr:=by
 refine⟨UInt8.ofNat X.toNat,?_,?_,rfl⟩
 ·have h2:X.toNat<256:=by omega
  rw[UInt8.toNat_ofNat_of_lt' h2];congr 1;omega
 ·show 0<=n->_;intro b;have h2:X.toNat<256:=by omega
  rw[UInt8.toNat_ofNat_of_lt' h2,a b];omega
def lB(n:Int)(k:Nat)(l:yL):Prop:=0<=n->bX l=n.toNat / 256 ^ (8 - k)/\(l≠[]->(l.getD 0 0).toNat≠0)
def lB.next{n:Int}{k l}(h:lB n k l)(f:k<8){c:UInt8}(b:0<=n->c.toNat=n.toNat / 256 ^ (7 - k) % 256)(h0:c.toNat≠0\/l≠[]):lB n (k+1) (l++[c]):=fun d=>by
 let⟨h1,h2⟩:=h d
 have b:=b d
 have e:n.toNat / 256 ^ (8 - k)=n.toNat / 256 ^ (7 - k) / 256:=by rw[Nat.div_div_eq_div_mul,<-Nat.pow_succ];congr 2;omega
 refine⟨?_,fun _=>?_⟩
 ·rw[zH,h1,e,b,show 8 - (k+1)=7 - k by omega];omega
 ·cases l with
  |nil=>show c.toNat≠0;exact h0.resolve_right fun q=>q rfl
  |cons a t=>exact h2 (by simp)
def lB.skip{n:Int}{k l}(h:lB n k l)(f:k<8){c:UInt8}(a:0<=n->c.toNat=n.toNat / 256 ^ (7 - k) % 256)(h0:c.toNat=0)(d:l=[]):lB n (k+1) l:=fun b=>by
 let⟨h1,h2⟩:=h b
 have a:=a b
 have e:n.toNat / 256 ^ (8 - k)=n.toNat / 256 ^ (7 - k) / 256:=by rw[Nat.div_div_eq_div_mul,<-Nat.pow_succ];congr 2;omega
 refine⟨?_,h2⟩
 subst d
 have h1:0=n.toNat / 256 ^ (8 - k):=h1
 rw[show 8 - (k+1)=7 - k by omega]
 show 0=_
 omega
def lB.done{n:Int}{l}(h:lB n 8 l)(b:0<=n)(a:l.length<=8):ae l=ae (bS 8 n.toNat):=by
 let⟨h1,h2⟩:=h b;have h3:=Bo 8 l a h2;rw[<-h3,show be l=bX l from rfl,h1];simp
def Sp{w:World}{base g cap n l}(h:w.ownsRow base 5 1 (lV (qA g) n cap) n (b9 l)):(convert 143 9 (lV (qA g) n cap)).run yP w=.ok (sV (ae l)) w:=by
 have a:l.length=n:=by have:=h.1;simpa [b9] using this
 have:=VA (P:=yP) w 143 5 underlying143 underlying5 g 0 n cap (l.map (fun c=>(c.toNat:Int))) (by simpa using a) (fun i hi=>by
  have:=fc h (g:=g) rfl i (iV .u8 (l[i].toNat:Int)) (by unfold b9;rw[UK,Uh (by omega)];rfl);rw[Vj,this,Up,UK,Uh (by omega)];rfl) 9 underlying9
 rw[this,oN]
def sU(m:List (yB×yB))(b:Bool):Prop:=cT (ct m)->b=false->cY (ct m)=ae bM->m=[]
def JZ(m:List (yB×yB))(e:Ending):Prop:=∃b:Bool,e=rV (bV b)/\sU m b
def Db{L}(h:cT L){i p}(a:L[i]? =some p):aL (L.take i) p.1 p.2=L.take (i+1):=by
 have d:=(Ux.1 a).1;have f:L[i]=p:=(Ux.1 a).2;unfold aL;have k:=(h.size p (UQ a)).2.1;rw[Ui (by omega),VF,a];congr 1;refine oV _ _ fun q g=>?_
 rw[dV,Uv];intro e;let⟨j,c,b⟩:=List.mem_iff_getElem.1 g;rw[UN] at c;rw[List.getElem_take] at b;have:=List.pairwise_iff_getElem.1 h.once j i (by simp;omega) (by simpa using d) (by omega);simp only[List.getElem_map] at this;rw[b,f] at this;exact this e
def yt{L t}(h:cT L)(a:fu L t)(g:L≠[]):t.some/\((ag (ae t.code)=ag ⟨#[128]⟩->ae t.code=⟨#[128]⟩)->cY L≠ae bM):=by
 have hs:t.some:=by
  cases t with
  |nil=>
   cases L with
   |nil=>exact absurd rfl g
   |cons p r=>
    have h1:=a.find (aD p.1) (b8 _);rw[Gf h (Uk ..)] at h1;have h2:=(h.size p (Uk ..)).2.1;have h3:p.2.data.toList=[]:=h1.symm;have h4:p.2.data.toList.length=p.2.size:=by simp
    rw[h3] at h4;simp at h4;omega
  | _=>trivial
 refine⟨hs,fun f e=>?_⟩;have c:=jV h 1;have d:=a.all.read hs;have e1:bQ t=bM:=by
  rw[(a.one c (fun _=>True)).root a.ok.aK c.ok.aK];have:=congrArg (fun b:yB=>b.data.toList) e;unfold cY at this;simpa [nC] using this
 rw[El a.ok.aK d] at e1;have e2:ag (ae t.code)=ag ⟨#[128]⟩:=by
  have:=congrArg ae e1;unfold bM at this;rw[mX,mX] at this;exact this
 have:=f e2;refine SF d ?_;have:=congrArg (fun b:yB=>b.data.toList) this;simpa [nC] using this
def QK(w v m)(y:eH w v m)(hn:m.length<4000000000)(A9:∀p∈m,p.1.size<=1073741824/\p.2.size<=1073741824)(T:aB w):
 yC 71 #[v] w fun e w'=>JZ m e/\yW w w':=by
 have h3:=T.size;obtain⟨a,cap,rfl⟩:=y.form;have C5:yH (yC 9 #[] w fun e w'=>e=rV (pV (qA w.heap.size))/\yH (gG 3 w' w.heap.size (fun _=>lV none 0 0) [])/\yH (yW w w')/\w.heap.size<w'.heap.size):=(tN 3 w).mono fun e w' ⟨h1,h2,h3⟩=>⟨h1,h2,h3,h2.eM _ (.inl rfl)⟩
 have B6:yH (∀W,yW w W->yC 10 #[] W fun e w'=>e=rV (sV (ae bM))/\yW W w'):=fun W o=>ph W (T.below o)
 have D0:yH (∀W,yW w W->yC 11 #[pV (qA w.heap.size),sV (ae bM)] W fun e w'=>∃b u,e=rV (tV #[pV (qA b),i6 0])/\W.heap.size<=b/\fF w' b (qA w.heap.size) u/\At w' .nil (fun x=>W.heap.size<=x/\x≠b) (pV u)/\yW W w'):=fun W o=>by
  have:=sL W (qA w.heap.size) bM (kE _) (T.below o);have e:bP bM=.nil:=by unfold bP;rw[Uj rfl]
  rw[e] at this;exact this
 have HA:yH (∀k (_:k<m.length),∃p q g,a=some ⟨g,0,none⟩/\(∀W,yW w W->yc W g (k*2) (sV p)/\yc W g (k*2+1) (sV q))/\p.size<=1073741824/\q.size<=1073741824/\m[k]? =some (p,q)):=fun k z=>by
  have s:m[k]? =some m[k]:=Uh z;obtain⟨g,e,_,c,d⟩:=y.at_ k _ s;obtain⟨s1,s2⟩:=A9 _ (Vc z);exact⟨_,_,g,e,fun W o=>⟨eg o c,eg o d⟩,s1,s2,s⟩
 have D6:yH (∀p W,p.size<=1073741824->yW w W->yC 23 #[sV p] W fun e w'=>(∃h:yB,e=rV (sV h)/\h.size=32/\h=ag p)/\yW W w'):=fun p W s o=>(ja p (by unfold maxLen;omega) W (T.below o)).mono fun _ _ ⟨h1,h2⟩=>⟨⟨_,h1,dz _,rfl⟩,h2⟩
 have B4:yH (∀q W,q.size<=1073741824->yW w W->yC 100 #[sV q] W fun e w'=>(∃h:yB,e=rV (sV h)/\h.size<=4096/\h=fg q)/\yW W w'):=fun q W Z o=>(Jc W q (by omega)).mono fun _ _ ⟨h1,h2⟩=>⟨⟨_,h1,RY _,rfl⟩,h2⟩
 have D3:yH (∀b W key value (i:Nat),(∃t,Own (fun x=>x<w.heap.size) W w.heap.size b t/\(cT (ct m)->fu ((ct m).take i) t))->(ct m)[i]? =some (key,value)->yW w W->key.size<=4096->value.size<=4096->yC 30 #[pV (qA b),sV key,sV value] W fun e w'=>(∃c,e=rV (i6 c))/\(∃t,Own (fun x=>x<w.heap.size) w' w.heap.size b t/\(cT (ct m)->fu ((ct m).take (i+1)) t))/\yW w w'):=fun b W key value i ⟨t,hO,A⟩ hi o z hv=>
  (hO.put (T.below o) key value (by unfold maxLen;omega) (by unfold maxLen;omega)).mono fun _ _ ⟨h1,h2,h3⟩=>⟨⟨_,h1⟩,⟨_,h2,fun y=>by
   have H:=y.size _ (UQ hi);rw[<-Db y hi];exact CG (A y) key value H.1 H.2.1 H.2.2⟩,o.trans (h3.below o.size)⟩
 have D2:yH (∀b W key,(∃t,Own (fun x=>x<w.heap.size) W w.heap.size b t/\(cT (ct m)->fu (ct m) t))->yW w W->key.size<=40->m≠[]->yC 44 #[pV (qA b),sV key] W fun e w'=>(∃(a:Option Addr) (c n:Nat) (i:Int),e=rV (tV #[lV a n c,i6 i])/\(0<n->∃g x,a=some ⟨g,0,none⟩/\yc w' g 0 (sV x)/\x.size<=4096/\sU m (bY [⟨#[128]⟩,x] 2))/\n<=81/\(n=0->sU m false))/\yW w w'):=fun b W key ⟨t,hO,A⟩ o z hne=>by
  have A7:ct m≠[]:=fun e=>hne (List.map_eq_nil_iff.1 e)
  have B0:cT (ct m)->aQ (ah []) t key=t.code::dS 80 (ay t (aD key) 0).1 (ay t (aD key) 0).2.1 (ay t (aD key) 0).2.2.1:=fun y=>by
   have hs:=(yt y (A y) A7).1;rw[p8 (A y).all z];show(if t.isNil=true then [] else dm t 0++_)=_;rw[Ui (by rw[(gM _).2 hs];simp)];unfold dm;rw[Uj (.inl rfl)];rfl
  have hK:aA t 0:=by obtain⟨S,vs,h1,_⟩:=hO;exact h1.ok
  obtain⟨f1,f2⟩:=wj (G:=ah []) hK key;refine(hO.prove (T.below o) key (by unfold maxLen;omega)).mono ?_;rintro e w' ⟨⟨u,he,D⟩,_,z⟩;obtain⟨a,c,hu,_,_,hf⟩:=dM D;subst hu;refine⟨⟨a,c,_,_,he,fun L=>?_,f1,fun h0 y=>?_⟩,o.trans (z.below o.size)⟩;rotate_left
  ·rw[B0 y] at h0;cases h0
  rcases hf with⟨_,h0,_⟩|⟨g,rfl⟩
  ·omega
  ·have Q:(aQ (ah []) t key)[0]? =some ((aQ (ah []) t key)[0]'L):=Uh L;refine⟨g,ae ((aQ (ah []) t key)[0]'L),rfl,fc D rfl 0 _ (by unfold kT;rw[UK,Q];rfl),?_,fun y F e=>?_⟩
   ·rw[aN];exact f2 _ (Vc L)
   ·have e0:(aQ (ah []) t key)[0]'L=t.code:=by
     have h9:(aQ (ah []) t key)[0]? =some t.code:=by rw[B0 y];rfl
     exact Option.some.inj (Q.symm.trans h9)
    rw[e0] at F;exact absurd e ((yt y (A y) A7).2 fun e2=>Bv F 1 0 (ae t.code) ⟨#[128]⟩ (by decide) (by decide) rfl rfl e2)
 have B3:yH (∀W u (l:List yB),yW w W->gQ W u l->l.length<=100->(∀p∈l,p.size<=4096)->yC 45 #[u] W fun e w'=>e=rV (bV (bY l l.length))/\yW W w'):=fun W u l o hu hl hs=>pk W u l hu (by omega) (fun p s=>by have:=hs p s;unfold maxLen;omega) (T.below o)
 have D5:yH (∀(i:Nat) p q,m[i]? =some (p,q)->(ct m)[i]? =some (ag p,fg q)):=fun i p q h=>by unfold ct;rw[UK,h];rfl
 have D8:yH ((ct m).take m.length=ct m):=by show _=_;rw[<-UM (f:=fun p:yB×yB=>(ag p.1,fg p.2))];exact VM
 have C4:yH (m.length≠0->m≠[]):=fun h e=>h (by rw[e];rfl)
 have B7:yH (m.length=0->sU m false):=fun h _ _ _=>UH.1 h
 clear y A9 T;generalize m.length=N at*;by_cases h0:N=0
 ·subst h0;go_enter func71,ntmps71
  go_wp2
  go_ret
  exact⟨⟨false,rfl,B7.o (by trivial)⟩,Un _ _⟩
 ·have E4:((N:Int) == 0)=false:=by simp;omega
  have C3:=aa (C4.o h0);clear h0;go_enter func71,ntmps71
  go_wp2_with fail
  refine C5.m ?_;rintro e w1 ⟨rfl,V,M,E3⟩;go_wp2_with fail
  refine(B6.o w1 M.o).mono ?_;rintro e w2 ⟨rfl,P⟩;have R:=aa (M.o.trans (P.mono M.o.size));have D1:yH (gG 3 w2 w.heap.size (fun _=>lV none 0 0) []):=V.o.kept fun k z=>P.block k (V.o.eM k z)
  have A8:w.heap.size<w2.heap.size:=by have:=P.size;omega
  clear P V;go_wp2_with fail
  refine(D0.o w2 R.o).mono ?_;rintro e w3 ⟨b,u,rfl,h1,h2,h4,X⟩;have B1:=aa (R.o.trans (X.mono R.o.size));have C6:yH (∃t,Own (fun x=>x<w.heap.size) w3 w.heap.size b t/\(cT (ct m)->fu ((ct m).take 0) t)):=⟨_,Fh h3 D1.o A8 h1 h2 h4 X,fun _=>vE⟩
  clear h1 h2 h4 X M E3 A8;go_wp2
  go_loopg [7,8] N (fun g kv r wr=>∃(i:Nat) (key:yB),g=N - i/\i<=N/\key.size<=32/\kv=sV key/\r=i6 i/\yH (∃t,Own (fun x=>x<w.heap.size) wr w.heap.size b t/\(cT (ct m)->fu ((ct m).take i) t))/\yH (yW w wr))
  case atStart=>exact⟨0,⟨#[]⟩,rfl,by omega,by decide,rfl,rfl,C6,B1⟩
  case round=>
   obtain⟨i,key,hg,hi,E6,rfl,rfl,HO,I⟩:=hrel;have HG:=aa hg;clear hg;by_cases E1:i<N
   ·obtain⟨p,q,g,rfl,F,s,Z,A6⟩:=HA.o i E1;have C2:=aa (D5.o i p q A6);clear A6;obtain⟨c0,c1⟩:=F wr I.o;have E0:(i:Int)<(N:Int):=by omega
    have B9:=aa F;have D7:=aa (D6.o p wr s I.o);have HQ:=aa Z;clear F s Z c1;go_wp2_with fail
    refine D7.m ?_;rintro e w4 ⟨⟨z,rfl,E5,A5⟩,E⟩;have C1:=aa A5;clear A5;have C:=aa (I.o.trans (E.mono I.o.size));have C7:yH (∃t,Own (fun x=>x<w.heap.size) w4 w.heap.size b t/\(cT (ct m)->fu ((ct m).take i) t)):=by obtain⟨t,D,A⟩:=HO.o;exact⟨t,D.below E,A⟩
    obtain⟨_,c1⟩:=B9.o w4 C.o;clear E c0;go_wp2_with fail
    refine(B4.o q _ HQ.o C.o).mono ?_;rintro e w5 ⟨⟨cq,rfl,D9,A2⟩,Y⟩;have B2:=aa A2;clear A2;have J:=aa (C.o.trans (Y.mono C.o.size));have C8:yH (∃t,Own (fun x=>x<w.heap.size) w5 w.heap.size b t/\(cT (ct m)->fu ((ct m).take i) t)):=by obtain⟨t,D,A⟩:=C7.o;exact⟨t,D.below Y,A⟩
    clear Y c1;go_wp2_with fail
    refine(D3.o b _ z cq i C8.o (by rw[C2.o,C1.o,B2.o]) J.o (by omega) D9).mono ?_;rintro e w6 ⟨⟨c6,rfl⟩,A0,K⟩;have C9:=aa A0;have U:=aa K;clear A0 K;go_wp2
    go_roundg (N - (i+1))
    case measure=>have:=HG.o;omega
    case rel=>exact⟨i+1,z,rfl,by omega,by omega,rfl,by go_num,C9,U⟩
   ·obtain rfl:i=N:=by omega
    have E0:¬(i:Int)<(i:Int):=by omega
    have D4:=aa (D2.o b wr key (by obtain⟨t,D,A⟩:=HO.o;rw[D8.o] at A;exact⟨t,D,A⟩) I.o (by omega) C3.o);go_wp2_with fail
    refine D4.m ?_;rintro e w4 ⟨⟨a4,c4,n4,i4,rfl,h4,E7,A3⟩,E⟩;have B8:=aa A3;clear A3;have C:=aa E;clear E;by_cases H:n4=0
    ·subst H;clear h4;go_wp2
     go_ret
     exact⟨⟨false,rfl,B8.o (by trivial)⟩,C.o⟩
    ·have E8:((n4:Int) == 0)=false:=by simp;omega
     have E9:(0:Int)<(n4:Int):=by omega
     obtain⟨g,x,rfl,cx,Q,A4⟩:=h4 (by omega);have C0:=aa A4;clear A4;obtain⟨B,O⟩:=yX (w4.alloc (.cells #[sV ⟨#[128]⟩,sV x] 9))
     have J:yH (yW w B):=by rw[O];exact C.o.alloc C.o.size _
     have A1:gQ B (lV (qA w4.heap.size) 2 2) [⟨#[128]⟩,x]:=by
      refine⟨_,2,rfl,.inr ⟨w4.heap.size,0,rfl,fun j p s=>?_⟩⟩;have E2:B.heap[w4.heap.size]? =some (.cells #[sV ⟨#[128]⟩,sV x] 9 (0,0)):=by rw[O];exact UG w4 _
      rw[Vj,Ur B w4.heap.size j _ _ _ E2];match j with
      | 0=>simp at s;subst s;rfl
      | 1=>simp at s;subst s;rfl
      |j+2=>simp at s
     have B5:yH (yC 45 #[lV (qA w4.heap.size) 2 2] B fun e w'=>e=rV (bV (bY [⟨#[128]⟩,x] 2))/\yW B w'):=B3.o B _ [⟨#[128]⟩,x] J.o A1 (by show 2<=100;decide) (fun p s=>by
      rcases UC.1 s with rfl|s
      ·decide
      ·rw[Uo.1 s];exact Q)
     generalize bY [⟨#[128]⟩,x] 2=CK at*;clear A1 h4 H;go_wp2_with fail
     rw[<-O];clear O;refine B5.m ?_;rintro e w6 ⟨rfl,K⟩;have U:=aa (J.o.trans (K.mono J.o.size));clear K;go_wp2
     go_ret
     exact⟨⟨CK,rfl,C0.o⟩,U.o⟩
def SC.fC{A P K c a w}(h:SC A P K c a w){g}(b:g<A.w.heap.size)(h0:A.l g=0):w.heap[g]? =A.w.heap[g]? :=by
 let⟨l',d,m,_⟩:=h;exact m.kept b h0 (mr _)
def SX.kn{l w c sb d D N e b}{k k':Kn}{P}(h:SX l w c sb d D N e b k P)(g:k'.B=k.B)(j:k'.ok->k.ok):SX l w c sb d D N e b k' P:=by
 let⟨q,n,p,f,X,h1,h2,a,i⟩:=h.st;exact⟨⟨q,n,p,f,X,h1,h2,⟨a.fB,a.o,a.tw,fun m=>by rw[g];exact a.iG (j m)⟩,i⟩,h.jw,h.ls,h.bz,h.l3,h.ne⟩
def dh.tF{l w R n j}(h:dh l w R n j):Mv (fun x=>x=pr R.tt 0) l l w (w.setCell ⟨R.tt,0,none⟩ (bV true))/\dh l (w.setCell ⟨R.tt,0,none⟩ (bV true)) {R with yes:=true} n j:=by
 let⟨n1,n2,n3,n4,n5⟩:=h.ne;have e1:∀k,k≠R.tt->(w.setCell ⟨R.tt,0,none⟩ (bV true)).heap[k]? =w.heap[k]? :=fun k d=>UL _ _ _ k d
 have e2:(w.setCell ⟨R.tt,0,none⟩ (bV true)).heap[R.tt]? =some (.cells #[bV true] 61 (0,0)):=by
  rw[U7 w R.tt 0 _ _ (0,0) _ h.y.tn,Vk w R.tt _ _ _ _ h.y.tn];rfl
 have q:(w.setCell ⟨R.tt,0,none⟩ (bV true)).heap.size=w.heap.size:=by simp
 have m:Mv (fun x=>x=pr R.tt 0) l l w (w.setCell ⟨R.tt,0,none⟩ (bV true)):=⟨rfl,rfl,rfl,by rw[q];exact Ug _,fun _ _=>rfl,fun k d o=>e1 k fun e=>o (by rw[e];exact h.y.lt)⟩
 have p0:=iu R.tt 0;have a:¬({R with yes:=true}:aV).de:=fun h=>by cases h.1
 refine⟨m,⟨⟨?_,((h.x.move m (fun e=>by omega) (fun e=>n5 (fS e).1.symm) fun b e=>n2 (fS e).1).kn (k':=({R with yes:=true}:aV).kn) rfl fun h=>absurd h a).ev fun _ _ _ h=>absurd h a⟩,fun h=>absurd h a⟩⟩;have i:=h.y.pm.mv h.y.lm m (fun e=>by omega);have f:=h.y.pb.mv h.y.lv m (fun e=>by omega);have p:pr R.rb 0≠pr R.tt 0:=fun e=>n3 (fS e).1
 exact⟨(e1 _ n3).trans h.y.ai,h.y.lb,i.1,i.2,f.1,f.2,cM h.y.sn fun g c=>m.kept (h.y.sn.lt g c).2 (h.y.ls g c) p,h.y.ls,h.y.sm,e2,h.y.lt,h.y.nm,h.y.nb,h.y.ns⟩
def eY.trans{l l1 w w1 w2 R a d c K b}(m:Mv (RT R) l l1 w w1)(hs:kM R a)(j:a.N<=R.N+K)(n:bA a.m<=bA R.m)(h:eY l1 w1 a d c b w2):eY l w R d c (K+b) w2:=by
 let⟨l2,e,m2,i,f,k,o⟩:=h;exact⟨l2,e,m.trans (m2.mono fun x g=>RT.same hs g),i,hs.trans f,by omega,by omega⟩
def eY.mono{l w w1 R b a K K'}(h:eY l w R b a K w1)(g:K<=K'):eY l w R b a K' w1:=by
 let⟨l2,c,m2,f,d,i,e⟩:=h;exact⟨l2,c,m2,f,d,by omega,e⟩
def eY.asks{l w c R b a K}(h:eY l w R b a K c)(addr slot:yB)(g:addr.size<=1073741824)(j:slot.size<=1073741824)(d:addr∈R.seen)(i:slot.size=0\/(slot.size=32/\slot∈R.seen))(f:R.N+K+1000<4000000000):
 yC 24 #[pV (qA R.rb),sV addr,sV slot] c fun e w'=>e=rV (bV true)/\eY l w R b a (K+800) w':=pL.asks h addr slot g j d i f
def za{A m K d a w}(h:SC A (Wm A m) K d a w)(addr:yB)(c:addr.size<=maxLen)(x:Int)(g:Rg x)(f:A.N+K+500<4000000000):
 yC 64 #[pV (qA A.sp),sV addr,i6 x] w fun e w'=>kN A addr (decide (0<=x)) (dO m addr (decide (0<=x)) fun b=>{b with n:=x.toNat}) (K+500) d a e w'/\True:=by
 by_cases h0:x<0
 ·rw[Uv (by omega),show dO m addr false (fun b=>{b with n:=x.toNat})=dO m addr false id by unfold dO;rw[Ui (fun h=>by cases h.2),Ui (fun h=>by cases h.2)]];exact MD h addr c x h0
 ·obtain⟨n,rfl⟩:∃n:Nat,x=n:=⟨x.toNat,by omega⟩
  let⟨_,h2⟩:=g;rw[Uw (by omega)];exact MC h addr c n (by omega) f
def Ij{l w R f e}(h:dh l w R f e)(b:R.de){s:yB}(h20:s.size=20)(a:s∈R.seen):iz R.seen (bT R.m s).1/\dU (bT R.m s).1=aY (bG R.m) (ag s):=by
 refine⟨?_,(BF h a (slot:=⟨#[]⟩) (.inl rfl) b h20).1.symm⟩;have d:=(h.k b).1;have c:∀{m:List aH} {x:aH},dH m s=some x->x∈m:=by
  intro m;induction m with
  |nil=>intro x h;cases h
  |cons y t ih=>
   intro x h;have h:(if y.addr=s then some y else dH t s)=some x:=h;split at h
   ·cases h;exact Uk ..
   ·exact Ul _ (ih h)
 unfold bT;cases hq:dH R.m s with
 |none=>exact By h20 a
 |some x=>exact(d.each x (c hq)).1
def rT{l:Nat->Nat}{w:World}{R:aV}{j:Nat->Value}{g:List (yB×yB)}(h:dh l w R j g){s:yB}{a:Bool}{f:Ac->Ac}{c:Nat}{e:Int}{x:aH}(hs:x.addr=s)(q1:s.size≠20->c=2)(q2:s.size=20->a=false->c=3)(q3:s.size=20->a=true->R.de->c=0)(w1:s.size≠20->e=2)(w2:s.size=20->a=false->e=3)(w3:s.size=20->a=true->e=0)(i:s.size=20->a=true->R.de->iz R.seen x/\dU x=f (aY (bG R.m) (ag s))):lC R g (Wm (R.arg l w j g) (dO (bG R.m) s a f)) c e x:=by
 have n:(s.size=20/\a=true/\e=0)\/(¬(s.size=20/\a=true)/\e≠0/\(c:Int)=e):=by
  by_cases h20:s.size=20
  ·cases a with
   |true=>exact .inl ⟨h20,rfl,w3 h20 rfl⟩
   |false=>exact .inr ⟨(fun q=>by cases q.2),by rw[w2 h20 rfl];decide,by rw[q2 h20 rfl,w2 h20 rfl];rfl⟩
  ·exact .inr ⟨fun q=>h20 q.1,by rw[w1 h20];decide,by rw[q1 h20,w1 h20];rfl⟩
 rcases n with⟨a1,a2,a3⟩|⟨a1,a2,a3⟩
 ·refine⟨fun q=>absurd a3 q,fun _ q d=>q (by rw[q3 a1 a2 d];rfl),fun _ _=>⟨fun X r b d=>?_,fun d=>(h.k d).1.place (i a1 a2 d).1⟩⟩;have b:R.de->Wd R.kn g R.tw X (dO (bG R.m) s a f) gK:=b;unfold dO at b;rw[Uj ⟨a1,a2⟩] at b;let⟨o1,o2⟩:=i a1 a2 d;rw[AE d.inj (h.k d).1 o1,hs,o2];exact b d
 ·refine⟨fun _=>⟨a3,fun X r b=>?_⟩,fun q=>absurd q a2,fun q=>absurd q a2⟩;have b:R.de->Wd R.kn g R.tw X (dO (bG R.m) s a f) gK:=b;unfold dO at b;rw[Ui a1] at b;exact b
def SC.mh{A P K c n t x0 x1 x2 x3 x4 a w}(h:SC A P K c ((n,.cells #[x0,x1,x2,x3,x4] t (0,0))::a) w)(d:∀b∈a,b.1≠n)(y)(i:Nat):SC A P K c ((n,.cells ((#[x0,x1,x2,x3,x4]:Array Value).setIfInBounds i y) t (0,0))::a) (w.setCell ⟨n,i,none⟩ y):=by
 refine h.wrote d rfl rfl rfl (by simp) (fun k e=>UL _ _ _ k e) ?_;have e0:=h.at_;rw[U7 w n i _ _ (0,0) _ e0,Vk w n _ _ _ _ e0]
def sY(W:World)(n:Nat)(t:TypeId)(x0 x1 x2 x3 x4 x5:Value):Prop:=W.heap[n]? =some (.cells #[x0,x1,x2,x3,x4,x5] t (0,0))
def sY.cells{W n t x0 x1 x2 x3 x4 x5}(h:sY W n t x0 x1 x2 x3 x4 x5):W.cell? ⟨n,0,none⟩=some x0/\W.cell? ⟨n,1,none⟩=some x1/\W.cell? ⟨n,2,none⟩=some x2/\W.cell? ⟨n,3,none⟩=some x3/\W.cell? ⟨n,4,none⟩=some x4/\W.cell? ⟨n,5,none⟩=some x5:=by
 refine⟨?_,?_,?_,?_,?_,?_⟩
 ·rw[Ur W n 0 _ _ _ h];rfl
 ·rw[Ur W n 1 _ _ _ h];rfl
 ·rw[Ur W n 2 _ _ _ h];rfl
 ·rw[Ur W n 3 _ _ _ h];rfl
 ·rw[Ur W n 4 _ _ _ h];rfl
 ·rw[Ur W n 5 _ _ _ h];rfl
def II{m a}:(bT m a).1.az.length<=bA m:=by
 have h:=xv a m;unfold bT;cases hf:dH m a with
 |some y=>rw[hf] at h;simp only at h⊢;omega
 |none=>show 0<=_;omega
def Ik{m a}:(bT m a).1.addr=a:=by
 unfold bT;have key:∀(l:List aH) x,dH l a=some x->x.addr=a:=by
  intro l;induction l with
  |nil=>intro x e;cases e
  |cons y t ih=>
   intro x e;unfold dH at e;split at e
   ·next hh=>cases e;exact hh
   ·exact ih x e
 cases hf:dH m a with
 |some x=>exact key m x hf
 |none=>rfl
def Ii{l v m a}(h:oH l v m):∀g,(bT m a).1.sv.ownBlock=some g->l g=0:=by
 unfold bT;have key:∀(l:List aH) x,dH l a=some x->x∈l:=by
  intro l;induction l with
  |nil=>intro x e;cases e
  |cons y t ih=>
   intro x e;unfold dH at e;split at e
   ·cases e;exact Uk ..
   ·exact Ul _ (ih x e)
 cases hf:dH m a with
 |some x=>exact h.2 x (key m x hf)
 |none=>intro g b;simp[aH.sv,lz,Value.ownBlock] at b
def SC.Ef{A P K c n g t x0 x1 x2 x3 x4 y0 y1 y2 y3 y4 o w}(h:SC A P K c [(n,.cells #[x0,x1,x2,x3,x4] t (0,0)),(g,o)] w)(e:g≠n):SC A P K c [(n,.cells #[y0,y1,y2,y3,y4] t (0,0)),(g,o)] (((((w.setCell ⟨n,0,none⟩ y0).setCell ⟨n,1,none⟩ y1).setCell ⟨n,2,none⟩ y2).setCell ⟨n,3,none⟩ y3).setCell ⟨n,4,none⟩ y4):=by
 have a:∀b∈[(g,o)],b.1≠n:=fun b d=>by rw[Uo.1 d];exact e
 exact((((h.mh a y0 0).mh a y1 1).mh a y2 2).mh a y3 3).mh a y4 4
def MX{w:World}{base e i v n j}(h:w.ownsRow base e i v n j):∃bx:List (Nat×Obj),(∀b∈bx,w.heap[b.1]? =some b.2/\base<=b.1)/\(∀g,v.ownBlock=some g->∃o,(g,o)∈bx)/\∀W:World,(∀b∈bx,W.heap[b.1]? =some b.2)->W.ownsRow base e i v n j:=by
 have k:=h;rcases k.2 with⟨rfl,rfl⟩|⟨g,cap,d,rfl,a,c,rest⟩
 ·exact⟨[],(fun b a=>absurd a Vs),(fun g c=>by simp[Value.ownBlock] at c),fun W _=>⟨h.1,.inl ⟨rfl,rfl⟩⟩⟩
 ·refine⟨[(g,.cells d e (0,0))],(fun b m=>?_),(fun p f=>?_),fun W l=>⟨h.1,.inr ⟨g,cap,d,rfl,a,l _ (Uo.2 rfl),rest⟩⟩⟩
  ·rw[Uo.1 m];exact⟨c,a⟩
  ·simp[Value.ownBlock] at f;subst f;exact⟨_,Uo.2 rfl⟩
def ym(m key v):(aL m key v).length<=m.length+1:=by
 unfold aL;have:=oW m key;rw[Uq];split<;>simp<;>omega
def Cv{m}{key v:yB}(h:∀p∈m,p.1.size<=1073741824/\p.2.size<=1073741824)(b:key.size<=1073741824)(c:v.size<=1073741824):∀p∈aL m key v,p.1.size<=1073741824/\p.2.size<=1073741824:=fun p a=>by
 unfold aL at a
 rcases UA.1 a with a|a
 ·exact h p (List.mem_filter.1 a).1
 ·split at a
  ·cases a
  ·rw[Uo.1 a];exact⟨b,c⟩
structure xW(l:Nat->Nat)(w:World)(R:aV)(us:Nat->Value)(ps:List (yB×yB))(Y:aH)(hb ob:Nat)(oc:Obj)(l6:Nat->Nat)(R6:aV)(wx:World):Prop where
 mv:Mv (RT R) l l6 w wx
 x:dh l6 wx R6 us ps
 same:kM R R6
 n:R6.N=R.N
 m:R6.m=R.m
 ok:jK wx Y
 lY:∀g,Y.sv.ownBlock=some g->g<wx.heap.size/\l6 g=0
 bh:wx.heap[hb]? =some (.cells #[sV Y.addr,iV .i64 Y.n,sV Y.aI,sV Y.code,Y.sv] 107 (0,0))
 lh:l6 hb=0
 bo:wx.heap[ob]? =some oc
 lo:l6 ob=0
def BM(a:aV)(Y:aH)(key v:yB):Prop:=a.de->Y.addr.size=20->iz a.seen Y/\dU Y= {aY (bG a.m) (ag Y.addr) with ss:=aL (aY (bG a.m) (ag Y.addr)).ss (ag key) (if v.size=0 then⟨#[]⟩ else fg v)}
def xV(l:Nat->Nat)(w:World)(R:aV)(e:Nat->Value)(d:List (yB×yB))(Y:aH)(a b:Nat)(c:Obj)(f:World):Prop:=∃l6 R6,xW l w R e d Y a b c l6 R6 f
def pJ(l:Nat->Nat)(w:World)(R:aV)(e:Nat->Value)(d:List (yB×yB))(Y:aH)(a b:Nat)(c:Obj)(key v:yB)(f:World):Prop:=∃l6 R6,xW l w R e d Y a b c l6 R6 f/\BM R6 Y key v
def qP(l:Nat->Nat)(w:World)(R:aV)(b:Nat->Value)(a:List (yB×yB))(Y:aH)(d e:Nat)(f:Obj)(key v:yB)(c:Nat)(w7:World):Prop:=∃l6 R6 wx,xW l w R b a Y d e f l6 R6 wx/\BM R6 Y key v/\(Y.addr.size=20->R6.de->c=0)/\SC (R6.arg l6 wx b a) (Wm (R6.arg l6 wx b a) (kg (bG R6.m) (ag Y.addr) (ag key) Y.addr key v)) 1300 [] [] w7
def xV.yes{l w R p o Y d f k a}(h:xV l w R p o Y d f k a)(key v):pJ l w R p o Y d f k key v (a.setCell ⟨R.tt,0,none⟩ (bV true))/\yc a R.rb 5 (pV (qA R.tt))/\(∃b:Bool,yc a R.tt 0 (bV b))/\a.frozen? ⟨R.tt,0,none⟩=false:=by
 let⟨l6,t,h⟩:=h;have hs:=h.same;let⟨m1,j⟩:=h.x.tF;let⟨_,_,_,_,_,c5,d0⟩:=h.x.y.cells;rw[hs.rb,hs.tt] at c5;rw[hs.tt] at d0 j m1;have p0:=iu R.tt 0;have i:∀g,g<a.heap.size->l6 g=0->g≠R.tt:=fun g _ h0 e=>by have:=h.x.y.lt;rw[hs.tt,<-e,h0] at this;rw[e] at this;omega
 have e1:∀g,g≠R.tt->(a.setCell ⟨R.tt,0,none⟩ (bV true)).heap[g]? =a.heap[g]? :=fun g c=>UL _ _ _ g c
 have q:(a.setCell ⟨R.tt,0,none⟩ (bV true)).heap.size=a.heap.size:=by simp
 refine⟨⟨l6,_,⟨h.mv.trans (m1.mono fun x r=>.inr (.inr r)),j,⟨hs.rb,hs.sb,hs.sp,hs.tw,rfl,hs.base,hs.seen,(fun e=>by cases e)⟩,h.n,h.m,?_,fun g c=>⟨by rw[q];exact(h.lY g c).1,(h.lY g c).2⟩,?_,h.lh,?_,h.lo⟩,fun s=>by cases s.1⟩,c5,⟨_,d0⟩,?_⟩
 ·exact⟨h.ok.addr,h.ok.n,h.ok.aI,h.ok.code,cM h.ok.at_ fun g c=>e1 g (i g (h.lY g c).1 (h.lY g c).2),h.ok.len,h.ok.small⟩
 ·exact(e1 d (i d (Um.1 h.bh).1 h.lh)).trans h.bh
 ·exact(e1 f (i f (Um.1 h.bo).1 h.lo)).trans h.bo
 ·have:=h.x.y.tn;rw[hs.tt] at this;exact US a R.tt 0 _ _ this
def pJ.call{l w R f d Y g i j key v a}(h:pJ l w R f d Y g i j key v a)(s)(p:Y.addr=s)(hs:s.size<=1073741824)(o:key.size=32)(r:bF v=true)(y:v.size<=1073741824)(u:R.N+9000<4000000000):
 yC 72 #[pV (qA R.sp),sV s,sV key,sV v] a.drew fun e w'=>∃c:Nat,e=rV (i6 c)/\(s.size≠20->c=2)/\qP l w R f d Y g i j key v c w':=by
 subst p;let⟨l6,b,h,m⟩:=h;have k:=h.x.start.drew;have:=JO k Y.addr key v (by unfold maxLen;omega) (by unfold maxLen;omega) (by unfold maxLen;omega) (by show b.N+0+1500<_;rw[h.n];omega);rw[show(b.arg l6 a f d).sp=R.sp from h.same.sp] at this;exact this.mono fun _ _ ⟨⟨c,h1,h2,h3,h4⟩,_⟩=>⟨c,h1,h2,l6,b,a,h,m,fun q t=>h3 q o r t,h4⟩
def pJ.cells{l w R f e Y b c d key v a}(h:pJ l w R f e Y b c d key v a):yc a R.rb 1 (pV (qA R.sp))/\a.heap[b]? =some (.cells #[sV Y.addr,i6 Y.n,sV Y.aI,sV Y.code,Y.sv] 107 (0,0))/\a.heap[c]? =some d:=by
 let⟨l6,g,h,_⟩:=h;let⟨_,c1,_⟩:=h.x.y.cells;rw[h.same.rb,h.same.sp] at c1;exact⟨c1,h.bh,h.bo⟩
def qP.cells{l w R g f Y b d e key v c w7}(h:qP l w R g f Y b d e key v c w7):w7.heap[b]? =some (.cells #[sV Y.addr,i6 Y.n,sV Y.aI,sV Y.code,Y.sv] 107 (0,0))/\w7.heap[d]? =some e:=by
 let⟨l6,i,j,h,_,_,a⟩:=h;exact⟨(a.fC (Um.1 h.bh).1 h.lh).trans h.bh,(a.fC (Um.1 h.bo).1 h.lo).trans h.bo⟩
def MU(R:aV):¬RT R 0:=fun h=>by
 have h1:=iu R.rb 0
 have h2:=iu R.tt 0
 rcases h with h|h|h
 ·exact mr _ h
 ·omega
 ·omega
def qP.kept{l w R o f Y B t u key v c w7}(h:qP l w R o f Y B t u key v c w7)(i:Int)(C:key.size=32)(E:bF v=true)(q1:Y.addr.size≠20->c=2)(w1:Y.addr.size≠20->i=2)(w2:Y.addr.size=20->i=0)(y:Y.addr∈R.seen)(F:Y.az.length<=(bT R.m Y.addr).1.az.length+1)(I:R.N+9000<4000000000)(D:bA R.m+2<1000000000):
 yC 65 #[pV (qA R.rb),i6 c,i6 i,iR Y] w7 fun e w'=>e=rV (bV true)/\eY l w R o f 3000 w'/\w'.heap[t]? =some u:=by
 let⟨l6,a,G,h,s,q3,p⟩:=h;have A:jK w7 Y:=⟨h.ok.addr,h.ok.n,h.ok.aI,h.ok.code,cM h.ok.at_ fun g j=>p.fC (h.lY g j).1 (h.lY g j).2,h.ok.len,h.ok.small⟩
 have z:lC a f (Wm (a.arg l6 G o f) (kg (bG a.m) (ag Y.addr) (ag key) Y.addr key v)) c i Y:=by
  by_cases h20:Y.addr.size=20
  ·refine⟨fun q=>absurd (w2 h20) q,fun _ q d=>q (by rw[q3 h20 d];rfl),fun _ _=>⟨fun X r b d=>?_,fun d=>(h.x.k d).1.place (s d h20).1⟩⟩;have b:=b;unfold kg at b;rw[Uj ⟨h20,C,E⟩] at b;let⟨o1,o2⟩:=s d h20;rw[AE d.inj (h.x.k d).1 o1,o2];exact b d
  ·refine⟨fun _=>⟨by rw[q1 h20,w1 h20];rfl,fun X r b=>?_⟩,fun q=>absurd q (by rw[w1 h20];decide),fun q=>absurd q (by rw[w1 h20];decide)⟩;have b:=b;unfold kg at b;rw[Ui (fun q=>h20 q.1)] at b;exact b
 have:=vV h.x p c i Y A (fun g j=>.inl (h.lY g j)) (by rw[h.m];exact F) (by rw[h.same.seen];exact y) z (by rw[h.n];omega) (by rw[h.m];exact D);rw[h.same.rb] at this;refine this.mono ?_;rintro e w' ⟨h1,h2⟩;refine⟨h1,(eY.trans h.mv h.same (K:=0) (by rw[h.n];omega) (by rw[h.m];exact Ug _) h2).mono (by omega),?_⟩;let⟨l8,H,m8,_⟩:=h2;exact(m8.kept (Um.1 h.bo).1 h.lo (MU _)).trans h.bo
def Gx(w)(n:Int)(R:Rg n):yC 70 #[i6 n] w fun e w'=>(∃v:yB,e=rV (sV v)/\v.size<=8/\(0<=n->v=ae (bS 8 n.toNat)))/\yW w w':=by
 have X:yH (lB n 0 []):=fun h=>⟨by show 0=_;rw[Nat.div_eq_of_lt];have:=R.2;show n.toNat<256 ^ 8;omega,fun h=>absurd rfl h⟩
 obtain⟨A6,A7⟩:=R;obtain⟨i0,D,F,G,H⟩:=Vp rX;obtain⟨t,Q,S,d⟩:=run_make_own (P:=yP) w w.heap.size 143 5 i0 (iV .u8 0) 1 underlying143 D F G .i64 .i64 8 (by rw[H];decide) (by decide) (Ug _);have L:yW w t:=⟨d.os,d.tape,d.output,d.size,fun k f=>d.block k f (by simp)⟩
 have Z:=aa S;have U:=aa L;have A3:(Instr.makeSlice 143 (i6 0) (i6 8)).run yP w=.ok (lV (qA w.heap.size) 0 8) t:=Q;clear Q S d L;go_enter func70,ntmps70
 go_wp2
 clear A3;go_loopg [3,4] 9 (fun g v r wr=>∃(k:Nat) (l:yL) (u cap:Nat),g=9 - k/\k<=8/\l.length<=k/\r=i6 (56 - 8*(k:Int))/\v=lV (qA u) l.length cap/\yH (lB n k l)/\yH (wr.ownsRow w.heap.size 5 1 (lV (qA u) l.length cap) l.length (b9 l))/\yH (yW w wr))
 case atStart=>exact⟨0,[],w.heap.size,8,rfl,by omega,Ug _,rfl,rfl,X,Z,U⟩
 case round=>
  obtain⟨k,l,u,cap,M,f,O,rfl,rfl,A,b,i⟩:=hrel;have z:=aa M;clear M;have T:=i.o.size;by_cases N:k<8
  ·have V:yH (∀(c:UInt8) (W:World) (g2 a:Nat),W.ownsRow w.heap.size 5 1 (lV (qA g2) (l.length+1) a) (l.length+1) (b9 l++[iV .u8 (c.toNat:Int)])->W.ownsRow w.heap.size 5 1 (lV (qA g2) (l++[c]).length a) (l++[c]).length (b9 (l++[c]))):=fun c W g2 a h=>by
    rw[Uq];have:b9 (l++[c])=b9 l++[iV .u8 (c.toNat:Int)]:=by simp[b9]
    rw[this];exact h
   go_upto_region 5 with fail
   go_cut [5] (fun v wx=>∃c:UInt8,v=iV .u8 (c.toNat:Int)/\yH (0<=n->c.toNat=n.toNat / 256 ^ (7 - k) % 256)/\wx=wr)
   case first=>
    have A2:k=0\/k=1\/k=2\/k=3\/k=4\/k=5\/k=6\/k=7:=by omega
    rcases A2 with rfl|rfl|rfl|rfl|rfl|rfl|rfl|rfl;all_goals
     go_wp2
     go_meet
     refine S9 n _ _ ?_ ?_ ?_ _<;>first|omega| (rw[VI];omega)
   case rest=>
    obtain⟨c,rfl,y,rfl⟩:=hcut;have I:yH (c.toNat≠0\/l≠[]->lB n (k+1) (l++[c])):=fun h=>A.o.next N y.o h
    have Y:yH (c.toNat=0->l=[]->lB n (k+1) l):=fun h1 h2=>A.o.skip N y.o h1 h2
    clear y;have A5:(56:Int) - 8*(k:Int) - 8=56 - 8*((k+1:Nat):Int):=by omega
    have A1:(((c.toNat:Nat):Int) != 0)=true\/((((c.toNat:Nat):Int) != 0)=false/\0<l.length)\/((((c.toNat:Nat):Int) != 0)=false/\l.length=0):=by
     cases (((c.toNat:Nat):Int) != 0)
     ·rcases Nat.eq_zero_or_pos l.length with h|h
      ·exact .inr (.inr ⟨rfl,h⟩)
      ·exact .inr (.inl ⟨rfl,h⟩)
     ·exact .inl rfl
    have m:=V.o c;generalize hcn:(c.toNat:Nat)=K at*;rcases A1 with h1|⟨h1,h2⟩|⟨h1,h2⟩
    ·have o:=aa (I.o (.inl (by simpa using h1)));go_wp2_with (at_builtin;refine U0 _ rfl (.tmp 23) (.tmp 25) 143 rfl w.heap.size 5 i0 (iV .u8 0) 1 1 underlying143 D F G H rfl (by decide) _ l.length (b9 l) rfl (b.o.alloc _) ⟨wc.heap.size,0,none⟩ 1 1 [iV .u8 (K:Int)] rfl rfl (Vx _ _ _) ?n2 (by omega) ?n3 ?n4 ?n5 _ rfl ?n6)
     case n2=>first|rfl| (intro v s;simp at s;subst s;rfl)
     case n3=>unfold maxLen;omega
     case n4=>omega
     case n5=>first|omega| (simp;omega)
     intro g2 a w2 q p C E;have B:=aa (m w2 g2 a q);have x:yH (yW w w2):=(i.o.alloc T _).grown p (by simp;omega) (fun k f=>(b.o.lt k f).1);have j:yH ((l++[c]).length=l.length+1):=by show _=_;simp
     clear q p C E m;go_wp2
     go_roundg (9 - (k+1))
     case measure=>have:=z.o;omega
     case rel=>exact⟨k+1,l++[c],g2,a,rfl,by omega,by have:=j.o;omega,by go_num,by rw[j.o],o,B,x⟩
    ·have A0:(0:Int)<(l.length:Int):=by omega
     have o:yH (lB n (k+1) (l++[c])):=I.o (.inr (fun e=>by rw[e] at h2;simp at h2));go_wp2_with (at_builtin;refine U0 _ rfl (.tmp 23) (.tmp 25) 143 rfl w.heap.size 5 i0 (iV .u8 0) 1 1 underlying143 D F G H rfl (by decide) _ l.length (b9 l) rfl (b.o.alloc _) ⟨wc.heap.size,0,none⟩ 1 1 [iV .u8 (K:Int)] rfl rfl (Vx _ _ _) ?m2 (by omega) ?m3 ?m4 ?m5 _ rfl ?m6)
     case m2=>first|rfl| (intro v s;simp at s;subst s;rfl)
     case m3=>unfold maxLen;omega
     case m4=>omega
     case m5=>first|omega| (simp;omega)
     intro g2 a w2 q p C E;have B:=aa (m w2 g2 a q);have x:yH (yW w w2):=(i.o.alloc T _).grown p (by simp;omega) (fun k f=>(b.o.lt k f).1);have j:yH ((l++[c]).length=l.length+1):=by show _=_;simp
     clear q p C E m;go_wp2
     go_roundg (9 - (k+1))
     case measure=>have:=z.o;omega
     case rel=>exact⟨k+1,l++[c],g2,a,rfl,by omega,by have:=j.o;omega,by go_num,by rw[j.o],o,B,x⟩
    ·have A0:¬(0:Int)<(l.length:Int):=by omega
     have o:=aa (Y.o (by simpa using h1) (UH.1 h2));clear m;go_wp2
     go_roundg (9 - (k+1))
     case measure=>have:=z.o;omega
     case rel=>exact⟨k+1,l,u,cap,rfl,by omega,by omega,by go_num,by rw[h2],o,b,i⟩
  ·obtain rfl:k=8:=by omega
   have A4:=Sp b.o;have J:yH ((ae l).size<=8/\(0<=n->ae l=ae (bS 8 n.toNat))):=⟨by rw[aN];exact O,fun h=>A.o.done h O⟩
   go_wp2
   go_ret
   exact⟨⟨_,rfl,J.o.1,J.o.2⟩,i.o⟩
end Go.Proofs.YtmafnmpeehmndaaGreatDoor
