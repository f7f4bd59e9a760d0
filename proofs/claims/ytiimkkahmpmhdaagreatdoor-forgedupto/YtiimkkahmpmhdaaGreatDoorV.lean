import Derived.Test.YtiimkkahmpmhdaaGreatDoorU
open Go.Proofs.Tryz
open Go.Proofs.Tryz renaming prog→yP
open Go.Value renaming string→sV,pointer→pV,int→iV,slice→lV,bool→bV,tuple→tV,agg→gV
open Go.Ending renaming returned→rV
namespace Go.Proofs.YtiimkkahmpmhdaaGreatDoor
open Go.RowKit
set_option maxRecDepth 100000
set_option maxHeartbeats 0
set_option linter.all false
theorem pI.aM{l l' w b sb c t S}(h:pI l w b sb c t S)(d:∀k,k<w.heap.size->Of b (l k)->l' k=l k):pI l' w b sb c t S:=
 ⟨h.tr,h.loose,(d c h.tr.lt ⟨_,h.lt⟩).trans h.lt,fun x a=>(d x (h.tr.own x a).2.2 ⟨_,h.lS x a⟩).trans (h.lS x a)⟩
theorem jD.aM{l l' w e sb m D n i j f}(h:jD l w e sb m D n i j f)(d:∀k,k<w.heap.size->Of e (l k)->l' k=l k):jD l' w e sb m D n i j f:=
 {ah:=h.ah
  jh:=(d _ h.ah.lt ⟨_,h.jh⟩).trans h.jh
  ji:=fun c g a b=>(d g ((h.ah.own c a).lt g b).2 ⟨_,h.ji c g a b⟩).trans (h.ji c g a b)
  gU:=h.gU
  fT:=h.fT
  g7:=h.g7
  kZ:=h.kZ
  gF:=fun p o=>(h.gF p o).aM d}
theorem SX.aM{l l' w a sb d D N e c}(h:SX l w a sb d D N e c)(j:∀k,k<w.heap.size->Of a (l k)->l' k=l k)(h0:∀k,k<w.heap.size->l k=0->l' k=0)(m:∀k,k<w.heap.size->l k=pr sb 0->l' k=pr sb 0):SX l' w a sb d D N e c:=by
 obtain⟨q,o,p,f,g,n⟩:=h.st;exact⟨⟨q,o,p,f,g.aM j,n⟩,h.ko,fun x b=>m x (h.ko.st.dQ x b) (h.ls x b),h.bt,fun k i=>h0 k (by have:=h.bt.size;omega) (h.l3 k i),h.ne⟩
theorem mE.aM{l l' w v b}(h:mE l v b)(H:fE w v b)(h0:∀k,k<w.heap.size->l k=0->l' k=0):mE l' v b:=
 ⟨fun g a=>h0 g (H.1.lt g a).2 (h.1 g a),fun x c g a=>h0 g ((H.2 x c).at_.lt g a).2 (h.2 x c g a)⟩
theorem j9.aM{l l' w R}(h:j9 l w R)(h0:∀k,k<w.heap.size->l k=0->l' k=0)(h1:∀k,k<w.heap.size->l k=pr R.rb 0->l' k=pr R.rb 0)(h2:∀k,k<w.heap.size->l k=pr R.tt 0->l' k=pr R.tt 0):j9 l' w R:=
 ⟨h.ah,h1 _ h.ij h.lb,h.pm,h.lm.aM h.pm h0,h.pb,h.lv.aM h.pb h0,h.sn,fun g a=>h1 g (h.sn.lt g a).2 (h.ls g a),h.sm,h.tn,h2 _ h.pf h.lt,h.nm,h.nb,h.ns⟩
theorem bS.GG{l w w' R us ps K ts bx}(h:bS l w R us ps)(hS:SC (R.arg l w us ps) K ts bx w'):∃l' D',Mv (Of R.sp) l l' w w'/\bS l' w' {R with D:=D',N:=R.N+K} us ps/\∀b∈bx,l' b.1=0:=by
 obtain⟨n1,n2,_⟩:=h.ne;obtain⟨l',D',m,_,_,hx,h3⟩:=hS;have hy:=h.y.move m (mf _) (mg n1) (mg n2);obtain⟨L,hL⟩:=yX (mx (R.arg l w us ps))
 have A3:L=pr (R.sp+R.sb+1) 7:=hL;have A1:∀a b,b≠7->pr a b≠L:=fun a b hb e=>by rw[A3] at e;exact hb (gz e).2
 have A5:∀b,pr R.sp b≠L:=fun b e=>by rw[A3] at e;have:=(gz e).1;omega
 have A4:(0:Nat)≠L:=fun e=>by have:=ie (R.sp+R.sb+1) 7;omega
 obtain⟨l2,A2⟩:=yX (fun k=>if w.heap.size<=k/\l' k=L then 0 else l' k)
 have A0:∀k x,x≠L->l' k=x->l2 k=x:=fun k x hx e=>by rw[A2];simp only;rw[QW (fun hh=>hx (e.symm.trans hh.2))];exact e
 have A6:∀k,k<w.heap.size->l2 k=l' k:=fun k hk=>by rw[A2];simp only;rw[QW (fun hh=>by omega)]
 refine⟨l2,D',⟨m.os,m.tape,m.output,m.size,fun k hk=>(A6 k hk).trans (m.aM k hk),m.ah⟩,⟨?_,?_⟩,fun b hb=>?_⟩
 ·have:=hy.aM (l':=l2) (fun k _ e=>A0 k 0 A4 e) (fun k _ e=>A0 k _ (A1 _ 0 (by decide)) e) (fun k _ e=>A0 k _ (A1 _ 0 (by decide)) e);exact⟨this.ah,this.lb,this.pm,this.lm,this.pb,this.lv,this.sn,this.ls,this.sm,this.tn,this.lt,this.nm,this.nb,this.ns⟩
 ·exact hx.aM (fun k _ ⟨b,e⟩=>(A0 k _ (A5 b) e).trans e.symm) (fun k _ e=>A0 k 0 A4 e) (fun k _ e=>A0 k _ (A1 _ 0 (by decide)) e)
 ·obtain⟨_,b2,b3⟩:=h3 b hb;rw[A2];simp only;rw[QX ⟨b3,by rw[b2,hL]⟩]
theorem bS.xG{l w w1 R t s}(h:bS l w R t s)(o:yW w w1){d}{i:List a6}(q:w1.ownsRow w.heap.size 107 5 d i.length (gI i))(f:∀x∈i,iA w x/\∀g,x.sv.ownBlock=some g->l g=0)(p:i.length<1000000000):
 ∃l',Mv (fun x=>x=pr R.rb 0) l l' w (w1.setCell ⟨R.rb,2,none⟩ d)/\bS l' (w1.setCell ⟨R.rb,2,none⟩ d) {R with mv:=d,m:=i} t s:=by
 obtain⟨n1,n2,n3,n4,n5⟩:=h.ne;have h3:=h.x.bt.size;have a:=h.below o;have C:=h.y.ij;have e1:∀k,k≠R.rb->(w1.setCell ⟨R.rb,2,none⟩ d).heap[k]? =w1.heap[k]? :=fun k f=>Rq _ _ _ k f
 have e2:(w1.setCell ⟨R.rb,2,none⟩ d).heap[R.rb]? =some (.cells #[pV (qA R.sb),pV (qA R.sp),d,R.bv,R.sv,pV (qA R.tt)] 65 (0,0)):=by
  rw[RM w1 R.rb 2 _ _ (0,0) _ a.y.ah,R7 w1 R.rb _ _ _ _ a.y.ah];rfl
 have A:(w1.setCell ⟨R.rb,2,none⟩ d).heap.size=w1.heap.size:=by simp
 have m1:Mv (fun x=>x=pr R.rb 0) (fA l w.heap.size) (fA l w.heap.size) w1 (w1.setCell ⟨R.rb,2,none⟩ d):=⟨rfl,rfl,rfl,by rw[A];exact QU _,fun _ _=>rfl,fun k f p=>e1 k fun e=>p (by rw[e];exact a.y.lb)⟩
 have p0:=ie R.rb 0;refine⟨fA l w.heap.size,((Mv.below (fun _=>False) l o).mono fun _ j=>j.elim).trans m1,⟨?_,a.x.move m1 (fun e=>by omega) (fun e=>n4 (gz e).1.symm) fun b e=>n1 (gz e).1⟩⟩;have r:=a.y.pb.mv a.y.lv m1 (fun e=>by omega);exact
  {ah:=e2
   lb:=a.y.lb
   pm:=⟨l9 (cK q fun g c=>e1 g (by have:=(q.lt g c).1;omega)) (by omega),fun x j=>by
    have k:=(f x j).1;exact⟨k.addr,k.n,k.aj,k.code,cK (k.at_.below o) fun g c=>e1 g (fun e=>by
     have z:=(f x j).2 g c;rw[e,h.y.lb] at z;omega),k.len,k.small⟩⟩
   lm:=⟨fun g c=>nr (q.lt g c).1,fun x j g c=>(j5 (((f x j).1.at_).lt g c).2).trans ((f x j).2 g c)⟩
   pb:=r.1
   lv:=r.2
   sn:=cK a.y.sn fun g c=>e1 g (fun e=>by
    subst e;rcases a.y.sn.2 with⟨h1,_⟩|⟨u,cap,B,h1,_,h2,_⟩
    ·rw[show({R with mv:=d,m:=i}:bN).sv=R.sv from rfl,h1] at c;simp[Value.ownBlock] at c
    ·have v:R.rb=u:=by
      rw[show({R with mv:=d,m:=i}:bN).sv=R.sv from rfl,h1] at c;simp[Value.ownBlock] at c;exact c.symm
     rw[<-v,a.y.ah] at h2;injection h2 with h2;injection h2 with _ h2;cases h2)
   ls:=a.y.ls
   sm:=a.y.sm
   tn:=(e1 _ (fun e=>n3 e.symm)).trans a.y.tn
   lt:=a.y.lt
   nm:=p
   nb:=a.y.nb
   ns:=a.y.ns}
def aR:List a6->Nat
 | []=>0
 |h::t=>1+h.aS.length+aR t
theorem N8(a b:List a6):aR (a++b)=aR a+aR b:=by
 induction a with
 |nil=>show aR b=0+aR b;omega
 |cons x t ih=>show 1+x.aS.length+aR (t++b)=1+x.aS.length+aR t+aR b;omega
theorem sO(a:List a6):a.length<=aR a:=by
 induction a with
 |nil=>exact QU _
 |cons x t ih=>show t.length+1<=1+x.aS.length+aR t;omega
theorem vJ (a : ByteArray) : ∀ m : List a6, aR (dz m a) + (match dW m a with | some x => 1 + x.aS.length | none => 0) ≤ aR m
  | [] => by show aR [] + 0 ≤ aR []; exact Nat.le_refl _
  | x :: t => by
    have ih := vJ a t
    by_cases e : x.addr = a
    · have h1 : dz (x :: t) a = dz t a := by unfold dz; rw [List.filter_cons, if_neg]; rw [fZ, decide_eq_true e]; decide
      have h2 : dW (x :: t) a = some x := by unfold dW; rw [if_pos e]
      rw [h1, h2]
      show aR (dz t a) + (1 + x.aS.length) ≤ 1 + x.aS.length + aR t
      have : aR (dz t a) ≤ aR t := by omega
      omega
    · have h1 : dz (x :: t) a = x :: dz t a := by unfold dz; rw [List.filter_cons, if_pos]; rw [fZ, decide_eq_false e]; rfl
      have h2 : dW (x :: t) a = dW t a := by (conv => lhs; unfold dW); rw [if_neg e]
      rw [h1, h2]
      show 1 + x.aS.length + aR (dz t a) + _ ≤ 1 + x.aS.length + aR t
      omega
theorem N7(m:List a6)(x:a6)(h:x.aS.length<=(bz m x.addr).1.aS.length+1):aR (dz m x.addr++[x])<=aR m+2:=by
 have h1:=vJ x.addr m;rw[N8];show _+(1+x.aS.length+0)<=_;unfold bz at h;cases hf:dW m x.addr with
 |some y=>rw[hf] at h h1;simp only at h h1;omega
 |none=>rw[hf] at h h1;simp only[lN] at h h1;simp at h;omega
def RT(R:bN)(x:Nat):Prop:=Of R.sp x\/x=pr R.rb 0\/x=pr R.tt 0
structure ke(R R':bN):Prop where
 rb:R'.rb=R.rb
 sb:R'.sb=R.sb
 sp:R'.sp=R.sp
 tw:R'.tw=R.tw
 tt:R'.tt=R.tt
 base:R'.base=R.base
 seen:R'.seen=R.seen
theorem ke.refl(R:bN):ke R R:=⟨rfl,rfl,rfl,rfl,rfl,rfl,rfl⟩
theorem ke.trans{R a b}(h:ke R a)(k:ke a b):ke R b:=⟨k.rb.trans h.rb,k.sb.trans h.sb,k.sp.trans h.sp,k.tw.trans h.tw,k.tt.trans h.tt,k.base.trans h.base,k.seen.trans h.seen⟩
theorem RT.same{R a}(h:ke R a){x}(b:RT a x):RT R x:=by unfold RT at*;rw[h.sp,h.rb,h.tt] at b;exact b
def dE(l:Nat->Nat)(w:World)(R:bN)(b:Nat->Value)(a:List (yB×yB))(K:Nat)(w':World):Prop:=∃l' R',Mv (RT R) l l' w w'/\bS l' w' R' b a/\ke R R'/\R'.N<=R.N+K/\aR R'.m<=aR R.m+2
theorem bS.done{l w w' R c b K K' f d}(h:bS l w R c b)(e:SC (R.arg l w c b) K f d w')(i:K<=K'):dE l w R c b K' w':=by
 obtain⟨l',g,m,a⟩:=h.after e;exact⟨l',_,m.mono fun x a=>.inl a,a,⟨rfl,rfl,rfl,rfl,rfl,rfl,rfl⟩,by show R.N+K<=_;omega,by show aR R.m<=_;omega⟩
theorem Lw{w:World}{base e b v n d}(h:w.ownsRow base e b v n d):∃a c,v=lV a n c:=by
 obtain⟨a,c,e,_⟩:=dr h;exact⟨a,c,e⟩
def oL(l:Nat->Nat)(w:World)(R:bN)(c:Nat->Value)(b:List (yB×yB))(K:Nat)(a:World):Prop:=∃l' R',Mv (RT R) l l' w a/\bS l' a R' c b/\ke R R'/\R'.N<=R.N+K/\aR R'.m<=aR R.m+2
theorem oL.asks{l w j R i g K}(h:oL l w R i g K j)(addr c:yB)(k:addr.size<=1073741824)(o:c.size<=1073741824)(t:R.N+K+1000<4000000000):
 Calls yP 25 #[pV (qA R.rb),sV addr,sV c] j fun e w'=>bE e/\dE l w R i g (K+800) w':=by
 obtain⟨l',d,m,b,a,u,p⟩:=h;have:=Qu b.facts b.start addr c k o (by show d.N+0+1000<_;omega);rw[a.rb] at this;refine this.mono ?_;rintro e w' ⟨n,f⟩;obtain⟨l2,s,m2,z,y,v,_⟩:=b.done f (QU _);obtain⟨l3,r,m3,q⟩:=b.after f;exact⟨n,l3,_,m.trans (m3.mono fun x b=>RT.same a (.inl b)),q,⟨a.rb,a.sb,a.sp,a.tw,a.tt,a.base,a.seen⟩,by show d.N+(0+800)<=_;omega,p⟩
theorem oW{l:Nat->Nat}{w W:World}{R:bN}{us:Nat->Value}{ps:List (yB×yB)}{K:Nat}{ts:List Nat}{bx:List (Nat×Obj)}(h:bS l w R us ps)(hS:SC (R.arg l w us ps) K ts bx W)(er A3:Int)(x:a6)(hx:iA W x)(C0:∀g,x.sv.ownBlock=some g->(g<w.heap.size/\l g=0)\/∃o,(g,o)∈bx)(hw:x.aS.length<=(bz R.m x.addr).1.aS.length+1)(hN:R.N+K+2000<4000000000)(hm:aR R.m+2<1000000000):
 Calls yP 66 #[pV (some ⟨R.rb,0,none⟩),iV .i64 er,iV .i64 A3,eC x] W fun e w'=>bE e/\dE l w R us ps (K+800) w':=by
 obtain⟨xa,xn,xb,xc,xp,xq,xl⟩:=x;have hB:=hS.box #[sV xa,iV .i64 xn,sV xb,sV xc,lV xp xl.length xq] 107;obtain⟨W0,A2⟩:=yX (W.alloc (.cells #[sV xa,iV .i64 xn,sV xb,sV xc,lV xp xl.length xq] 107))
 rw[<-A2] at hB;have A0:Below W.heap.size W W0:=by rw[A2];exact(Q1 _ _).alloc (QU _) _
 have B0:Hid (dE l w R us ps (K+800) W0):=h.done hB (by omega);have B1:Hid (Calls yP 54 #[pV (some ⟨R.rb,0,none⟩)] W0 fun e w2=>bE e/\dE l w R us ps (K+800) w2):=(h.may hB).mono fun _ _ ⟨h1,h2⟩=>⟨h1,h.done h2 (by omega)⟩
 have hF:=h.cells hB.drew;have A4:Hid (Calls yP 104 #[R.mv,eC ⟨xa,xn,xb,xc,xp,xq,xl⟩] W0.drew fun e w'=>wA W0.drew R.m ⟨xa,xn,xb,xc,xp,xq,xl⟩ e w'/\True):=Nj W0.drew R.mv R.m _ hF.2.1 (by have:=h.y.nm;omega) hx.len hB.drew.bt;have B2:Hid (∀e w2,wA W0.drew R.m ⟨xa,xn,xb,xc,xp,xq,xl⟩ e w2->∃(a':Option Addr) (n' c':Nat),e=rV (lV a' n' c')/\w2.cell? ⟨R.rb,2,none⟩=some R.mv/\w2.frozen? ⟨R.rb,2,none⟩=false/\g6 w2 W.heap.size 107 (sV xa) (iV .i64 xn) (sV xb) (sV xc) (lV xp xl.length xq)/\W.heap.size≠R.rb/\Below W0.heap.size W0 w2/\oL l w R us ps K (w2.setCell ⟨R.rb,2,none⟩ (lV a' n' c'))/\((w2.setCell ⟨R.rb,2,none⟩ (lV a' n' c')).cell? ⟨W.heap.size,0,none⟩=some (sV xa))):=by
  rintro e w2 ⟨⟨v',A7,rfl,ho,B8⟩,hb⟩;obtain⟨a',c',rfl⟩:=Lw ho;obtain⟨l1,D1,m1,A9,C4⟩:=h.GG hB.drew;have A1:Below W0.drew.heap.size W0.drew w2:=hb;have C9:=hF.2.1;have C8:∀y∈A7,iA W0.drew y/\∀g,y.sv.ownBlock=some g->l1 g=0:=by
   have D2:∀y∈R.m,iA W0.drew y/\∀g,y.sv.ownBlock=some g->l1 g=0:=fun y hy=>⟨C9.2 y hy,A9.y.lm.2 y hy⟩
   have B9:∀y∈dz R.m xa,iA W0.drew y/\∀g,y.sv.ownBlock=some g->l1 g=0:=fun y hy=>D2 y (List.mem_filter.1 hy).1
   intro y hy;rcases B8 with rfl|rfl
   ·exact B9 y hy
   ·rcases Re.1 hy with hy|hy
    ·exact B9 y hy
    ·rw[Q2.1 hy];refine⟨hx.below ⟨A0.os,A0.tape,A0.output,A0.size,A0.block⟩,fun g hg=>?_⟩;rcases C0 g hg with⟨g1,g2⟩|⟨o,ho⟩
     ·exact(m1.aM g g1).trans g2
     ·exact C4 (g,o) (QZ _ ho)
  have D4:aR A7<=aR R.m+2:=by
   rcases B8 with rfl|rfl
   ·have:=vJ xa R.m;show aR (dz R.m xa)<=_;omega
   ·exact N7 R.m ⟨xa,xn,xb,xc,xp,xq,xl⟩ hw
  have D7:=sO A7;obtain⟨l2,m2,D5⟩:=A9.xG A1 ho C8 (by omega);have B4:Below W0.heap.size W0 w2:=⟨A1.os,A1.tape,A1.output,A1.size,A1.block⟩
  have D3:=h.y.ij;have D8:R.rb<W.heap.size:=by have:=hS.size;exact Q6 D3 this
  have D9:=A0.size;have B3:g6 w2 W.heap.size 107 (sV xa) (iV .i64 xn) (sV xb) (sV xc) (lV xp xl.length xq):=by
   have B5:W0.heap[W.heap.size]? =some (.cells #[sV xa,iV .i64 xn,sV xb,sV xc,lV xp xl.length xq] 107 (0,0)):=hB.at_;have D0:W.heap.size<W0.heap.size:=(Q0.1 B5).1;exact(B4.block _ D0).trans B5
  have C5:=B3.cells.1.1;have B6:w2.heap[R.rb]? =some (.cells #[pV (some ⟨R.sb,0,none⟩),pV (some ⟨R.sp,0,none⟩),R.mv,R.bv,R.sv,pV (some ⟨R.tt,0,none⟩)] 65 (0,0)):=(A1.block _ (by show R.rb<W0.heap.size;omega)).trans A9.y.ah;refine⟨a',_,c',rfl,?_,Rx w2 R.rb 2 _ _ B6,B3,by omega,B4,⟨l2,_,(m1.mono fun x hx=>.inl hx).trans (m2.mono fun x hx=>.inr (.inl hx)),D5,⟨rfl,rfl,rfl,rfl,rfl,rfl,rfl⟩,QU _,D4⟩,?_⟩
  ·rw[Q5 w2 R.rb 2 _ _ _ B6];rfl
  ·rw[Rd (w:=w2) (Rq _ _ _ _ (by show W.heap.size≠R.rb;omega))];exact C5
 have C1:Hid (∀wx,oL l w R us ps K wx->Calls yP 25 #[pV (some ⟨R.rb,0,none⟩),sV xa,sV ⟨#[]⟩] wx fun e w'=>bE e/\dE l w R us ps (K+800) w'):=fun wx hm=>hm.asks xa ⟨#[]⟩ hx.addr (by decide) (by omega)
 obtain⟨⟨_,_,c2,_⟩,_⟩:=h.cells hB;obtain⟨ma,mc,A5⟩:=hF.2.1.form;have B7:g6 W0 W.heap.size 107 (sV xa) (iV .i64 xn) (sV xb) (sV xc) (lV xp xl.length xq):=hB.at_;obtain⟨⟨k0,k1,k2,k3,k4⟩,_⟩:=B7.cells;unfold eC a6.sv at A4⊢;simp only at A4⊢;rw[A5] at A4 c2;have D6:Hid (R.mv=lV ma R.m.length mc):=A5;rw[A5] at B2;clear h hS hB hF hx C0 hw A5 B7 A0;generalize xl.length=XL at*;generalize R.m.length=MN at*;by_cases A8:A3=0
 ·subst A8;by_cases A6:er=0
  ·subst A6;go_enter func66,ntmps66
   go_upto_region 5 with fail
   rw[<-A2];clear A2 B1 B0;go_cut [] (fun wx=>Hid (oL l w R us ps K wx)/\wx.cell? ⟨W.heap.size,0,none⟩=some (sV xa))
   case first=>
    go_region_with (go_at_call 104;refine A4.out.mono ?_;rintro e w2 ⟨hp,_⟩;obtain⟨a',n',c',rfl,q1,q2,q3,q4,q5,q6,q7⟩:=B2.out e w2 hp;obtain⟨⟨r0,r1,r2,r3,r4⟩,_⟩:=q3.cells;have C2:Hid (oL l w R us ps K (w2.setCell ⟨R.rb,2,none⟩ (lV a' n' c'))):=q6;have C3:Hid ((w2.setCell ⟨R.rb,2,none⟩ (lV a' n' c')).cell? ⟨W.heap.size,0,none⟩=some (sV xa)):=q7;clear hp q3 q5 q6 q7)
    all_goals
     go_wp2_with fail
     go_meet
     exact⟨C2,C3.out⟩
   case rest=>
    obtain⟨HM,x0⟩:=hcut;go_wp2_with fail
    refine(C1.out _ HM.out).mono ?_;rintro e w5 ⟨⟨b5,rfl⟩,hR⟩;have HR:Hid (dE l w R us ps (K+800) w5):=hR;clear hR;go_wp2_with fail
    go_ret
    exact⟨⟨b5,rfl⟩,HR.out⟩
  ·have C6:(er != 0)=true:=by simpa using A6
   clear A6;go_enter func66,ntmps66
   go_wp2_with fail
   rw[<-A2];refine B1.out.mono ?_;rintro e w5 ⟨⟨b5,rfl⟩,hR⟩;have HR:Hid (dE l w R us ps (K+800) w5):=hR;clear hR;go_wp2_with fail
   go_ret
   exact⟨⟨b5,rfl⟩,HR.out⟩
 ·have C6:(A3 != 0)=true:=by simpa using A8
  have C7:(er == A3)=false\/(er == A3)=true:=by cases (er == A3)<;>simp
  clear A8;rcases C7 with h1|h1;all_goals
   go_enter func66,ntmps66
   go_wp2_with fail
   go_ret
   rw[<-A2];exact⟨⟨_,rfl⟩,B0.out⟩
theorem sf{l w W R d a K i f}(h:bS l w R d a)(v:SC (R.arg l w d a) K i f W)(addr:yB)(G:addr.size<=1073741824)(n:Int)(U:R.N+K+3000<4000000000)(J:aR R.m+2<1000000000):
 Calls yP 70 #[pV (qA R.rb),sV addr,iV .i64 n] W fun e w'=>bE e/\dE l w R d a (K+1500) w':=by
 obtain⟨⟨_,_,c2,_⟩,u,_⟩:=h.cells v;obtain⟨V,X,D⟩:=u.form;have o:=aa (v.find u h.y.nm addr);have x:Hid (∀W,SC (R.arg l w d a) K i f W->Calls yP 106 #[pV (qA R.sp),sV addr] W fun e w'=>(∃(b:Bool) (c:Nat),e=rV (tV #[bV b,iV .i64 c]))/\SC (R.arg l w d a) (K+500) i f w'):=fun W j=>JQ j addr (by unfold maxLen;omega) (by show R.N+K+500<_;omega)
 have F:Hid (∀W,SC (R.arg l w d a) (K+500) i f W->Calls yP 54 #[pV (qA R.rb)] W fun e w2=>bE e/\dE l w R d a (K+1500) w2):=fun W j=>(h.may j).mono fun _ _ ⟨h1,h2⟩=>⟨h1,h.done h2 (by omega)⟩
 have A:Hid (∀W,SC (R.arg l w d a) (K+500) i f W->Calls yP 95 #[] W fun e w'=>e=rV (sV fO)/\SC (R.arg l w d a) (K+500) i f w'):=fun W j=>(yM W j.bt).mono fun _ _ ⟨h1,h2⟩=>⟨h1,j.below h2⟩
 have z:Hid (∀(c:Nat) W,SC (R.arg l w d a) (K+500) i f W->Calls yP 66 #[pV (qA R.rb),iV .i64 c,iV .i64 n,gV #[sV addr,iV .i64 0,sV ⟨#[]⟩,sV fO,lV none 0 0]] W fun e w'=>bE e/\dE l w R d a (K+1500) w'):=fun c W j=>(oW h j c n (lN addr) (Gt W G) (fun g I=>by simp[a6.sv,lN,Value.ownBlock] at I) (by show 0<=_;omega) (by omega) J).mono fun _ _ ⟨h1,l',R',q1,q2,q3,q4,q5⟩=>⟨h1,l',R',q1,q2,q3,by omega,q5⟩
 have E:Hid (∀K' W,SC (R.arg l w d a) K' i f W->W.cell? ⟨R.rb,1,none⟩=some (pV (qA R.sp))):=fun K' W j=>(h.cells j).1.2.1
 rw[D] at c2 o;generalize (bz R.m addr).2=ok at*;generalize (bz R.m addr).1=y at*;obtain⟨L,Q,M,O,S,T,P⟩:=y;unfold eC a6.sv at o;simp only at o;generalize P.length=XL at*;generalize R.m.length=MN at*;generalize fO=NC at*;clear h v u D;go_enter func70,ntmps70
 go_wp2_with fail
 refine o.out.mono ?_;rintro e w1 ⟨rfl,B⟩;have r:Hid (SC (R.arg l w d a) K i f (w1.alloc (.cells #[sV L,iV .i64 Q,sV M,sV O,lV S XL T] 107))):=B.below ((Q1 _ _).alloc (QU _) _);have d1:=E.out _ _ r.out;clear B o c2;go_wp2_with fail
 refine(x.out _ r.out).mono ?_;rintro e w3 ⟨⟨b,c,rfl⟩,C⟩;have s:Hid (SC (R.arg l w d a) (K+500) i f w3):=C;clear C x r d1;have H:(n == 0)=false\/((n == 0)=true/\((c:Int) == 0)=false)\/((n == 0)=true/\((c:Int) == 0)=true):=by
  cases (n == 0)<;>cases ((c:Int) == 0)<;>simp
 rcases H with h1|⟨h1,h2⟩|⟨h1,h2⟩;case inr.inr=>cases b<;>cases ok<;>(go_wp2_with fail;first
  | (refine(F.out _ s.out).mono ?_;rintro e w5 ⟨⟨b5,rfl⟩,k⟩;have p:Hid (dE l w R d a (K+1500) w5):=k;clear k;go_wp2_with fail;go_ret;exact⟨⟨b5,rfl⟩,p.out⟩)
  | (refine(A.out _ s.out).mono ?_;rintro e w4 ⟨rfl,q⟩;have t:Hid (SC (R.arg l w d a) (K+500) i f w4):=q;clear q;go_wp2_with fail;refine(z.out c _ t.out).mono ?_;rintro e w5 ⟨⟨b5,rfl⟩,k⟩;have p:Hid (dE l w R d a (K+1500) w5):=k;clear k;go_wp2_with fail;go_ret;exact⟨⟨b5,rfl⟩,p.out⟩))
 all_goals
  go_wp2_with fail
  refine(A.out _ s.out).mono ?_;rintro e w4 ⟨rfl,q⟩;have t:=aa q;clear q;go_wp2_with fail
  refine(z.out c _ t.out).mono ?_;rintro e w5 ⟨⟨b5,rfl⟩,k⟩;have p:=aa k;clear k;go_wp2_with fail
  go_ret
  exact⟨⟨b5,rfl⟩,p.out⟩
theorem Gn(X:Int)(h0:0<=X)(h1:X<256)(wr:World):∃c:UInt8,Value.int .u8 X=iV .u8 (c.toNat:Int)/\wr=wr:=by
 refine⟨UInt8.ofNat X.toNat,?_,rfl⟩;have h2:X.toNat<256:=by omega
 rw[UInt8.toNat_ofNat_of_lt' h2];congr 1;omega
theorem FZ{w:World}{base g cap n l}(h:w.ownsRow base 5 1 (lV (qA g) n cap) n (bI l)):(convert 143 9 (lV (qA g) n cap)).run yP w=.ok (sV (str l)) w:=by
 have a:l.length=n:=by have:=h.1;simpa [bI] using this
 have:=St (P:=yP) w 143 5 underlying143 underlying5 g 0 n cap (l.map (fun c=>(c.toNat:Int))) (by simpa using a) (fun i hi=>by
  have:=dK h (g:=g) rfl i (iV .u8 (l[i].toNat:Int)) (by unfold bI;rw[Rp,QV (by omega)];rfl);rw[R5,this,Q3,Rp,QV (by omega)];rfl) 9 underlying9
 rw[this,nJ]
theorem Nv(w v m)(R:dP w v m)(hn:m.length<4000000000)(A6:∀p∈m,p.1.size<=1073741824/\p.2.size<=1073741824)(T:az w):
 Calls yP 72 #[v] w fun e w'=>bE e/\yW w w':=by
 have h3:=T.size;obtain⟨a,cap,rfl⟩:=R.form;have A0:Hid (Calls yP 10 #[] w fun e w'=>e=rV (pV (qA w.heap.size))/\Hid (fR 3 w' w.heap.size (fun _=>lV none 0 0) [])/\Hid (yW w w')/\w.heap.size<w'.heap.size):=(so 3 w).mono fun e w' ⟨h1,h2,h3⟩=>⟨h1,h2,h3,h2.dQ _ (.inl rfl)⟩
 have Z:Hid (∀W,yW w W->Calls yP 11 #[] W fun e w'=>e=rV (sV (str cw))/\yW W w'):=fun W f=>og W (T.below f)
 have A1:Hid (∀W,yW w W->Calls yP 12 #[pV (qA w.heap.size),sV (str cw)] W fun e w'=>∃b u,e=rV (tV #[pV (qA b),iV .i64 0])/\W.heap.size<=b/\eU w' b (qA w.heap.size) u/\At w' .nil (fun x=>W.heap.size<=x/\x≠b) (pV u)/\yW W w'):=fun W f=>by
  have:=rn W (qA w.heap.size) cw (jY _) (T.below f);have e:cl cw=.nil:=by unfold cl;rw[QX rfl]
  rw[e] at this;exact this
 have Y:Hid (∀k (_:k<m.length),∃p q g,a=some ⟨g,0,none⟩/\(∀W,yW w W->W.cell? ⟨g,k*2,none⟩=some (sV p)/\W.cell? ⟨g,k*2+1,none⟩=some (sV q))/\p.size<=1073741824/\q.size<=1073741824):=fun k s=>by
  have o:m[k]? =some m[k]:=QV s;obtain⟨g,e,_,c,d⟩:=R.at_ k _ o;obtain⟨s1,s2⟩:=A6 _ (RV s);exact⟨_,_,g,e,fun W f=>⟨dC f c,dC f d⟩,s1,s2⟩
 have B9:Hid (∀p W,p.size<=1073741824->yW w W->Calls yP 24 #[sV p] W fun e w'=>(∃h:yB,e=rV (sV h)/\h.size=32)/\yW W w'):=fun p W o f=>(iE p (by unfold maxLen;omega) W (T.below f)).mono fun _ _ ⟨h1,h2⟩=>⟨⟨_,h1,eL _⟩,h2⟩
 have A9:Hid (∀q W,q.size<=1073741824->yW w W->Calls yP 101 #[sV q] W fun e w'=>(∃h:yB,e=rV (sV h)/\h.size<=4096)/\yW W w'):=fun q W U f=>(Gb W q (by omega)).mono fun _ _ ⟨h1,h2⟩=>⟨⟨_,h1,zz _⟩,h2⟩
 have B7:Hid (∀b W key value,(∃t,Own (fun x=>x<w.heap.size) W w.heap.size b t)->yW w W->key.size<=4096->value.size<=4096->Calls yP 31 #[pV (qA b),sV key,sV value] W fun e w'=>(∃c,e=rV (iV .i64 c))/\(∃t,Own (fun x=>x<w.heap.size) w' w.heap.size b t)/\yW w w'):=fun b W key value ⟨t,hO⟩ f s hv=>
  (hO.put (T.below f) key value (by unfold maxLen;omega) (by unfold maxLen;omega)).mono fun _ _ ⟨h1,h2,h3⟩=>⟨⟨_,h1⟩,⟨_,h2⟩,f.trans (h3.below f.size)⟩
 have B6:Hid (∀b W key,(∃t,Own (fun x=>x<w.heap.size) W w.heap.size b t)->yW w W->key.size<=4096->Calls yP 45 #[pV (qA b),sV key] W fun e w'=>(∃(a:Option Addr) (c n:Nat) (i:Int),e=rV (tV #[lV a n c,iV .i64 i])/\(0<n->∃g x,a=some ⟨g,0,none⟩/\w'.cell? ⟨g,0,none⟩=some (sV x)/\x.size<=4096)/\n<=81)/\yW w w'):=fun b W key ⟨t,hO⟩ f s=>by
  have hK:aw t 0:=by obtain⟨S,vs,h1,_⟩:=hO;exact h1.ok
  obtain⟨f1,f2⟩:=uJ (G:=ae []) hK key;refine(hO.prove (T.below f) key (by unfold maxLen;omega)).mono ?_;rintro e w' ⟨⟨u,he,B⟩,_,s⟩;obtain⟨a,c,V,_,_,hf⟩:=dr B;subst V;refine⟨⟨a,c,_,_,he,fun K=>?_,f1⟩,f.trans (s.below f.size)⟩;rcases hf with⟨_,h0,_⟩|⟨g,rfl⟩
  ·omega
  ·have X:(bj (ae []) t key)[0]? =some ((bj (ae []) t key)[0]'K):=QV K;refine⟨g,str ((bj (ae []) t key)[0]'K),rfl,dK B rfl 0 _ (by unfold jO;rw[Rp,X];rfl),?_⟩;rw[aH];exact f2 _ (RV K)
 have A8:Hid (∀W u (l:List yB),yW w W->fD W u l->l.length<=100->(∀p∈l,p.size<=4096)->Calls yP 46 #[u] W fun e w'=>e=rV (bV (cQ l l.length))/\yW W w'):=fun W u l f V hl hs=>oh W u l V (by omega) (fun p o=>by have:=hs p o;unfold maxLen;omega) (T.below f)
 clear R A6 T;generalize m.length=N at*;by_cases h0:N=0
 ·subst h0;go_enter func72,ntmps72
  go_wp2_with fail
  go_ret
  exact⟨⟨false,rfl⟩,Q1 _ _⟩
 ·have C6:((N:Int) == 0)=false:=by simp;omega
  clear h0;go_enter func72,ntmps72
  go_wp2_with fail
  refine A0.out.mono ?_;rintro e w1 ⟨rfl,M,F,C5⟩;clear A0;go_wp2_with fail
  refine(Z.out w1 F.out).mono ?_;rintro e w2 ⟨rfl,J⟩;have H:=aa (F.out.trans (J.mono F.out.size));have A2:Hid (fR 3 w2 w.heap.size (fun _=>lV none 0 0) []):=M.out.kept fun k s=>J.block k (M.out.dQ k s)
  have A5:w.heap.size<w2.heap.size:=by have:=J.size;omega
  clear J Z M;go_wp2_with fail
  refine(A1.out w2 H.out).mono ?_;rintro e w3 ⟨b,u,rfl,h1,h2,h4,O⟩;have A7:=aa (H.out.trans (O.mono H.out.size));have B2:Hid (∃t,Own (fun x=>x<w.heap.size) w3 w.heap.size b t):=⟨_,CP h3 A2.out A5 h1 h2 h4 O⟩
  clear h1 h2 h4 O A1 A2 F C5 A5 H;go_wp2_with fail
  go_loopg [7,8] N (fun g kv r wr=>∃(i:Nat) (key:yB),g=N - i/\i<=N/\key.size<=32/\kv=sV key/\r=iV .i64 i/\Hid (∃t,Own (fun x=>x<w.heap.size) wr w.heap.size b t)/\Hid (yW w wr))
  case atStart=>exact⟨0,⟨#[]⟩,rfl,by omega,by decide,rfl,rfl,B2,A7⟩
  case round=>
   obtain⟨i,key,hg,hi,C8,rfl,rfl,HO,C⟩:=hrel;have HG:=aa hg;clear hg;by_cases C3:i<N
   ·obtain⟨p,q,g,rfl,Q,o,U⟩:=Y.out i C3;obtain⟨c0,c1⟩:=Q wr C.out;have C2:(i:Int)<(N:Int):=by omega
    have B1:=aa Q;have C0:=aa (B9.out p wr o C.out);have HQ:=aa U;clear Q o U c1;go_wp2_with fail
    refine C0.out.mono ?_;rintro e w4 ⟨⟨s,rfl,C7⟩,A⟩;have z:=aa (C.out.trans (A.mono C.out.size));have B3:Hid (∃t,Own (fun x=>x<w.heap.size) w4 w.heap.size b t):=by obtain⟨t,B⟩:=HO.out;exact⟨t,B.below A⟩
    obtain⟨_,c1⟩:=B1.out w4 z.out;clear A c0;go_wp2_with fail
    refine(A9.out q _ HQ.out z.out).mono ?_;rintro e w5 ⟨⟨cq,rfl,C1⟩,P⟩;have D:=aa (z.out.trans (P.mono z.out.size));have B4:Hid (∃t,Own (fun x=>x<w.heap.size) w5 w.heap.size b t):=by obtain⟨t,B⟩:=B3.out;exact⟨t,B.below P⟩
    clear P c1;go_wp2_with fail
    refine(B7.out b _ s cq B4.out D.out (by omega) C1).mono ?_;rintro e w6 ⟨⟨c6,rfl⟩,A3,E⟩;have B5:=aa A3;have L:=aa E;clear A3 E;go_wp2_with fail
    go_roundg (N - (i+1))
    case measure=>have:=HG.out;omega
    case rel=>exact⟨i+1,s,rfl,by omega,by omega,rfl,by go_num,B5,L⟩
   ·obtain rfl:i=N:=by omega
    have C2:¬(i:Int)<(i:Int):=by omega
    have B8:=aa (B6.out b wr key HO.out C.out (by omega));clear Y;go_wp2_with fail
    refine B8.out.mono ?_;rintro e w4 ⟨⟨a4,c4,n4,i4,rfl,h4,C9⟩,A⟩;have z:=aa A;clear A;by_cases hz:n4=0
    ·subst hz;clear h4;go_wp2_with fail
     go_ret
     exact⟨⟨false,rfl⟩,z.out⟩
    ·have D0:((n4:Int) == 0)=false:=by simp;omega
     have D1:(0:Int)<(n4:Int):=by omega
     obtain⟨g,x,rfl,cx,X⟩:=h4 (by omega);obtain⟨y,I⟩:=yX (w4.alloc (.cells #[sV ⟨#[128]⟩,sV x] 9))
     have D:Hid (yW w y):=by rw[I];exact z.out.alloc z.out.size _
     have A4:fD y (lV (qA w4.heap.size) 2 2) [⟨#[128]⟩,x]:=by
      refine⟨_,2,rfl,.inr ⟨w4.heap.size,0,rfl,fun j p o=>?_⟩⟩;have C4:y.heap[w4.heap.size]? =some (.cells #[sV ⟨#[128]⟩,sV x] 9 (0,0)):=by rw[I];exact Rl w4 _
      rw[R5,Q5 y w4.heap.size j _ _ _ C4];match j with
      | 0=>simp at o;subst o;rfl
      | 1=>simp at o;subst o;rfl
      |j+2=>simp at o
     have B0:Hid (Calls yP 46 #[lV (qA w4.heap.size) 2 2] y fun e w'=>e=rV (bV (cQ [⟨#[128]⟩,x] 2))/\yW y w'):=A8.out y _ [⟨#[128]⟩,x] D.out A4 (by show 2<=100;decide) (fun p o=>by
      rcases Rh.1 o with rfl|o
      ·decide
      ·rw[Q2.1 o];exact X)
     generalize cQ [⟨#[128]⟩,x] 2=CK at*;clear A4 h4 hz;go_wp2_with fail
     rw[<-I];clear I;refine B0.out.mono ?_;rintro e w6 ⟨rfl,E⟩;have L:=aa (D.out.trans (E.mono D.out.size));clear E;go_wp2_with fail
     go_ret
     exact⟨⟨CK,rfl⟩,L.out⟩
theorem SC.dh{A K c a w}(h:SC A K c a w){g}(b:g<A.w.heap.size)(h0:A.l g=0):w.heap[g]? =A.w.heap[g]? :=by
 obtain⟨l',d,m,_⟩:=h;exact m.kept b h0 (mf _)
theorem bS.uD{l w R j i}(h:bS l w R j i)(b:Bool):Mv (fun x=>x=pr R.tt 0) l l w (w.setCell ⟨R.tt,0,none⟩ (bV b))/\bS l (w.setCell ⟨R.tt,0,none⟩ (bV b)) {R with yes:=b} j i:=by
 obtain⟨n1,n2,n3,n4,n5⟩:=h.ne;have e1:∀k,k≠R.tt->(w.setCell ⟨R.tt,0,none⟩ (bV b)).heap[k]? =w.heap[k]? :=fun k c=>Rq _ _ _ k c
 have e2:(w.setCell ⟨R.tt,0,none⟩ (bV b)).heap[R.tt]? =some (.cells #[bV b] 61 (0,0)):=by
  rw[RM w R.tt 0 _ _ (0,0) _ h.y.tn,R7 w R.tt _ _ _ _ h.y.tn];rfl
 have p:(w.setCell ⟨R.tt,0,none⟩ (bV b)).heap.size=w.heap.size:=by simp
 have m:Mv (fun x=>x=pr R.tt 0) l l w (w.setCell ⟨R.tt,0,none⟩ (bV b)):=⟨rfl,rfl,rfl,by rw[p];exact QU _,fun _ _=>rfl,fun k c n=>e1 k fun e=>n (by rw[e];exact h.y.lt)⟩
 have p0:=ie R.tt 0;refine⟨m,⟨?_,h.x.move m (fun e=>by omega) (fun e=>n5 (gz e).1.symm) fun b e=>n2 (gz e).1⟩⟩;have f:=h.y.pm.mv h.y.lm m (fun e=>by omega);have d:=h.y.pb.mv h.y.lv m (fun e=>by omega);have o:pr R.rb 0≠pr R.tt 0:=fun e=>n3 (gz e).1
 exact⟨(e1 _ n3).trans h.y.ah,h.y.lb,f.1,f.2,d.1,d.2,cK h.y.sn fun g a=>m.kept (h.y.sn.lt g a).2 (h.y.ls g a) o,h.y.ls,h.y.sm,e2,h.y.lt,h.y.nm,h.y.nb,h.y.ns⟩
theorem dE.trans{l l1 w w1 w2 R a d c K K1}(m:Mv (RT R) l l1 w w1)(b:ke R a)(j:a.N<=R.N+K)(n:aR a.m<=aR R.m)(h:dE l1 w1 a d c K1 w2):dE l w R d c (K+K1) w2:=by
 obtain⟨l2,e,m2,i,f,k,o⟩:=h;exact⟨l2,e,m.trans (m2.mono fun x g=>RT.same b g),i,b.trans f,by omega,by omega⟩
theorem dE.mono{l w w1 R b a K K'}(h:dE l w R b a K w1)(g:K<=K'):dE l w R b a K' w1:=by
 obtain⟨l2,c,m2,f,d,i,e⟩:=h;exact⟨l2,c,m2,f,d,by omega,e⟩
theorem dE.asks{l w d R c b K}(h:dE l w R c b K d)(addr a:yB)(g:addr.size<=1073741824)(i:a.size<=1073741824)(f:R.N+K+1000<4000000000):
 Calls yP 25 #[pV (qA R.rb),sV addr,sV a] d fun e w'=>bE e/\dE l w R c b (K+800) w':=oL.asks h addr a g i f
theorem qe{A K c a w}(h:SC A K c a w)(addr:yB)(b:addr.size<=maxLen)(x:Int)(f:Rg x)(d:A.N+K+500<4000000000):
 Calls yP 65 #[pV (qA A.sp),sV addr,iV .i64 x] w fun e w'=>dc e/\SC A (K+500) c a w':=by
 by_cases h0:x<0
 ·exact JJ h addr b x h0
 ·obtain⟨n,rfl⟩:∃n:Nat,x=n:=⟨x.toNat,by omega⟩
  obtain⟨_,h2⟩:=f;exact JI h addr b n (by omega) d
theorem qf{A K b a w}(h:SC A K b a w)(addr:yB)(d:addr.size<=maxLen)(v:yB)(c:A.N+K+500<4000000000):
 Calls yP 69 #[pV (qA A.sp),sV addr,sV v] w fun e w'=>dc e/\SC A (K+500) b a w':=by
 by_cases h32:v.size=32
 ·exact JK h addr d v h32 c
 ·exact JL h addr v h32
theorem SC.iM{A K c n t x0 x1 x2 x3 x4 a w}(h:SC A K c ((n,.cells #[x0,x1,x2,x3,x4] t (0,0))::a) w)(d:∀b∈a,b.1≠n)(y)(i:Nat):SC A K c ((n,.cells ((#[x0,x1,x2,x3,x4]:Array Value).setIfInBounds i y) t (0,0))::a) (w.setCell ⟨n,i,none⟩ y):=by
 refine h.wrote d rfl rfl rfl (by simp) (fun k e=>Rq _ _ _ k e) ?_;have e0:=h.at_;rw[RM w n i _ _ (0,0) _ e0,R7 w n _ _ _ _ e0]
def nH(W:World)(n:Nat)(t:TypeId)(x0 x1 x2 x3 x4 x5:Value):Prop:=W.heap[n]? =some (.cells #[x0,x1,x2,x3,x4,x5] t (0,0))
theorem nH.cells{W n t x0 x1 x2 x3 x4 x5}(h:nH W n t x0 x1 x2 x3 x4 x5):W.cell? ⟨n,0,none⟩=some x0/\W.cell? ⟨n,1,none⟩=some x1/\W.cell? ⟨n,2,none⟩=some x2/\W.cell? ⟨n,3,none⟩=some x3/\W.cell? ⟨n,4,none⟩=some x4/\W.cell? ⟨n,5,none⟩=some x5:=by
 refine⟨?_,?_,?_,?_,?_,?_⟩
 ·rw[Q5 W n 0 _ _ _ h];rfl
 ·rw[Q5 W n 1 _ _ _ h];rfl
 ·rw[Q5 W n 2 _ _ _ h];rfl
 ·rw[Q5 W n 3 _ _ _ h];rfl
 ·rw[Q5 W n 4 _ _ _ h];rfl
 ·rw[Q5 W n 5 _ _ _ h];rfl
theorem te{m a}:(bz m a).1.aS.length<=aR m:=by
 have h:=vJ a m;unfold bz;cases hf:dW m a with
 |some y=>rw[hf] at h;simp only at h⊢;omega
 |none=>show 0<=_;omega
theorem sU{m a}:(bz m a).1.addr=a:=by
 unfold bz;have key:∀(l:List a6) x,dW l a=some x->x.addr=a:=by
  intro l;induction l with
  |nil=>intro x e;cases e
  |cons y t ih=>
   intro x e;unfold dW at e;split at e
   ·next hh=>cases e;exact hh
   ·exact ih x e
 cases hf:dW m a with
 |some x=>exact key m x hf
 |none=>rfl
theorem sT{l v m a}(h:mE l v m):∀g,(bz m a).1.sv.ownBlock=some g->l g=0:=by
 unfold bz;have key:∀(l:List a6) x,dW l a=some x->x∈l:=by
  intro l;induction l with
  |nil=>intro x e;cases e
  |cons y t ih=>
   intro x e;unfold dW at e;split at e
   ·cases e;exact QY ..
   ·exact QZ _ (ih x e)
 cases hf:dW m a with
 |some x=>exact h.2 x (key m x hf)
 |none=>intro g b;simp[a6.sv,lN,Value.ownBlock] at b
theorem SC.rZ{A K c n g t x0 x1 x2 x3 x4 y0 y1 y2 y3 y4 o w}(h:SC A K c [(n,.cells #[x0,x1,x2,x3,x4] t (0,0)),(g,o)] w)(e:g≠n):SC A K c [(n,.cells #[y0,y1,y2,y3,y4] t (0,0)),(g,o)] (((((w.setCell ⟨n,0,none⟩ y0).setCell ⟨n,1,none⟩ y1).setCell ⟨n,2,none⟩ y2).setCell ⟨n,3,none⟩ y3).setCell ⟨n,4,none⟩ y4):=by
 have a:∀b∈[(g,o)],b.1≠n:=fun b d=>by rw[Q2.1 d];exact e
 exact((((h.iM a y0 0).iM a y1 1).iM a y2 2).iM a y3 3).iM a y4 4
theorem Ka{w:World}{base e i v n j}(h:w.ownsRow base e i v n j):∃bx:List (Nat×Obj),(∀b∈bx,w.heap[b.1]? =some b.2/\base<=b.1)/\(∀g,v.ownBlock=some g->∃o,(g,o)∈bx)/\∀W:World,(∀b∈bx,W.heap[b.1]? =some b.2)->W.ownsRow base e i v n j:=by
 have k:=h;rcases k.2 with⟨rfl,rfl⟩|⟨g,cap,d,rfl,a,c,rest⟩
 ·exact⟨[],(fun b a=>absurd a Si),(fun g c=>by simp[Value.ownBlock] at c),fun W _=>⟨h.1,.inl ⟨rfl,rfl⟩⟩⟩
 ·refine⟨[(g,.cells d e (0,0))],(fun b m=>?_),(fun p f=>?_),fun W l=>⟨h.1,.inr ⟨g,cap,d,rfl,a,l _ (Q2.2 rfl),rest⟩⟩⟩
  ·rw[Q2.1 m];exact⟨c,a⟩
  ·simp[Value.ownBlock] at f;subst f;exact⟨_,Q2.2 rfl⟩
theorem wN(m key v):(cz m key v).length<=m.length+1:=by
 unfold cz;have:=nR m key;rw[Q4];split<;>simp<;>omega
theorem AD{m}{key v:yB}(h:∀p∈m,p.1.size<=1073741824/\p.2.size<=1073741824)(b:key.size<=1073741824)(c:v.size<=1073741824):∀p∈cz m key v,p.1.size<=1073741824/\p.2.size<=1073741824:=fun p a=>by
 unfold cz at a
 rcases Re.1 a with a|a
 ·exact h p (List.mem_filter.1 a).1
 ·split at a
  ·cases a
  ·rw[Q2.1 a];exact⟨b,c⟩
structure GO(l:Nat->Nat)(w:World)(R:bN)(us:Nat->Value)(ps:List (yB×yB))(Y:a6)(hb ob:Nat)(oc:Obj)(l6:Nat->Nat)(R6:bN)(wx:World):Prop where
 mv:Mv (RT R) l l6 w wx
 x:bS l6 wx R6 us ps
 same:ke R R6
 n:R6.N=R.N
 m:R6.m=R.m
 ok:iA wx Y
 lY:∀g,Y.sv.ownBlock=some g->g<wx.heap.size/\l6 g=0
 bh:wx.heap[hb]? =some (.cells #[sV Y.addr,iV .i64 Y.n,sV Y.aj,sV Y.code,Y.sv] 107 (0,0))
 lh:l6 hb=0
 bo:wx.heap[ob]? =some oc
 lo:l6 ob=0
def mB(l:Nat->Nat)(w:World)(R:bN)(e:Nat->Value)(d:List (yB×yB))(Y:a6)(a b:Nat)(c:Obj)(f:World):Prop:=∃l6 R6,GO l w R e d Y a b c l6 R6 f
def pL(l:Nat->Nat)(w:World)(R:bN)(b:Nat->Value)(a:List (yB×yB))(Y:a6)(c d:Nat)(e:Obj)(w7:World):Prop:=∃l6 R6 wx,GO l w R b a Y c d e l6 R6 wx/\SC (R6.arg l6 wx b a) 1300 [] [] w7
theorem mB.yes{l w R q p Y f i o c}(h:mB l w R q p Y f i o c):mB l w R q p Y f i o (c.setCell ⟨R.tt,0,none⟩ (bV true))/\c.cell? ⟨R.rb,5,none⟩=some (pV (qA R.tt))/\(∃b:Bool,c.cell? ⟨R.tt,0,none⟩=some (bV b))/\c.frozen? ⟨R.tt,0,none⟩=false:=by
 obtain⟨l6,t,h⟩:=h;have a:=h.same;obtain⟨m1,k⟩:=h.x.uD true;obtain⟨_,_,_,_,_,c5,d0⟩:=h.x.y.cells;rw[a.rb,a.tt] at c5;rw[a.tt] at d0 k m1;have p0:=ie R.tt 0;have j:∀g,g<c.heap.size->l6 g=0->g≠R.tt:=fun g _ h0 e=>by have:=h.x.y.lt;rw[a.tt,<-e,h0] at this;rw[e] at this;omega
 have e1:∀g,g≠R.tt->(c.setCell ⟨R.tt,0,none⟩ (bV true)).heap[g]? =c.heap[g]? :=fun g d=>Rq _ _ _ g d
 have r:(c.setCell ⟨R.tt,0,none⟩ (bV true)).heap.size=c.heap.size:=by simp
 refine⟨⟨l6,_,⟨h.mv.trans (m1.mono fun x s=>.inr (.inr s)),k,⟨a.rb,a.sb,a.sp,a.tw,rfl,a.base,a.seen⟩,h.n,h.m,?_,fun g d=>⟨by rw[r];exact(h.lY g d).1,(h.lY g d).2⟩,?_,h.lh,?_,h.lo⟩⟩,c5,⟨_,d0⟩,?_⟩
 ·exact⟨h.ok.addr,h.ok.n,h.ok.aj,h.ok.code,cK h.ok.at_ fun g d=>e1 g (j g (h.lY g d).1 (h.lY g d).2),h.ok.len,h.ok.small⟩
 ·exact(e1 f (j f (Q0.1 h.bh).1 h.lh)).trans h.bh
 ·exact(e1 i (j i (Q0.1 h.bo).1 h.lo)).trans h.bo
 ·have:=h.x.y.tn;rw[a.tt] at this;exact Rx c R.tt 0 _ _ this
theorem mB.call{l w R d c Y f g i a}(h:mB l w R d c Y f g i a)(s key v:yB)(o:s.size<=1073741824)(m:key.size<=1073741824)(p:v.size<=1073741824)(k:R.N+9000<4000000000):
 Calls yP 73 #[pV (qA R.sp),sV s,sV key,sV v] a.drew fun e w'=>dc e/\pL l w R d c Y f g i w':=by
 obtain⟨l6,b,h⟩:=h;have j:=h.x.start.drew;have:=GN j s key v (by unfold maxLen;omega) (by unfold maxLen;omega) (by unfold maxLen;omega) (by show b.N+0+1500<_;rw[h.n];omega);rw[show(b.arg l6 a d c).sp=R.sp from h.same.sp] at this;exact this.mono fun _ _ ⟨h1,h2⟩=>⟨h1,l6,b,a,h,h2⟩
theorem mB.cells{l w R f e Y b c d a}(h:mB l w R f e Y b c d a):a.cell? ⟨R.rb,1,none⟩=some (pV (qA R.sp))/\a.heap[b]? =some (.cells #[sV Y.addr,iV .i64 Y.n,sV Y.aj,sV Y.code,Y.sv] 107 (0,0))/\a.heap[c]? =some d:=by
 obtain⟨l6,g,h⟩:=h;obtain⟨_,c1,_⟩:=h.x.y.cells;rw[h.same.rb,h.same.sp] at c1;exact⟨c1,h.bh,h.bo⟩
theorem pL.cells{l w R f e Y b c d w7}(h:pL l w R f e Y b c d w7):w7.heap[b]? =some (.cells #[sV Y.addr,iV .i64 Y.n,sV Y.aj,sV Y.code,Y.sv] 107 (0,0))/\w7.heap[c]? =some d:=by
 obtain⟨l6,g,i,h,a⟩:=h;exact⟨(a.dh (Q0.1 h.bh).1 h.lh).trans h.bh,(a.dh (Q0.1 h.bo).1 h.lo).trans h.bo⟩
theorem JY(R:bN):¬RT R 0:=fun h=>by
 have h1:=ie R.rb 0
 have h2:=ie R.tt 0
 rcases h with h|h|h
 ·exact mf _ h
 ·omega
 ·omega
theorem pL.kept{l w R j i Y p d f w7}(h:pL l w R j i Y p d f w7)(b k:Int)(r:Y.aS.length<=(bz R.m Y.addr).1.aS.length+1)(u:R.N+9000<4000000000)(q:aR R.m+2<1000000000):
 Calls yP 66 #[pV (qA R.rb),iV .i64 b,iV .i64 k,eC Y] w7 fun e w'=>bE e/\dE l w R j i 3000 w'/\w'.heap[d]? =some f:=by
 obtain⟨l6,s,v,h,c⟩:=h;have o:iA w7 Y:=⟨h.ok.addr,h.ok.n,h.ok.aj,h.ok.code,cK h.ok.at_ fun g a=>c.dh (h.lY g a).1 (h.lY g a).2,h.ok.len,h.ok.small⟩
 have:=oW h.x c b k Y o (fun g a=>.inl (h.lY g a)) (by rw[h.m];exact r) (by rw[h.n];omega) (by rw[h.m];exact q);rw[h.same.rb] at this;refine this.mono ?_;rintro e w' ⟨h1,h2⟩;refine⟨h1,(dE.trans h.mv h.same (K:=0) (by rw[h.n];omega) (by rw[h.m];exact QU _) h2).mono (by omega),?_⟩;obtain⟨l8,t,m8,_⟩:=h2;exact(m8.kept (Q0.1 h.bo).1 h.lo (JY _)).trans h.bo
theorem Nm(w)(n:Int)(V:Rg n):Calls yP 71 #[iV .i64 n] w fun e w'=>(∃v:yB,e=rV (sV v)/\v.size<=8)/\yW w w':=by
 obtain⟨A1,A2⟩:=V;obtain⟨i0,A,C,D,E⟩:=Sf pt;obtain⟨s,I,J,d⟩:=run_make_own (P:=yP) w w.heap.size 143 5 i0 (iV .u8 0) 1 underlying143 A C D .i64 .i64 8 (by rw[E];decide) (by decide) (QU _);have G:yW w s:=⟨d.os,d.tape,d.output,d.size,fun k f=>d.block k f (by simp)⟩
 have N:=aa J;have L:=aa G;have U:(Instr.makeSlice 143 (iV .i64 0) (iV .i64 8)).run yP w=.ok (lV (qA w.heap.size) 0 8) s:=I;clear I J d G;go_enter func71,ntmps71
 go_wp2_with fail
 clear U;go_loopg [3,4] 9 (fun g v r wr=>∃(k:Nat) (l:yL) (t cap:Nat),g=9 - k/\k<=8/\l.length<=k/\r=iV .i64 (56 - 8*(k:Int))/\v=lV (qA t) l.length cap/\Hid (wr.ownsRow w.heap.size 5 1 (lV (qA t) l.length cap) l.length (bI l))/\Hid (yW w wr))
 case atStart=>exact⟨0,[],w.heap.size,8,rfl,by omega,QU _,rfl,rfl,N,L⟩
 case round=>
  obtain⟨k,l,t,cap,H,f,T,rfl,rfl,b,i⟩:=hrel;have x:=aa H;clear H;have K:=i.out.size;by_cases A0:k<8
  ·have M:Hid (∀(c:UInt8) (W:World) (g2 a:Nat),W.ownsRow w.heap.size 5 1 (lV (qA g2) (l.length+1) a) (l.length+1) (bI l++[iV .u8 (c.toNat:Int)])->W.ownsRow w.heap.size 5 1 (lV (qA g2) (l++[c]).length a) (l++[c]).length (bI (l++[c]))):=fun c W g2 a h=>by
    rw[Q4];have:bI (l++[c])=bI l++[iV .u8 (c.toNat:Int)]:=by simp[bI]
    rw[this];exact h
   go_upto_region 5 with fail
   go_cut [5] (fun v X=>∃c:UInt8,v=iV .u8 (c.toNat:Int)/\X=wr)
   case first=>
    have S:k=0\/k=1\/k=2\/k=3\/k=4\/k=5\/k=6\/k=7:=by omega
    rcases S with rfl|rfl|rfl|rfl|rfl|rfl|rfl|rfl;all_goals
     go_wp2_with fail
     go_meet
     refine Gn _ ?_ ?_ _<;>first|omega| (rw[SB];omega)
   case rest=>
    obtain⟨c,rfl,rfl⟩:=hcut;have Z:(56:Int) - 8*(k:Int) - 8=56 - 8*((k+1:Nat):Int):=by omega
    have R:(((c.toNat:Nat):Int) != 0)=true\/((((c.toNat:Nat):Int) != 0)=false/\0<l.length)\/((((c.toNat:Nat):Int) != 0)=false/\l.length=0):=by
     cases (((c.toNat:Nat):Int) != 0)
     ·rcases Nat.eq_zero_or_pos l.length with h|h
      ·exact .inr (.inr ⟨rfl,h⟩)
      ·exact .inr (.inl ⟨rfl,h⟩)
     ·exact .inl rfl
    have m:=M.out c;generalize hcn:(c.toNat:Nat)=F at*;rcases R with h1|⟨h1,h2⟩|⟨h1,h2⟩
    ·go_wp2_with (at_builtin;refine RG _ rfl (.tmp 23) (.tmp 25) 143 rfl w.heap.size 5 i0 (iV .u8 0) 1 1 underlying143 A C D E rfl (by decide) _ l.length (bI l) rfl (b.out.alloc _) ⟨wc.heap.size,0,none⟩ 1 1 [iV .u8 (F:Int)] rfl rfl (So _ _ _) ?n2 (by omega) ?n3 ?n4 ?n5 _ rfl ?n6)
     case n2=>first|rfl| (intro v q;simp at q;subst q;rfl)
     case n3=>unfold maxLen;omega
     case n4=>omega
     case n5=>first|omega| (simp;omega)
     intro g2 a w2 p o z B;have y:=aa (m w2 g2 a p);have u:Hid (yW w w2):=(i.out.alloc K _).grown o (by simp;omega) (fun k f=>(b.out.lt k f).1);have j:Hid ((l++[c]).length=l.length+1):=by show _=_;simp
     clear p o z B m;go_wp2_with fail
     go_roundg (9 - (k+1))
     case measure=>have:=x.out;omega
     case rel=>exact⟨k+1,l++[c],g2,a,rfl,by omega,by have:=j.out;omega,by go_num,by rw[j.out],y,u⟩
    ·have Q:(0:Int)<(l.length:Int):=by omega
     go_wp2_with (at_builtin;refine RG _ rfl (.tmp 23) (.tmp 25) 143 rfl w.heap.size 5 i0 (iV .u8 0) 1 1 underlying143 A C D E rfl (by decide) _ l.length (bI l) rfl (b.out.alloc _) ⟨wc.heap.size,0,none⟩ 1 1 [iV .u8 (F:Int)] rfl rfl (So _ _ _) ?m2 (by omega) ?m3 ?m4 ?m5 _ rfl ?m6)
     case m2=>first|rfl| (intro v q;simp at q;subst q;rfl)
     case m3=>unfold maxLen;omega
     case m4=>omega
     case m5=>first|omega| (simp;omega)
     intro g2 a w2 p o z B;have y:=aa (m w2 g2 a p);have u:Hid (yW w w2):=(i.out.alloc K _).grown o (by simp;omega) (fun k f=>(b.out.lt k f).1);have j:Hid ((l++[c]).length=l.length+1):=by show _=_;simp
     clear p o z B m;go_wp2_with fail
     go_roundg (9 - (k+1))
     case measure=>have:=x.out;omega
     case rel=>exact⟨k+1,l++[c],g2,a,rfl,by omega,by have:=j.out;omega,by go_num,by rw[j.out],y,u⟩
    ·have Q:¬(0:Int)<(l.length:Int):=by omega
     clear m;go_wp2_with fail
     go_roundg (9 - (k+1))
     case measure=>have:=x.out;omega
     case rel=>exact⟨k+1,l,t,cap,rfl,by omega,by omega,by go_num,by rw[h2],b,i⟩
  ·obtain rfl:k=8:=by omega
   have Y:=FZ b.out;have O:Hid ((str l).size<=8):=by show _<=_;rw[aH];exact T
   go_wp2_with fail
   go_ret
   exact⟨⟨_,rfl,O.out⟩,i.out⟩
end Go.Proofs.YtiimkkahmpmhdaaGreatDoor
