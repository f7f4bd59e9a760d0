import Derived.Test.YtiimkkahmpmhdaaGreatDoorU
import Derived.Test.YtiimkkahmpmhdaaGreatDoorW
open Go.Proofs.Tryz
open Go.Proofs.Tryz renaming prog→yP
open Go.Value renaming string→sV,pointer→pV,int→iV,slice→lV,bool→bV,tuple→tV,agg→gV
open Go.Ending renaming returned→rV
namespace Go.Proofs.YtiimkkahmpmhdaaGreatDoor
open Go.RowKit
set_option maxRecDepth 100000
set_option maxHeartbeats 0
set_option linter.all false
def iP(h:a6):Array Value:=#[sV h.addr,iV .i64 h.n,sV h.aj,sV h.code,lV h.sa h.aS.length h.sc]
def QB(e:Ending):Prop:=∃v:yB,e=rV (sV v)/\v.size<=maxLen
def rD(v:Value):Prop:=∃b:Bool,v=bV b
def lO(e:Ending):Prop:=∃r:yB,e=rV (sV r)/\r.size=32
def GL(e:Ending):Prop:=∃(x:yB) (c:Nat),e=rV (tV #[sV x,iV .i64 c])/\x.size<=160
def tG(e:Ending):Prop:=∃x:yB,e=rV (sV x)
def QC(e:Ending):Prop:=∃x:yB,e=rV (sV x)/\x.size<=1073741824
def mG(W:World)(a:Option Addr)(cs:List yB):Prop:=∀i p,cs[i]? =some p->∃g,a=some ⟨g,0,none⟩/\g<W.heap.size/\W.cell? ⟨g,i,none⟩=some (sV p)
def dO(n:Nat)(cs:List yB):Prop:=cs.length<=n/\∀x∈cs,x.size<=4096
theorem dO.append{a b c d}(h:dO a c)(k:dO b d):dO (a+b) (c++d):=⟨by have:=h.1;have:=k.1;rw[Q4];omega,fun x e=>(Re.1 e).elim (h.2 x) (k.2 x)⟩
theorem dO.mono{a b c}(h:dO a c)(k:a<=b):dO b c:=⟨Q7 h.1 k,h.2⟩
theorem dO.one{x:yB}(h:x.size<=4096):dO 1 [x]:=⟨QU _,fun y a=>by rw[Q2.1 a];exact h⟩
def wk(n:Nat)(v:Value)(P:Option Addr->Nat->List yB->Prop):Prop:=∃a cap cs,v=lV a cs.length cap/\dO n cs/\P a cap cs
theorem xt{P:Program}{b:Array Oper}{o:Oper}{a:Act}{w:World}{K:Act->World->Prop}{Q:Exit->Act->World->Prop}{E:Prop}
 (f:o.guard=none) (s x:Operand) (t:TypeId) (g:o.op=Op.call {callee:=Callee.builtin Builtin.append,args:=#[s,x],argTypes:=#[t,t]})
 (v d c:Value) (w':World) (i:a.eval s=v) (k:a.eval x=d) (h:(Builtin.append_ #[t,t] o.type #[v,d]).run P w=.ok c w') (e:K (a.put o.dst c) w'):
 if Region.wanted o (yielded b a.tmps)=true then Oper.wp P o a w K Q else E:=by
 have j:Region.wanted o (yielded b a.tmps)=true:=by simp[Region.wanted,f]
 rw[QX j];unfold Oper.wp;simp[execOp,g,resolve,invoke,builtin,i,k,h,Result.andThen];exact e
theorem Ez:(yP.info? 44).map (·.size)=some 2:=by kernel_rfl
theorem Ey:(yP.info? 61).map (·.size)=some 1:=by kernel_rfl
theorem vI{e n}(h:(yP.info? e).map (·.size)=some n):∃j,yP.info? e=some j/\j.size=n:=by
 obtain⟨j,h1,h2⟩:=Option.map_eq_some_iff.1 h;exact⟨j,h1,h2⟩
theorem KA(a:Nat)(W):(binOp BinOp.eql 42 (pV (qA a)) (pV (qA a))).run yP W=.ok (bV true) W:=by
 obtain⟨j,h1,_⟩:=vI Ez;exact run_eql_ptr_same W ⟨a,0,none⟩ underlying42 h1
theorem Kz(a:Nat)(W):(binOp BinOp.eql 59 (pV (qA a)) (pV (qA a))).run yP W=.ok (bV true) W:=by
 obtain⟨j,h1,_⟩:=vI Ey;exact run_eql_ptr_same W ⟨a,0,none⟩ underlying59 h1
theorem KC{a b}{W:World}{c d i k}(h:a≠b)(f:W.heap[a]? =some (.cells c i (0,0)))(g:W.heap[b]? =some (.cells d k (0,0))):(binOp BinOp.eql 42 (pV (qA a)) (pV (qA b))).run yP W=.ok (bV false) W:=by
 obtain⟨j,h1,h2⟩:=vI Ez;exact run_eql_ptr_other W underlying42 h1 (by rw[h2];decide) (fun e=>h (by injection e)) f g
theorem KB{a b}{W:World}{c d i k}(h:a≠b)(f:W.heap[a]? =some (.cells c i (0,0)))(g:W.heap[b]? =some (.cells d k (0,0))):(binOp BinOp.eql 59 (pV (qA a)) (pV (qA b))).run yP W=.ok (bV false) W:=by
 obtain⟨j,h1,h2⟩:=vI Ey;exact run_eql_ptr_other W underlying59 h1 (by rw[h2];decide) (fun e=>h (by injection e)) f g
section
variable {P : Program} {ops : Array Oper} {Q : Exit → Act → World → Prop} {md : Region.Mode} {S : World → Prop} {z : Nat}
def jM(P:Program)(c:Region.Mode)(b:Array Oper)(Q:Exit->Act->World->Prop)(S:World->Prop)(z:Nat):Nat->Array Bool->Act->World->Prop
 | 0,listed,a,w=>Region.ready c b listed=[]/\Q .normal a w
 |f+1,listed,a,w=>(Region.ready c b listed=[]->Q .normal a w)/\∀i∈Region.ready c b listed,wpOp P b Q i (fun d w'=>(i≠z->S w')/\jM P c b Q S z f (listed.setIfInBounds i true) d w') a w
theorem Az:∀(f:Nat) (b:Array Bool) (a:Act) (w),jM P md ops Q S z f b a w->wpAny P md ops Q f b a w
 | 0,_,_,_,h=>h
 |f+1,_,_,_,h=>⟨h.1,fun i hi=>wpOp_mono (fun c w' k=>Az f _ c w' k.2) (h.2 i hi)⟩
theorem Hm{i m G}{v:Value}(hi:ops[i]? =some m)(Y:ops[z]? =some G)(O:∃e∈G.after,Region.binds md e=true/\e.on=i)(E:∀(j:Nat) (o:Oper) cs b,ops[j]? =some o->o.op≠.select cs b)
 (J:∀c a w,Q (.panic c) (a.put m.dst v) w->Q (.panic c) a w) (Z:i≠z):
 ∀(f:Nat) (d:Array Bool) (a:Act) (w:World),(∀j n,ops[j]? =some n->j≠i->d.getD j true=false->(∀e∈n.after,Region.binds md e=true->e.on≠i)->m.apart ops n=true)->i∈Region.ready md ops d->YieldsIf P ops S m v a->S w->
  jM P md ops Q S z f (d.setIfInBounds i true) (a.put m.dst v) w->jM P md ops Q S z (f+1) d a w:=by
 intro f;induction f with
 |zero=>
  intro d a w _ l t p H;refine⟨fun h=>(by rw[h] at l;cases l),fun j s=>?_⟩;by_cases g:j=i
  ·subst g;exact t.wpOp hi p ⟨fun _=>p,H⟩
  ·have:=ready_mono s g;rw[H.1] at this;cases this
 |succ f ih=>
  intro d a w A l t p H;refine⟨fun h=>(by rw[h] at l;cases l),fun j s=>?_⟩;by_cases g:j=i
  ·subst g;exact t.wpOp hi p ⟨fun _=>p,H⟩
  ·have k1:=H.2 j (ready_mono s g);obtain⟨C,n,q,K⟩:=mem_ready.1 s;have D:∀e∈n.after,Region.binds md e=true->e.on≠i:=fun e L y M=>by
    have h1:=K e L y;have h0:=(mem_ready.1 l).1;rw[M] at h1;rcases Nat.lt_or_ge i d.size with u|u
    ·simp[u] at h0 h1;rw[h0] at h1;cases h1
    ·simp[Rk u] at h1
   have R:j≠z:=fun e=>by
    obtain⟨x,X,y,W⟩:=O;rw[e,Y] at q;cases q
    exact D x X y W
   have k2:=wpOp_putIf q (A j n q g C D) (fun cs b=>E i m cs b hi) (fun cs b=>E j n cs b q) J t k1;have N:∀k r,ops[k]? =some r->k≠i->(d.setIfInBounds j true).getD k true=false->(∀e∈r.after,Region.binds md e=true->e.on≠i)->m.apart ops r=true:=fun k r T U F V=>by
    refine A k r T U ?_ V;by_cases B:j=k
    ·subst B;exact C
    ·rw[getD_set_ne true B] at F;exact F
   refine wpOp_mono (fun I w' h3=>⟨h3.2.1,ih (d.setIfInBounds j true) I w' N (ready_mono l (Ne.symm g)) h3.1 (h3.2.1 R) ?_⟩) k2;rw[Array.setIfInBounds_comm _ _ g];exact h3.2.2
def wO(b:Array Oper)(a:Region.Mode)(z i:Nat):Bool:=match b[z]? with
 |some oz=>oz.after.any fun e=>Region.binds a e && e.on == i
 |none=>false
theorem Hk{i g}{v:Value}{f:Nat}{d:Array Bool}{a:Act}{w:World}(hi:ops[i]? =some g)
 (q:Region.noSelect ops=true) (o:Region.free md ops d i=true) (p:(Region.ready md ops d).contains i=true) (b:wO ops md z i=true) (k:(i == z)=false)
 (l:∀c a w,Q (.panic c) (a.put g.dst v) w->Q (.panic c) a w) (r:YieldsIf P ops S g v a) (m:S w)
 (h:jM P md ops Q S z f (d.setIfInBounds i true) (a.put g.dst v) w):jM P md ops Q S z (f+1) d a w:=by
 unfold wO at b;cases ho:ops[z]? with
 |none=>rw[ho] at b;cases b
 |some oz=>
  rw[ho] at b;obtain⟨e,n,j⟩:=Array.any_eq_true'.1 b;simp at j k;exact Hm hi ho ⟨e,n,j.1,j.2⟩ (Region.noSelect_spec q) l k f d a w (Region.free_spec hi o) (by simpa using p) r m h
theorem Hl{i o}{f:Nat}{b}{a:Act}{w:World}(d:Region.ready md ops b=[i])(l:ops[i]? =some o)
 (h:∀K':Act->World->Prop,Hid (∀a w,(i≠z->S w)->jM P md ops Q S z f (b.setIfInBounds i true) a w->K' a w)->if Region.wanted o (yielded ops a.tmps)=true then Oper.wp P o a w K' Q else K' (a.put o.dst undef) w):jM P md ops Q S z (f+1) b a w:=by
 refine⟨fun h0=>(by rw[d] at h0;cases h0),fun j c=>?_⟩;rw[d] at c;obtain rfl:=Q2.1 c;exact wpOp_step l fun K' e=>h K' fun a w g k=>e a w ⟨g,k⟩
theorem wI{c a w}(b:Region.ready md ops c=[])(h:Q .normal a w):∀f,jM P md ops Q S z f c a w
 | 0=>⟨b,h⟩
 | _+1=>⟨fun _=>h,by rw[b];simp⟩
def mU(n:Nat):Nat->Array Bool
 | 0=>Array.replicate n false
 |k+1=>(mU n k).setIfInBounds k true
theorem wH{k n:Nat}{b rest}{v:Value}{f:Nat}{a:Act}{w:World}(hi:ops.toList.drop k=b::rest)
 (d:(Region.noSelect ops && (Region.free md ops (mU n k) k && ((Region.ready md ops (mU n k)).contains k && (wO ops md z k && !(k == z)))))=true)
 (e:∀c a w,Q (.panic c) (a.put b.dst v) w->Q (.panic c) a w) (g:S w) (i:YieldsIf P ops S b v a)
 (h:jM P md ops Q S z f (mU n (k+1)) (a.put b.dst v) w):jM P md ops Q S z (f+1) (mU n k) a w:=by
 simp only[Sh,Bool.not_eq_true'] at d;obtain⟨h1,h2,h3,h4,h5⟩:=d;have h6:ops[k]? =some b:=by
  have:(ops.toList.drop k)[0]? =some b:=by rw[hi];rfl
  rw[Sw] at this;simpa using this
 exact Hk h6 h1 h2 h3 h4 h5 e i g h
theorem iK{k n o rest}{f:Nat}{a:Act}{w:World}(hi:ops.toList.drop k=o::rest)(b:Region.ready md ops (mU n k)=[k])
 (h:∀K':Act->World->Prop,Hid (∀a w,(k≠z->S w)->jM P md ops Q S z f (mU n (k+1)) a w->K' a w)->if Region.wanted o (yielded ops a.tmps)=true then Oper.wp P o a w K' Q else K' (a.put o.dst undef) w):jM P md ops Q S z (f+1) (mU n k) a w:=by
 refine Hl b ?_ h;have:(ops.toList.drop k)[0]? =some o:=by rw[hi];rfl
 rw[Sw] at this;simpa using this
theorem wG{d a}{w:World}(z:Nat)(S:World->Prop)(c:P.follows .mixedOrders=true)(b:S w.drew)(h:S w.drew->jM P .any ops Q S z ops.size (mU ops.size 0) a w.drew):(Code.region d ops true).wp P Q a w:=
 wp_region_any c (Az _ _ _ _ (h b))
end
theorem Pa(w:World)(c a sb g u N s:Nat)(p:Option Addr)(j:Option Addr)(l k:Nat)(RT:yB)
 (m i z:World->Prop) (x y D:Nat->World->Prop)
 (C:Hid (m w))
 (A:Hid (∀W,m W->W.cell? ⟨a,1,none⟩=some (pV (qA g))/\a<W.heap.size))
 (B:Hid (∀W,i W->W.cell? ⟨a,1,none⟩=some (pV (qA g))/\W.cell? ⟨a,0,none⟩=some (pV (qA sb))/\a<W.heap.size))
 (U:Hid (∀n W,x n W->(W.cell? ⟨c,0,none⟩=some (lV p N s)/\c<W.heap.size)/\W.cell? ⟨a,0,none⟩=some (pV (qA sb))/\W.cell? ⟨a,2,none⟩=some (lV j l k)/\W.cell? ⟨a,4,none⟩=some (pV (qA u))/\a<W.heap.size))
 (P:Hid (∀W,m W->Calls yP 38 #[pV (qA g)] W fun e w'=>e=rV (sV RT)/\m w'))
 (S:Hid (∀W,m W->Calls yP 39 #[pV (qA g)] W fun e w'=>e=rV (sV RT)/\i w'))
 (Q:Hid (∀W,i W->Calls yP 38 #[pV (qA g)] W fun e w'=>e=rV (sV RT)/\i w'))
 (M:Hid (∀W,i W->Calls yP 12 #[pV (qA sb),sV RT] W fun e w'=>∃n,e=rV (tV #[pV (qA n),iV .i64 0])/\x n w'))
 (T:Hid (∀n W,x n W->∃o t q w',(Builtin.append_ #[27,27] 27 #[lV p N s,lV (some ⟨W.heap.size+1,0,none⟩) 1 1]).run yP ((W.drew.alloc (.cells #[pV (qA sb),pV (qA n),lV j l k,lV j l k,pV (qA u)] 47)).alloc (.cells #[pV (qA W.heap.size)] 41))=.ok (lV o t q) w'/\((w'.cell? ⟨c,0,none⟩=some (lV p N s)/\w'.cell? ⟨a,0,none⟩=some (pV (qA sb))/\w'.cell? ⟨a,2,none⟩=some (lV j l k)/\w'.cell? ⟨a,4,none⟩=some (pV (qA u)))/\w'.frozen? ⟨c,0,none⟩=false/\c<w'.heap.size)/\y n (w'.setCell ⟨c,0,none⟩ (lV o t q))))
 (O:Hid (∀n W,y n W->Calls yP 19 #[pV (qA c),pV (qA a)] W fun e w'=>e=rV (tV #[])/\D n w'))
 (R:Hid (∀n W,D n W->Calls yP 38 #[pV (qA n)] W fun e w'=>e=rV (sV RT)/\z w')):
 Calls yP 17 #[pV (qA c),pV (qA a)] w fun e w'=>e=rV (bV true)/\Hid (z w'):=by
 obtain⟨c1,d⟩:=A.out _ C.out;have f:=aa (P.out _ C.out);go_enter func17,ntmps17
 go_wp2_with fail
 refine f.out.mono ?_;rintro e w1 ⟨rfl,E⟩;have L:=aa (S.out _ E);clear f c1 d C;obtain⟨c1,d⟩:=A.out _ E;clear E;go_wp2_with fail
 refine L.out.mono ?_;rintro e w2 ⟨rfl,F⟩;have f:=aa (Q.out _ F);clear L c1 d;obtain⟨c1,_,d⟩:=B.out _ F;clear F;go_wp2_with fail
 refine f.out.mono ?_;rintro e w3 ⟨rfl,G⟩;have I:=aa (M.out _ G);clear f c1 d;obtain⟨_,c0,d⟩:=B.out _ G;clear G;go_wp2_with fail
 refine I.out.mono ?_;rintro e w4 ⟨n,rfl,H⟩;clear I c0 d;obtain⟨⟨k0,A5⟩,b0,b2,b4,d⟩:=U.out _ _ H;obtain⟨o,t,q,w',hr,⟨⟨kv,A6,A7,A8⟩,kf,kw⟩,Z⟩:=T.out _ _ H;have Y:=aa hr;have V:=aa Z;clear hr Z H T;go_upto_region 7 with fail
 go_cut [6] (fun r wx=>r=sV RT/\Hid (y n wx))
 case first=>
  clear A B U P S Q M O R;refine wG 28 (fun w'=>w'.cell? ⟨c,0,none⟩=some (lV p N s)/\w'.cell? ⟨a,0,none⟩=some (pV (qA sb))/\w'.cell? ⟨a,2,none⟩=some (lV j l k)/\w'.cell? ⟨a,4,none⟩=some (pV (qA u))) (by kernel_rfl) (by go_keep) (fun A3=>?_);iterate 23 (refine wH (v:=?_) rfl (by kernel_rfl) (fun _ _ _ h=>h) A3 (Or.inl ⟨by rfl,?_⟩) ?_;rotate_left;(intro w A4;(try dsimp only at A4);go_simp;try with_reducible rfl);(try simp only[Act.put,List.setIfInBounds_toArray,List.set_cons_zero,List.set_cons_succ]))
  refine iK rfl (by kernel_rfl) (fun K b=>?_);go_simp
  refine b.out _ _ (fun _=>?s23) ?r23;case s23=>((try dsimp only);go_keep)
  clear b K;refine iK rfl (by kernel_rfl) (fun K b=>?_);go_simp
  refine b.out _ _ (fun _=>?s24) ?r24;case s24=>((try dsimp only);go_keep)
  clear b K;refine iK rfl (by kernel_rfl) (fun K b=>?_);refine xt rfl (.tmp 51) (.tmp 71) 27 rfl (lV p N s) (lV (some ⟨w4.heap.size+1,0,none⟩) 1 1) (lV o t q) w' (by simp[Act.eval]) (by simp[Act.eval]) Y.out ?_;refine b.out _ _ (fun _=>?s25) ?r25;case s25=>((try dsimp only);go_keep)
  clear b K;refine iK rfl (by kernel_rfl) (fun K b=>?_);go_simp
  refine b.out _ _ (fun _=>?s26) ?r26;case s26=>((try dsimp only);go_keep)
  clear b K;refine iK rfl (by kernel_rfl) (fun K b=>?_);go_simp
  refine b.out _ _ (fun _=>?s27) ?r27;case s27=>((try dsimp only);go_keep)
  clear b K;refine iK rfl (by kernel_rfl) (fun K b=>?_);go_simp
  refine b.out _ _ (fun h=>absurd rfl h) ?r28;clear b K;refine wI (by kernel_rfl) ?_ _;go_wp2_with fail
  go_meet
  exact⟨rfl,V⟩
 case rest=>
  obtain⟨rfl,X⟩:=hcut;have J:=aa (O.out _ _ X.out);clear k0 A5 b0 b2 b4 d kv A6 A7 A8 kf kw Y V X;go_wp2_with fail
  refine J.out.mono ?_;rintro e w7 ⟨rfl,A0⟩;have f:=aa (R.out _ _ A0);clear J A0;go_wp2_with fail
  refine f.out.mono ?_;rintro e w8 ⟨rfl,A1⟩;have A2:=aa A1;clear f A1;go_wp2_with fail
  go_ret
  exact⟨by first|rfl|simp,A2⟩
theorem Qf(w:World)(l f N X:Nat)(L:Option Addr)(k x y z:Int)(s t NN:yB)(hN:N<4000000000)
 (i I1:World->Prop) (Q:Bool->World->Prop) (J:Nat->World->Prop) (P2:Nat->Nat->World->Prop)
 (A4:Hid (i (w.alloc (.cells #[iV .i64 k,iV .i64 x,iV .i64 y,iV .i64 z,sV s,sV t] 33))))
 (A3:Hid (w.cell? ⟨l,0,none⟩=some (lV L N X)/\l<w.heap.size))
 (I:Hid (∀W,i W->(W.cell? ⟨l,0,none⟩=some (lV L N X)/\l<W.heap.size)/\W.cell? ⟨w.heap.size,0,none⟩=some (iV .i64 k)/\W.cell? ⟨w.heap.size,1,none⟩=some (iV .i64 x)/\W.cell? ⟨w.heap.size,2,none⟩=some (iV .i64 y)/\W.cell? ⟨w.heap.size,3,none⟩=some (iV .i64 z)/\W.cell? ⟨w.heap.size,4,none⟩=some (sV s)/\W.cell? ⟨w.heap.size,5,none⟩=some (sV t)/\w.heap.size<W.heap.size))
 (S:Hid (∀W n,i W->i (W.drewN n)))
 (A1:Hid (∀W,i W->k=1->Calls yP 10 #[] W fun e w'=>∃d,e=rV (pV (qA d))/\J d w'))
 (B0:Hid (∀d W,J d W->Calls yP 11 #[] W fun e w'=>e=rV (sV NN)/\J d w'))
 (B1:Hid (∀d W,J d W->Calls yP 12 #[pV (qA d),sV NN] W fun e w'=>∃n,e=rV (tV #[pV (qA n),iV .i64 0])/\P2 d n w'))
 (B3:Hid (∀d n W,P2 d n W->W.cell? ⟨l,0,none⟩=some (lV L N X)/\l<W.heap.size))
 (A2:Hid (∀d n W,P2 d n W->∃K O M w' v,(Builtin.append_ #[27,27] 27 #[lV L N X,lV (some ⟨W.heap.size+2,0,none⟩) 1 1]).run yP (((W.alloc (.cells #[bV false,bV false] 44)).alloc (.cells #[pV (qA d),pV (qA n),lV none 0 0,lV none 0 0,pV (qA W.heap.size)] 47)).alloc (.cells #[pV (some ⟨W.heap.size+1,0,none⟩)] 41))=.ok (lV K O M) w'/\(w'.cell? ⟨l,0,none⟩=some v/\w'.frozen? ⟨l,0,none⟩=false/\l<w'.heap.size)/\Q true (w'.setCell ⟨l,0,none⟩ (lV K O M))))
 (T:Hid (∀W,i W->N=0->Q true W))
 (R:Hid (∀W,0<N->Calls yP 13 #[iV .i64 x,iV .i64 N] W fun e w'=>e=rV (iV .i64 (bO x N))/\w'=W))
 (U:Hid (∀W,i W->0<N->∃g,L=some ⟨g,0,none⟩/\g<W.heap.size/\W.cell? ⟨g,bO x N,none⟩=some (pV (qA f))))
 (q:Hid (∀W,i W->0<N->k=2->Calls yP 14 #[pV (qA f),sV s,sV t] W fun e w'=>∃b,e=rV (bV b)/\Q b w'))
 (r:Hid (∀W,i W->0<N->k=3->Calls yP 15 #[pV (qA f),sV s] W fun e w'=>∃b,e=rV (bV b)/\Q b w'))
 (u:Hid (∀W,i W->0<N->k=4->Calls yP 16 #[pV (qA f),sV s] W fun e w'=>∃b,e=rV (bV b)/\Q b w'))
 (A:Hid (∀W,i W->0<N->k=5->Calls yP 17 #[pV (qA l),pV (qA f)] W fun e w'=>∃b,e=rV (bV b)/\Q b w'))
 (B:Hid (∀W,i W->0<N->k=8->Calls yP 20 #[pV (qA f),iV .i64 y] W fun e w'=>∃b,e=rV (bV b)/\Q b w'))
 (C:Hid (∀W,i W->0<N->k=9->Calls yP 21 #[pV (qA f),sV s] W fun e w'=>∃b,e=rV (bV b)/\Q b w'))
 (p:Hid (∀W,i W->0<N->k=10->Calls yP 22 #[pV (qA f),gV #[iV .i64 k,iV .i64 x,iV .i64 y,iV .i64 z,sV s,sV t]] W fun e w'=>∃b,e=rV (bV b)/\Q b w'))
 (m:Hid (∀W,i W->0<N->k=6\/k=7->Calls yP 18 #[pV (qA f),gV #[iV .i64 k,iV .i64 x,iV .i64 y,iV .i64 z,sV s,sV t]] W fun e w'=>e=rV (tV #[])/\I1 w'))
 (o:Hid (∀W,I1 W->Calls yP 19 #[pV (qA l),pV (qA f)] W fun e w'=>e=rV (tV #[])/\Q true w'))
 (D:Hid (∀W,i W->0<N->Q true W)):
 Calls yP 8 #[pV (qA l),gV #[iV .i64 k,iV .i64 x,iV .i64 y,iV .i64 z,sV s,sV t]] w fun e w'=>∃b,e=rV (bV b)/\Hid (Q b w'):=by
 obtain⟨V,Z⟩:=yX (w.alloc (.cells #[iV .i64 k,iV .i64 x,iV .i64 y,iV .i64 z,sV s,sV t] 33))
 have H:Hid (i V):=by rw[Z];exact A4
 by_cases h30:k=1
 ·have A7:=aa (A1.out _ H.out h30);clear q r u A m o B C p D U R T S A4 A1 I H A3;subst h30;go_enter func8,ntmps8
  go_wp2_with fail
  rw[<-Z];clear Z;refine A7.out.mono ?_;rintro e w1 ⟨d,rfl,B4⟩;have A8:=aa (B0.out _ _ B4);clear B4 A7;go_wp2_with fail
  refine A8.out.mono ?_;rintro e w2 ⟨rfl,B5⟩;have A9:=aa (B1.out _ _ B5);clear B5 A8;go_wp2_with fail
  refine A9.out.mono ?_;rintro e w3 ⟨n,rfl,A6⟩;obtain⟨c1,B6⟩:=B3.out _ _ _ A6;obtain⟨K,O,M,w',v,hr,⟨kv,kf,kw⟩,hQ⟩:=A2.out _ _ _ A6;have HR:=aa hr;have HQ:=aa hQ;clear hr hQ A6 A9 A2;go_wp2_with (at_builtin;refine jq rfl (.tmp 25) (.tmp 32) 27 rfl _ _ (lV K O M) w' rfl rfl HR.out ?_)
  go_ret
  exact⟨true,rfl,HQ⟩
 ·have C3:(k == 1)=false:=by simpa using h30
  clear A1 B0 B1 B3 A2 h30 A4;obtain⟨B7,C1⟩:=A3.out;clear A3;go_enter func8,ntmps8
  go_upto_region 7 with fail
  go_cut [43] (fun v wx=>v=bV ((N:Int) == 0)/\wx=V)
  case first=>
   clear q r u A m o B C p D U R T S I H;go_wp2_with fail
   go_meet
   exact⟨rfl,Z.symm⟩
  case rest=>
   obtain⟨rfl,rfl⟩:=hcut;clear Z B7 C1;obtain⟨⟨c1,B6⟩,b0,b1,b2,b3,b4,b5,G⟩:=I.out _ H.out;by_cases A0:N=0
   ·have HQ:=aa (T.out _ H.out A0);have B8:((N:Int) == 0)=true:=by rw[A0];rfl
    clear q r u A m o B C p D U R T S I H A0;go_wp2_with fail
    go_ret
    exact⟨true,rfl,HQ⟩
   ·have B8:((N:Int) == 0)=false:=by simp;omega
    have A5:0<N:=by omega
    have F:=aa A5;have hj:bO x N<N:=kz x N A5;obtain⟨g,rfl,B9,e0⟩:=U.out _ H.out A5;have B2:Hid (∀W,Calls yP 13 #[iV .i64 x,iV .i64 N] W fun e w'=>e=rV (iV .i64 (bO x N))/\w'=W):=fun W=>R.out W F.out
    generalize bO x N=j at*;have C0:(j:Int)<(N:Int):=by omega
    clear A0 T R;go_upto_region 10 with(go_quiet ((go_at_call 13;refine Calls.quiet_of_same (B2.out _))))
    have E:=aa (S.out _ nq H.out);clear c1 B6 b0 b1 b2 b3 b4 b5 G B9 e0 H B2 C0 hj U S;generalize wc.drewN nq=w1 at*;obtain⟨_,b0,b1,b2,b3,b4,b5,G⟩:=I.out _ E.out;clear I;by_cases h2:k=2
    ·have a:=aa (q.out _ E.out F.out h2);subst h2;clear q r u A m o B C p D;go_wp2_with fail
     refine a.out.mono ?_;rintro e w9 ⟨b,rfl,c⟩;have h:=aa c;clear c a b0 b1 b2 b3 b4 b5 G;go_wp2_with fail
     go_ret
     exact⟨b,rfl,h⟩
    have C4:(k == 2)=false:=by simpa using h2
    clear h2;by_cases h3:k=3
    ·have a:=aa (r.out _ E.out F.out h3);subst h3;clear q r u A m o B C p D;go_wp2_with fail
     refine a.out.mono ?_;rintro e w9 ⟨b,rfl,c⟩;have h:=aa c;clear c a b0 b1 b2 b3 b4 b5 G;go_wp2_with fail
     go_ret
     exact⟨b,rfl,h⟩
    have C5:(k == 3)=false:=by simpa using h3
    clear h3;by_cases h4:k=4
    ·have a:=aa (u.out _ E.out F.out h4);subst h4;clear q r u A m o B C p D;go_wp2_with fail
     refine a.out.mono ?_;rintro e w9 ⟨b,rfl,c⟩;have h:=aa c;clear c a b0 b1 b2 b3 b4 b5 G;go_wp2_with fail
     go_ret
     exact⟨b,rfl,h⟩
    have C6:(k == 4)=false:=by simpa using h4
    clear h4;by_cases h5:k=5
    ·have a:=aa (A.out _ E.out F.out h5);subst h5;clear q r u A m o B C p D;go_wp2_with fail
     refine a.out.mono ?_;rintro e w9 ⟨b,rfl,c⟩;have h:=aa c;clear c a b0 b1 b2 b3 b4 b5 G;go_wp2_with fail
     go_ret
     exact⟨b,rfl,h⟩
    have C7:(k == 5)=false:=by simpa using h5
    clear h5;by_cases h6:k=6
    ·have a:=aa (m.out _ E.out F.out (.inl h6));subst h6;clear q r u A m B C p D;go_wp2_with fail
     refine a.out.mono ?_;rintro e w8 ⟨rfl,Y⟩;have P:=aa (o.out _ Y);clear Y a b0 b1 b2 b3 b4 b5 G o;go_wp2_with fail
     refine P.out.mono ?_;rintro e w9 ⟨rfl,c⟩;have h:=aa c;clear c P;go_wp2_with fail
     go_ret
     exact⟨true,rfl,h⟩
    have C8:(k == 6)=false:=by simpa using h6
    clear h6;by_cases h7:k=7
    ·have a:=aa (m.out _ E.out F.out (.inr h7));subst h7;clear q r u A m B C p D;go_wp2_with fail
     refine a.out.mono ?_;rintro e w8 ⟨rfl,Y⟩;have P:=aa (o.out _ Y);clear Y a b0 b1 b2 b3 b4 b5 G o;go_wp2_with fail
     refine P.out.mono ?_;rintro e w9 ⟨rfl,c⟩;have h:=aa c;clear c P;go_wp2_with fail
     go_ret
     exact⟨true,rfl,h⟩
    have C9:(k == 7)=false:=by simpa using h7
    clear h7;by_cases h8:k=8
    ·have a:=aa (B.out _ E.out F.out h8);subst h8;clear q r u A m o B C p D;go_wp2_with fail
     refine a.out.mono ?_;rintro e w9 ⟨b,rfl,c⟩;have h:=aa c;clear c a b0 b1 b2 b3 b4 b5 G;go_wp2_with fail
     go_ret
     exact⟨b,rfl,h⟩
    have D0:(k == 8)=false:=by simpa using h8
    clear h8;by_cases h9:k=9
    ·have a:=aa (C.out _ E.out F.out h9);subst h9;clear q r u A m o B C p D;go_wp2_with fail
     refine a.out.mono ?_;rintro e w9 ⟨b,rfl,c⟩;have h:=aa c;clear c a b0 b1 b2 b3 b4 b5 G;go_wp2_with fail
     go_ret
     exact⟨b,rfl,h⟩
    have D1:(k == 9)=false:=by simpa using h9
    clear h9;by_cases h10:k=10
    ·have a:=aa (p.out _ E.out F.out h10);subst h10;clear q r u A m o B C p D;go_wp2_with fail
     refine a.out.mono ?_;rintro e w9 ⟨b,rfl,c⟩;have h:=aa c;clear c a b0 b1 b2 b3 b4 b5 G;go_wp2_with fail
     go_ret
     exact⟨b,rfl,h⟩
    have C2:(k == 10)=false:=by simpa using h10
    clear h10;have h:=aa (D.out _ E.out F.out);clear q r u A m o B C p D;go_wp2_with fail
    go_ret
    exact⟨true,rfl,h⟩
theorem Qz(w:World)(rb H:Nat)(a:Option Addr)(cap N:Nat)(Z:Int)(k a0:yB)(hN:N<4000000000)
 (D:Nat->List (Value×List yB)->World->Prop)
 (M:Hid (w.cell? ⟨rb,2,none⟩=some (lV a N cap)/\rb<w.heap.size))
 (Q:Hid (Calls yP 10 #[] w fun e w'=>∃F,e=rV (pV (qA F))/\(w'.cell? ⟨rb,2,none⟩=some (lV a N cap)/\rb<w'.heap.size)/\Hid (Calls yP 59 #[pV (qA F),lV a N cap,iV .i64 Z] w' fun e w2=>∃d,e=rV (pV (qA d))/\D d [] w2)))
 (q:Hid (∀d rows W,D d rows W->W.cell? ⟨rb,1,none⟩=some (pV (qA H))/\W.cell? ⟨rb,2,none⟩=some (lV a N cap)/\rb<W.heap.size))
 (S:Hid (∀d W,D d [] W->Calls yP 56 #[pV (qA d)] W fun e w'=>lO e/\D d [] w'))
 (R:Hid (∀d W,D d [] W->Calls yP 56 #[pV (qA H)] W fun e w'=>lO e/\D d [] w'))
 (O:Hid (∀d W,D d [] W->Calls yP 11 #[] W fun e w'=>e=rV (sV k)/\D d [] w'))
 (z:Hid (∀d W,D d [] W->0<N->∃g,a=some ⟨g,0,none⟩/\g<W.heap.size/\W.cell? ⟨g,0,none⟩=some (sV a0)))
 (y:Hid (∀d W,D d [] W->0<N->Calls yP 60 #[pV (qA d),sV a0] W fun e w'=>∃(f:Option Addr) (h:Nat) (c:Int) (cs:List yB),e=rV (tV #[lV f cs.length h,iV .i64 c])/\dO 81 cs/\D d [(lV f cs.length h,cs)] w'))
 (t:Hid (∀d v cs W,D d [(v,cs)] W->dO 81 cs->∃f h w',(Builtin.append_ #[63,63] 63 #[v,lV (qA W.heap.size) 1 1]).run yP (W.alloc (.cells #[sV aX] 9))=.ok (lV f (cs++[aX]).length h) w'/\D d [(lV f (cs++[aX]).length h,cs++[aX])] w'))
 (u:Hid (∀d v cs W,D d [(v,cs++[aX])] W->dO 81 cs->Calls yP 46 #[v] W fun e w'=>bE e/\D d [(v,cs++[aX])] w'))
 (P:Hid (∀d rows W,D d rows W->Calls yP 54 #[pV (qA rb)] W fun e w'=>bE e/\D d rows w')):
 Calls yP 27 #[pV (qA rb),iV .i64 Z] w fun e w'=>bE e/\∃d r,Hid (D d r w'):=by
 obtain⟨c3,A6⟩:=M.out;clear M;go_enter func27,ntmps27
 go_wp2_with fail
 refine Q.out.mono ?_;rintro e w1 ⟨F,rfl,⟨d3,A7⟩,J⟩;clear Q c3 A6;go_wp2_with fail
 refine J.out.mono ?_;rintro e w2 ⟨d,rfl,A⟩;obtain⟨r1,r2,l⟩:=q.out _ _ _ A;have o:=aa (S.out _ _ A);clear A J d3 A7 S;go_wp2_with fail
 refine o.out.mono ?_;rintro e w3 ⟨⟨j,rfl,h32⟩,B⟩;clear o r1 r2 l;obtain⟨r1,r2,l⟩:=q.out _ _ _ B;have o:=aa (R.out _ _ B);have B0:(j.size:Int)=32:=by rw[h32];rfl
 clear B R h32;go_wp2_with fail
 refine o.out.mono ?_;rintro e w4 ⟨⟨G,rfl,h32⟩,T⟩;clear o r1 r2 l;have B1:(G.size:Int)=32:=by rw[h32];rfl
 have L:=aa (O.out _ _ T);clear T O h32;go_wp2_with fail
 refine L.out.mono ?_;rintro e w5 ⟨rfl,s⟩;have m:=aa s;obtain⟨r1,r2,l⟩:=q.out _ _ _ s;have n:=aa (P.out _ _ _ s);clear s L q;have key:(j.toList == k.toList)=true\/(j.toList == k.toList)=false:=by cases (j.toList == k.toList)<;>simp
 by_cases X:N=0
 ·subst X;rcases key with p|p
  ·have A3:(j.toList != k.toList)=false:=by rw[bne,p];rfl
   cases hC:(j.toList == G.toList) with
   |true=>
    go_wp2_with fail
    go_ret
    exact⟨⟨true,rfl⟩,_,_,m⟩
   |false=>
    go_wp2_with fail
    refine n.out.mono ?_;rintro e w6 ⟨⟨b,rfl⟩,i⟩;have x:=aa i;clear i r1 r2 l;go_wp2_with fail
    go_ret
    exact⟨⟨b,rfl⟩,_,_,x⟩
  ·have A3:(j.toList != k.toList)=true:=by rw[bne,p];rfl
   go_wp2_with fail
   go_ret
   exact⟨⟨false,rfl⟩,_,_,m⟩
 ·have A9:(0:Int)<(N:Int):=by omega
  have A8:((N:Int) == 0)=false:=by simp;omega
  rcases key with p|p
  ·obtain⟨g,ha,A5,A4⟩:=z.out _ _ m.out (by omega);subst ha;have K:=aa (y.out _ _ m.out (by omega));clear z y n X;go_wp2_with fail
   refine K.out.mono ?_;rintro e w6 ⟨f,h,c,cs,rfl,E,i⟩;obtain⟨a7,c7,w7,Y,U⟩:=t.out _ _ _ _ i E;have A2:=aa Y;have I:=aa (u.out _ _ _ _ U E);clear Y U i E t u K r1 r2 l A5 A4 m;generalize (cs++[aX]).length=L7 at*;go_wp2_with (at_builtin;refine jq rfl (.tmp 74) (.tmp 75) 63 rfl _ _ (lV a7 L7 c7) w7 rfl rfl A2.out ?_)
   refine I.out.mono ?_;rintro e w8 ⟨⟨b,rfl⟩,C⟩;have A0:=aa C;have n:=aa (P.out _ _ _ C);clear C I;cases b with
   |true=>
    go_wp2_with fail
    go_ret
    exact⟨⟨true,rfl⟩,_,_,A0⟩
   |false=>
    go_wp2_with fail
    refine n.out.mono ?_;rintro e w9 ⟨⟨b,rfl⟩,V⟩;have A1:=aa V;clear V;go_wp2_with fail
    go_ret
    exact⟨⟨b,rfl⟩,_,_,A1⟩
  ·clear z y t u;cases hC:(j.toList == G.toList) with
   |true=>
    go_wp2_with fail
    go_ret
    exact⟨⟨true,rfl⟩,_,_,m⟩
   |false=>
    go_wp2_with fail
    refine n.out.mono ?_;rintro e w6 ⟨⟨b,rfl⟩,i⟩;have x:=aa i;clear i r1 r2 l;go_wp2_with fail
    go_ret
    exact⟨⟨b,rfl⟩,_,_,x⟩
theorem Kk(w:World)(q rb N cr X cs:Nat)(T U:Option Addr)(k x y z:Int)(s t NN H:yB)(hN:N<4000000000)
 (l I Q:World->Prop) (S:Nat->World->Prop) (P2:Nat->Nat->World->Prop) (I1:Option Addr->Nat->Nat->World->Prop)
 (B4:Hid (l (w.alloc (.cells #[iV .i64 k,iV .i64 x,iV .i64 y,iV .i64 z,sV s,sV t] 33))))
 (B3:Hid (w.cell? ⟨q,1,none⟩=some (lV T N cr)/\q<w.heap.size))
 (L:Hid (∀W,l W->(W.cell? ⟨q,1,none⟩=some (lV T N cr)/\q<W.heap.size)/\W.cell? ⟨w.heap.size,0,none⟩=some (iV .i64 k)/\W.cell? ⟨w.heap.size,1,none⟩=some (iV .i64 x)/\W.cell? ⟨w.heap.size,4,none⟩=some (sV s)/\W.cell? ⟨w.heap.size,5,none⟩=some (sV t)/\w.heap.size<W.heap.size))
 (A1:Hid (∀W n,l W->l (W.drewN n)))
 (B1:Hid (∀W,l W->Calls yP 10 #[] W fun e w'=>∃d,e=rV (pV (qA d))/\S d w'))
 (C5:Hid (∀d W,S d W->Calls yP 11 #[] W fun e w'=>e=rV (sV NN)/\S d w'))
 (C7:Hid (∀d W,S d W->Calls yP 23 #[pV (qA d),sV NN] W fun e w'=>∃n,e=rV (tV #[pV (qA n),iV .i64 0])/\P2 d n w'))
 (C8:Hid (∀d n W,P2 d n W->W.cell? ⟨q,1,none⟩=some (lV T N cr)/\q<W.heap.size))
 (B2:Hid (∀d n W,P2 d n W->∃f V i w' v,(Builtin.append_ #[28,28] 28 #[lV T N cr,lV (some ⟨W.heap.size+2,0,none⟩) 1 1]).run yP (((W.alloc (.cells #[bV false] 61)).alloc (.cells #[pV (qA d),pV (qA n),lV none 0 0,lV none 0 0,lV none 0 0,pV (qA W.heap.size)] 65)).alloc (.cells #[pV (some ⟨W.heap.size+1,0,none⟩)] 58))=.ok (lV f V i) w'/\(w'.cell? ⟨q,1,none⟩=some v/\w'.frozen? ⟨q,1,none⟩=false/\q<w'.heap.size)/\Q (w'.setCell ⟨q,1,none⟩ (lV f V i))))
 (A3:Hid (∀W,l W->N=0->Q W))
 (Y:Hid (∀W,0<N->Calls yP 13 #[iV .i64 x,iV .i64 N] W fun e w'=>e=rV (iV .i64 (bO x N))/\w'=W))
 (A4:Hid (∀W,l W->0<N->∃g,T=some ⟨g,0,none⟩/\g<W.heap.size/\W.cell? ⟨g,bO x N,none⟩=some (pV (qA rb))))
 (Z:Hid (∀W,l W->Calls yP 24 #[sV t] W fun e w'=>e=rV (sV H)/\l w'))
 (A6:Hid (∀W,l W->0<N->W.cell? ⟨rb,4,none⟩=some (lV U X cs)/\rb<W.heap.size))
 (A5:Hid (∀W,l W->0<N->∃f u i w',(Builtin.append_ #[63,63] 63 #[lV U X cs,lV (qA W.heap.size) 1 1]).run yP (W.drew.alloc (.cells #[sV s] 9))=.ok (lV f u i) w'/\((w'.cell? ⟨rb,4,none⟩=some (lV U X cs)/\w'.cell? ⟨w.heap.size,4,none⟩=some (sV s))/\w'.frozen? ⟨rb,4,none⟩=false/\rb<w'.heap.size)/\I1 f u i (w'.setCell ⟨rb,4,none⟩ (lV f u i))))
 (P:Hid (∀a n c W,I1 a n c W->W.cell? ⟨rb,4,none⟩=some (lV a n c)/\rb<W.heap.size))
 (R:Hid (∀a n c W,I1 a n c W->∃f u i w' v,(Builtin.append_ #[63,63] 63 #[lV a n c,lV (qA W.heap.size) 1 1]).run yP (W.alloc (.cells #[sV H] 9))=.ok (lV f u i) w'/\(w'.cell? ⟨rb,4,none⟩=some v/\w'.frozen? ⟨rb,4,none⟩=false/\rb<w'.heap.size)/\I (w'.setCell ⟨rb,4,none⟩ (lV f u i))))
 (A0:Hid (∀W,I W->W.cell? ⟨w.heap.size,0,none⟩=some (iV .i64 k)/\W.cell? ⟨w.heap.size,1,none⟩=some (iV .i64 x)/\W.cell? ⟨w.heap.size,2,none⟩=some (iV .i64 y)/\W.cell? ⟨w.heap.size,3,none⟩=some (iV .i64 z)/\W.cell? ⟨w.heap.size,4,none⟩=some (sV s)/\W.cell? ⟨w.heap.size,5,none⟩=some (sV t)/\w.heap.size<W.heap.size))
 (A:Hid (∀W,I W->k=36->Calls yP 25 #[pV (qA rb),sV s,sV H] W fun e w'=>bE e/\Q w'))
 (B:Hid (∀W,I W->k=37->Calls yP 26 #[pV (qA q),pV (qA rb)] W fun e w'=>bE e/\Q w'))
 (C:Hid (∀W,I W->k=38->Calls yP 27 #[pV (qA rb),iV .i64 y] W fun e w'=>bE e/\Q w'))
 (D:Hid (∀W,I W->k=39->Calls yP 28 #[pV (qA rb),sV s,sV H] W fun e w'=>bE e/\Q w'))
 (E:Hid (∀W,I W->Calls yP 29 #[pV (qA rb),gV #[iV .i64 k,iV .i64 x,iV .i64 y,iV .i64 z,sV s,sV t]] W fun e w'=>bE e/\Q w')):
 Calls yP 9 #[pV (qA q),gV #[iV .i64 k,iV .i64 x,iV .i64 y,iV .i64 z,sV s,sV t]] w fun e w'=>bE e/\Hid (Q w'):=by
 obtain⟨W0,A7⟩:=yX (w.alloc (.cells #[iV .i64 k,iV .i64 x,iV .i64 y,iV .i64 z,sV s,sV t] 33))
 have F:Hid (l W0):=by rw[A7];exact B4
 by_cases h30:k=30
 ·have C1:=aa (B1.out _ F.out);clear A B C D E A0 R P A5 A6 Z A4 Y A3 A1 B4 B1 L F B3;subst h30;go_enter func9,ntmps9
  go_wp2_with fail
  rw[<-A7];clear A7;refine C1.out.mono ?_;rintro e w1 ⟨d,rfl,D4⟩;have C2:=aa (C5.out _ _ D4);clear D4 C1;go_wp2_with fail
  refine C2.out.mono ?_;rintro e w2 ⟨rfl,D5⟩;have C3:=aa (C7.out _ _ D5);clear D5 C2;go_wp2_with fail
  refine C3.out.mono ?_;rintro e w3 ⟨n,rfl,B8⟩;obtain⟨c1,D6⟩:=C8.out _ _ _ B8;obtain⟨f,V,i,w',v,J,⟨kv,kf,kw⟩,hQ⟩:=B2.out _ _ _ B8;have O:=aa J;have HQ:=aa hQ;clear J hQ B8 C3 B2;go_wp2_with (at_builtin;refine jq rfl (.tmp 26) (.tmp 33) 28 rfl _ _ (lV f V i) w' rfl rfl O.out ?_)
  go_ret
  exact⟨⟨true,rfl⟩,HQ⟩
 ·have E4:(k == 30)=false:=by simpa using h30
  clear B1 C5 C7 C8 B2 h30 B4;obtain⟨D7,E3⟩:=B3.out;clear B3;go_enter func9,ntmps9
  go_upto_region 7 with fail
  go_cut [44] (fun v wx=>v=bV ((N:Int) == 0)/\wx=W0)
  case first=>
   clear A B C D E A0 R P A5 A6 Z A4 Y A3 A1 L F;go_wp2_with fail
   go_meet
   exact⟨rfl,A7.symm⟩
  case rest=>
   obtain⟨rfl,rfl⟩:=hcut;clear A7 D7 E3;obtain⟨⟨c1,D6⟩,b0,b1,b4,b5,A8⟩:=L.out _ F.out;by_cases B0:N=0
   ·have HQ:=aa (A3.out _ F.out B0);have D9:((N:Int) == 0)=true:=by rw[B0];rfl
    clear A B C D E A0 R P A5 A6 Z A4 Y A3 A1 L F B0;go_wp2_with fail
    go_ret
    exact⟨⟨true,rfl⟩,HQ⟩
   ·have D9:((N:Int) == 0)=false:=by simp;omega
    have B7:0<N:=by omega
    have B6:=aa B7;have hj:bO x N<N:=kz x N B7;obtain⟨g,rfl,E1,e0⟩:=A4.out _ F.out B7;have C6:Hid (∀W,Calls yP 13 #[iV .i64 x,iV .i64 N] W fun e w'=>e=rV (iV .i64 (bO x N))/\w'=W):=fun W=>Y.out W B6.out
    generalize bO x N=j at*;have E2:(j:Int)<(N:Int):=by omega
    clear B0 A3 Y;go_upto_region 10 with(go_quiet ((go_at_call 13;refine Calls.quiet_of_same (C6.out _))))
    have B5:=aa (A1.out _ nq F.out);clear c1 D6 b0 b1 b4 b5 A8 E1 e0 F C6 E2 hj;generalize wc.drewN nq=w1 at*;obtain⟨_,b0,b1,b4,b5,A8⟩:=L.out _ B5.out;have C4:=aa (Z.out _ B5.out);go_wp2_with fail
    refine C4.out.mono ?_;rintro e w3 ⟨rfl,D1⟩;have A2:=aa D1;clear C4 D1 b0 b1 b4 b5 A8 B5;obtain⟨_,b0,b1,b4,b5,A8⟩:=L.out _ A2.out;obtain⟨r4,B9⟩:=A6.out _ A2.out B6.out;obtain⟨f,u,i,w',J,⟨⟨kr,kb⟩,kf,kw⟩,D2⟩:=A5.out _ A2.out B6.out;have O:=aa J;have C9:=aa D2;clear J D2 A5 A6 A4 A1 Z;go_upto_region 11 with fail
    go_cut [10] (fun r wx=>r=sV H/\Hid (I1 f u i wx))
    case first=>
     clear A B C D E A0 R P L A2;refine wG 11 (fun w'=>w'.cell? ⟨rb,4,none⟩=some (lV U X cs)/\w'.cell? ⟨w.heap.size,4,none⟩=some (sV s)) (by kernel_rfl) (by go_keep) (fun D8=>?_);iterate 7 (refine wH (v:=?_) rfl (by kernel_rfl) (fun _ _ _ h=>h) D8 (Or.inl ⟨by rfl,?_⟩) ?_;rotate_left;(intro w E0;(try dsimp only at E0);go_simp;try with_reducible rfl);(try simp only[Act.put,List.setIfInBounds_toArray,List.set_cons_zero,List.set_cons_succ]))
     refine iK rfl (by kernel_rfl) (fun K o=>?_);go_simp
     refine o.out _ _ (fun _=>?s7) ?r7;case s7=>((try dsimp only);go_keep)
     clear o K;refine iK rfl (by kernel_rfl) (fun K o=>?_);refine xt rfl (.tmp 66) (.tmp 69) 63 rfl (lV U X cs) (lV (qA w3.heap.size) 1 1) (lV f u i) w' (by simp[Act.eval]) (by simp[Act.eval]) O.out ?_;refine o.out _ _ (fun _=>?s8) ?r8;case s8=>((try dsimp only);go_keep)
     clear o K;refine iK rfl (by kernel_rfl) (fun K o=>?_);go_simp
     refine o.out _ _ (fun _=>?s9) ?r9;case s9=>((try dsimp only);go_keep)
     clear o K;refine iK rfl (by kernel_rfl) (fun K o=>?_);go_simp
     refine o.out _ _ (fun _=>?s10) ?r10;case s10=>((try dsimp only);go_keep)
     clear o K;refine iK rfl (by kernel_rfl) (fun K o=>?_);go_simp
     refine o.out _ _ (fun h=>absurd rfl h) ?r11;clear o K;refine wI (by kernel_rfl) ?_ _;go_wp2_with fail
     go_meet
     exact⟨rfl,C9⟩
    case rest=>
     obtain⟨rfl,D0⟩:=hcut;clear O C9 kr kb kf kw r4 B9 b0 b1 b4 b5 A8 A2;generalize wc=w4 at*;obtain⟨r4,B9⟩:=P.out _ _ _ _ D0.out;obtain⟨a2,n2,c2,w2,v2,J,⟨kv,kf,kw⟩,D3⟩:=R.out _ _ _ _ D0.out;have O:=aa J;have M:=aa D3;clear J D3 R P;go_upto_region 13 with(at_builtin;refine jq rfl (.tmp 77) (.tmp 79) 63 rfl _ _ (lV a2 n2 c2) w2 rfl rfl O.out ?_)
     obtain⟨w5,C0⟩:=yX (w2.setCell ⟨rb,4,none⟩ (lV a2 n2 c2))
     rw[<-C0] at M;try rw[<-C0]
     clear C0 O kv kf kw r4 B9;obtain⟨b0,b1,b2,b3,b4,b5,A9⟩:=A0.out _ M.out;by_cases h36:k=36
     ·have m:=aa (A.out _ M.out h36);subst h36;clear A B C D E;go_wp2_with fail
      refine m.out.mono ?_;rintro e w9 ⟨⟨b,rfl⟩,p⟩;have G:=aa p;clear p m b0 b1 b2 b3 b4 b5 A9;go_wp2_with fail
      go_ret
      exact⟨⟨b,rfl⟩,G⟩
     have E5:(k == 36)=false:=by simpa using h36
     clear h36;by_cases h37:k=37
     ·have m:=aa (B.out _ M.out h37);subst h37;clear A B C D E;go_wp2_with fail
      refine m.out.mono ?_;rintro e w9 ⟨⟨b,rfl⟩,p⟩;have G:=aa p;clear p m b0 b1 b2 b3 b4 b5 A9;go_wp2_with fail
      go_ret
      exact⟨⟨b,rfl⟩,G⟩
     have E6:(k == 37)=false:=by simpa using h37
     clear h37;by_cases h38:k=38
     ·have m:=aa (C.out _ M.out h38);subst h38;clear A B C D E;go_wp2_with fail
      refine m.out.mono ?_;rintro e w9 ⟨⟨b,rfl⟩,p⟩;have G:=aa p;clear p m b0 b1 b2 b3 b4 b5 A9;go_wp2_with fail
      go_ret
      exact⟨⟨b,rfl⟩,G⟩
     have E7:(k == 38)=false:=by simpa using h38
     clear h38;by_cases h39:k=39
     ·have m:=aa (D.out _ M.out h39);subst h39;clear A B C D E;go_wp2_with fail
      refine m.out.mono ?_;rintro e w9 ⟨⟨b,rfl⟩,p⟩;have G:=aa p;clear p m b0 b1 b2 b3 b4 b5 A9;go_wp2_with fail
      go_ret
      exact⟨⟨b,rfl⟩,G⟩
     have E8:(k == 39)=false:=by simpa using h39
     clear h39;have m:=aa (E.out _ M.out);clear A B C D E;go_wp2_with fail
     refine m.out.mono ?_;rintro e w9 ⟨⟨b,rfl⟩,p⟩;have G:=aa p;clear p m b0 b1 b2 b3 b4 b5 A9;go_wp2_with fail
     go_ret
     exact⟨⟨b,rfl⟩,G⟩
end Go.Proofs.YtiimkkahmpmhdaaGreatDoor
