import Derived.Test.YtiimkkahmpmhdaaGreatDoorT
open Go.Proofs.Tryz
open Go.Proofs.Tryz renaming prog→yP
open Go.Value renaming string→sV,pointer→pV,int→iV,slice→lV,bool→bV,tuple→tV,agg→gV
open Go.Ending renaming returned→rV
namespace Go.Proofs.YtiimkkahmpmhdaaGreatDoor
open Go.RowKit
set_option maxRecDepth 100000
set_option maxHeartbeats 0
set_option linter.all false
def du(base:Nat)(w:World)(v:Value)(q:List yB):Prop:=∃a cap,v=lV a q.length cap/\q.length<=cap/\((a=none/\cap=0)\/∃g o,a=some ⟨g,o,none⟩/\base<=g/\g<w.heap.size/\∀i p,q[i]? =some p->w.cell? ⟨g,o+i,none⟩=some (sV p))
theorem du.texts{base w v q}(h:du base w v q):fD w v q:=by
 obtain⟨a,cap,rfl,b,h|⟨g,o,h1,_,_,h4⟩⟩:=h
 ·exact⟨a,cap,rfl,.inl (Rm.1 (by omega))⟩
 ·exact⟨a,cap,rfl,.inr ⟨g,o,h1,h4⟩⟩
theorem du.below{base w w' v q}(h:du base w v q)(b:yW w w'):du base w' v q:=by
 obtain⟨a,cap,rfl,c,h|⟨g,o,h1,h2,h3,h4⟩⟩:=h
 ·exact⟨a,cap,rfl,c,.inl h⟩
 ·exact⟨a,cap,rfl,c,.inr ⟨g,o,h1,h2,Q6 h3 b.size,fun i p d=>dC b (h4 i p d)⟩⟩
theorem mP{w:World}{base v}{l:List yB}(h:w.ownsRow base 9 1 v l.length (l.map Value.string)):du base w v l:=by
 obtain⟨a,cap,rfl,b,_,f⟩:=dr h;refine⟨a,cap,rfl,b,?_⟩;rcases f with⟨h1,h0,h2⟩|⟨g,rfl⟩
 ·exact .inl ⟨h1,h2⟩
 ·exact .inr ⟨g,0,rfl,(h.lt g rfl).1,(h.lt g rfl).2,fun i p c=>by
   rw[R5];exact dK h rfl i _ (by rw[Rp,c];rfl)⟩
theorem JZ{w:World}{g base}{cs:List yB}(h:w.heap[g]? =some (.cells (cs.map Value.string).toArray 9 (0,0)))(a:base<=g)(b:cs.length<=maxLen):w.ownsRow base 9 1 (lV (qA g) cs.length cs.length) cs.length (cs.map Value.string):=
 ⟨by simp,.inr ⟨g,cs.length,_,rfl,a,h,QU _,b,by simp,by rw[Nat.mul_one];exact RI (by simp)⟩⟩
theorem Jr(n:Nat)(z)(cs:List Value)(h:cs.length=n):splice (List.replicate n z) 0 cs=cs:=by
 subst h;simp[splice]
theorem Ex:(yP.info? 9).map (·.size)=some 1:=by
 obtain⟨i,hi,_,h,_⟩:=Sf ng;rw[hi];exact congrArg some h
theorem OR{w:World}{base g cap i}{cs:List yB}(h:w.ownsRow base 9 1 (lV (qA g) cs.length cap) cs.length (cs.map Value.string))(hi:i<cs.length):du base w (lV (some ⟨g,i,none⟩) (cs.length - i) (cap - i)) (cs.drop i):=by
 obtain⟨_,_,e,b,_,_⟩:=dr h;cases e
 refine⟨_,_,by rw[Q8],by rw[Q8];omega,.inr ⟨g,i,rfl,(h.lt g rfl).1,(h.lt g rfl).2,fun j p a=>?_⟩⟩;rw[Sw] at a;exact dK h rfl _ _ (by rw[Rp,a];rfl)
theorem IW{w:World}{base g cap i}{cs:List yB}(h:w.ownsRow base 9 1 (lV (qA g) cs.length cap) cs.length (cs.map Value.string))(hi:i<cs.length):du base w (lV (qA g) i cap) (cs.take i):=by
 obtain⟨_,_,e,c,_,_⟩:=dr h;cases e
 have b:(cs.take i).length=i:=by rw[Rs];omega
 refine⟨_,_,by rw[b],by rw[b];omega,.inr ⟨g,0,rfl,(h.lt g rfl).1,(h.lt g rfl).2,fun j p a=>?_⟩⟩;rw[Sm] at a;split at a
 ·rw[R5];exact dK h rfl _ _ (by rw[Rp,a];rfl)
 ·cases a
theorem uC{w:World}{base g cap i}{cs:List yB}(h:w.ownsRow base 9 1 (lV (qA g) cs.length cap) cs.length (cs.map Value.string))(t):(w.setCell ⟨g,i,none⟩ (sV t)).ownsRow base 9 1 (lV (qA g) (cs.set i t).length cap) (cs.set i t).length ((cs.set i t).map Value.string):=by
 have:=ss h (g:=g) rfl i (sV t);rw[R3,List.map_set];exact this
theorem vj{cs:List yB}{i t c}(h:c∈cs.set i t):c=t\/c∈cs:=by
 rcases List.mem_or_eq_of_mem_set h with h|h
 ·exact .inr h
 ·exact .inl h
theorem MQ(z)(n:Nat):madeCells #[z] n=(List.replicate n z).toArray:=by
 apply Array.ext';apply SK;intro j;by_cases a:j<n
 ·simp[madeCells,a,Nat.mod_one]
 ·simp[madeCells,a]
theorem x9{w W:World}{base t a n v b}(h:w.ownsRow base t a v n b)(c:yW w W):W.ownsRow base t a v n b:=cK h fun g d=>c.block g (h.lt g d).2
theorem PI(x:Int)(h:∃y,x=IntKind.u8.wrap y):∃c:UInt8,x=(c.toNat:Int):=by
 obtain⟨y,rfl⟩:=h;refine⟨UInt8.ofNat (y % 256).toNat,?_⟩;have h1:(y % 256).toNat<256:=by omega
 rw[SB,UInt8.toNat_ofNat_of_lt' h1];omega
theorem Hh(c:UInt8):wrap64 (c.toNat:Int)=(c.toNat:Int):=by
 have:=c.toNat_lt;unfold wrap64;omega
def lQ(w:World)(e:Ending)(w':World):Prop:=∃v q,e=rV v/\du w.heap.size w' v q/\q.length<=91/\(∀c∈q,c.size<=1073741824)/\yW w w'
theorem vZ{b w w'}(h:Below b w w')(g i:Nat)(v)(c:b<=g):Below b w (w'.setCell ⟨g,i,none⟩ v):=
 ⟨h.os,h.tape,h.output,by simpa using h.size,fun k a=>by rw[Rq _ _ _ k (by show k≠g;omega)];exact h.block k a⟩
theorem Nw(w a)(cap:Nat)(cs:List yB)(hp:fD w (lV a cs.length cap) cs)(A at_:Int)(hh:0<=A/\A<6)(E4:Rg at_)(t:yB)(ht:t.size<=1073741824)(hn:cs.length<=90)(hz:∀c∈cs,c.size<=4096):
 Calls yP 48 #[lV a cs.length cap,iV .i64 A,iV .i64 at_,sV t] w (lQ w):=by
 have C7:0<(cs.map Value.string).length->∃G,a=some G/\∀W,yW w W->∀j v,(cs.map Value.string)[j]? =some v->W.cell? (G.add j)=some v:=fun h0=>by
  obtain⟨a',F0,e,hp⟩:=hp;cases e
  rcases hp with rfl|⟨g,o,rfl,m⟩
  ·simp at h0
  ·refine⟨_,rfl,fun W L j v q=>?_⟩;have E3:(⟨g,o,none⟩:Addr).add j=⟨g,o+j,none⟩:=by unfold Addr.add;split<;>simp_all
   rw[Rp] at q;cases O:cs[j]? with
   |none=>rw[O] at q;cases q
   |some c=>
    rw[O] at q;injection q with q;rw[E3,<-q];exact dC L (m j c O)
 have B7:=aa C7;obtain⟨N,T⟩:=yX cs.length
 obtain⟨i0,C4,C8,C9,D0⟩:=Sf ng;have E8:=run_make_row' (P:=yP) 63 9 (sV ⟨#[]⟩) 16 underlying63 ng rfl .i64 .i64 N (by omega) (by omega) w;have A2:Hid ((w.alloc (.cells (madeCells #[Value.string ⟨#[]⟩] N) 9)).heap[w.heap.size]? =some (.cells (List.replicate N (Value.string ⟨#[]⟩)).toArray 9 (0,0))):=by
  show _=_;rw[Rl,MQ]
 have A0:Hid (yW w (w.alloc (.cells (madeCells #[Value.string ⟨#[]⟩] N) 9))):=(Q1 _ _).alloc (QU _) _;rw[<-T];generalize w.alloc (.cells (madeCells #[Value.string ⟨#[]⟩] N) 9)=W0 at*;have B6:Hid (∀W,0<N->Calls yP 13 #[iV .i64 at_,iV .i64 N] W fun e w'=>e=rV (iV .i64 (bO at_ N))/\w'=W):=fun W h0=>pk at_ N E4 h0 (by omega) W
 have B3:0<N->bO at_ N<N:=kz at_ N;have D4:Hid (splice (List.replicate N (Value.string ⟨#[]⟩)) 0 (cs.map Value.string)=cs.map Value.string):=Jr N _ _ (by rw[Rr];exact T.symm);have M:Hid ((cs.map Value.string).length=N):=by show _=_;rw[Rr];exact T.symm
 have y:=aa hz;have f:=aa T;have F7:N<=90:=by omega
 clear hp C7 hn hz T;generalize bO at_ N=I at*;obtain⟨w1,E6,B8,A9⟩:∃w1,(Builtin.copy_ #[63,63] 3 #[lV (qA w.heap.size) N N,lV a N cap]).run yP W0=.ok (iV .i64 (N:Int)) w1/\w1.heap[w.heap.size]? =some (.cells (cs.map Value.string).toArray 9 (0,0))/\yW w w1:=by
  by_cases U:N=0
  ·refine⟨W0,?_,?_,A0.out⟩
   ·have:=run_copy_none (P:=yP) W0 63 63 3 9 (qA w.heap.size) a N N N cap underlying63 Ex (by rw[U];rfl);rw[U] at this⊢;exact this
   ·have:=A2.out;have C2:=M.out;rw[U] at this C2;rw[Rm.1 C2];exact this
  ·obtain⟨G,rfl,E9⟩:=B7.out (by rw[M.out];omega);have:=run_copy_row (P:=yP) W0 63 63 3 9 w.heap.size 0 N N G N cap (List.replicate N (Value.string ⟨#[]⟩)).toArray 9 (cs.map Value.string) underlying63 Ex A2.out (by rw[M.out];exact(Nat.min_self N).symm) (E9 W0 A0.out) (by rw[M.out];simp) (fun v q=>by obtain⟨c,_,rfl⟩:=Rt.1 q;rfl);refine⟨_,by rw[this,M.out];rfl,?_,below_setRow A0.out (QU _) _⟩;rw[R7 W0 w.heap.size _ _ _ _ A2.out];have e:List.take 0 (List.replicate N (Value.string ⟨#[]⟩)).toArray.toList++cs.map Value.string++List.drop (0+N) (List.replicate N (Value.string ⟨#[]⟩)).toArray.toList=cs.map Value.string:=by simp
   rw[e]
 go_enter func48,ntmps48
 have B4:=JZ (base:=w.heap.size) (cs:=cs) (g:=w.heap.size) (w:=w1) B8 (by omega) (by have:=f.out;unfold maxLen;omega);rw[<-f.out] at B4;have p:=aa B4;have B:=aa A9;have A4:=A9.size;have A5:Hid (∀(w2:World) (g2 s:Nat),w2.ownsRow w.heap.size 9 1 (lV (qA g2) (N+1) s) (N+1) (cs.map Value.string++[sV t])->yW w w2->lQ w (rV (lV (qA g2) (N+1) s)) w2):=fun w2 g2 s ho hb=>by
  refine⟨_,cs++[t],rfl,mP (by rw[Q4,R9,<-f.out];exact ho),by rw[Q4,<-f.out];simp;omega,fun c m=>?_,hb⟩;rcases Re.1 m with m|m
  ·have:=y.out c m;omega
  ·rw[Q2.1 m];exact ht
 clear B8 A9 B4;by_cases h0:A=0
 ·subst h0;go_wp2_with (at_builtin;refine RG _ rfl (.tmp 30) (.tmp 32) 63 rfl w.heap.size 9 i0 (sV ⟨#[]⟩) 1 16 underlying63 C4 C8 C9 D0 rfl (by decide) _ N (cs.map Value.string) rfl (p.out.alloc _) ⟨w1.heap.size,0,none⟩ 1 1 [sV t] rfl rfl (So _ _ _) ?fa2 (by omega) ?fa3 ?fa4 ?fa5 _ rfl ?fa6)
  case fa2=>first|rfl| (intro v q;simp at q;subst q;rfl)
  case fa3=>unfold maxLen;omega
  case fa4=>omega
  case fa5=>first|omega| (simp;omega)
  intro g2 s w2 Y V B0 B2;have l:Hid (lQ w (rV (lV (qA g2) (N+1) s)) w2):=A5.out w2 g2 s Y ((B.out.alloc A4 _).grown V (by simp;omega) (fun k hk=>(p.out.lt k hk).1));clear Y V B0 B2;go_wp2_with fail
  go_ret
  exact l.out
 ·have F3:(A == 0)=false:=by simpa using h0
  by_cases U:N=0
  ·have E1:((N:Int) == 0)=true:=by simp;omega
   clear U;go_wp2_with (at_builtin;refine RG _ rfl (.tmp 30) (.tmp 32) 63 rfl w.heap.size 9 i0 (sV ⟨#[]⟩) 1 16 underlying63 C4 C8 C9 D0 rfl (by decide) _ N (cs.map Value.string) rfl (p.out.alloc _) ⟨w1.heap.size,0,none⟩ 1 1 [sV t] rfl rfl (So _ _ _) ?fb2 (by omega) ?fb3 ?fb4 ?fb5 _ rfl ?fb6)
   case fb2=>first|rfl| (intro v q;simp at q;subst q;rfl)
   case fb3=>unfold maxLen;omega
   case fb4=>omega
   case fb5=>first|omega| (simp;omega)
   intro g2 s w2 Y V B0 B2;have l:Hid (lQ w (rV (lV (qA g2) (N+1) s)) w2):=A5.out w2 g2 s Y ((B.out.alloc A4 _).grown V (by simp;omega) (fun k hk=>(p.out.lt k hk).1));clear Y V B0 B2;go_wp2_with fail
   go_ret
   exact l.out
  ·have E1:((N:Int) == 0)=false:=by simp;omega
   have G1:(I:Int)<(N:Int):=by have:=B3 (by omega);omega
   have D7:=B3 (by omega);have D:I<cs.length:=by rw[<-f.out];exact D7
   have C1:cs[I]? =some (cs[I]'D):=QV D;have ci:=dK p.out (g:=w.heap.size) rfl I (sV (cs[I]'D)) (by rw[Rp,C1];rfl);have fi:=ju p.out (g:=w.heap.size) rfl I;have C:=aa (B6.out w1 (by omega));have A6:Hid (∀(j:Nat) (c:yB),c.size<=1073741824->lQ w (rV (lV (qA w.heap.size) N N)) (w1.setCell ⟨w.heap.size,j,none⟩ (sV c))):=fun j c m=>by
    have n:=p.out;rw[f.out] at n;have:=uC (i:=j) n c;refine⟨_,cs.set j c,rfl,mP (by rw[R3] at this⊢;rw[f.out];exact this),by rw[R3,<-f.out];omega,fun d u=>?_,vZ B.out _ _ _ (QU _)⟩;rcases vj u with rfl|u
    ·exact m
    ·have:=y.out d u;omega
   have F:Hid ((cs[I]'D).size<=1073741824):=by have:=y.out _ (RV D);show _<=_;omega
   have A8:Hid (∀(i j:Nat) (c d:yB),c.size<=1073741824->d.size<=1073741824->lQ w (rV (lV (qA w.heap.size) N N)) ((w1.setCell ⟨w.heap.size,i,none⟩ (sV d)).setCell ⟨w.heap.size,j,none⟩ (sV c))):=fun i j c d m u=>by
    have n:=p.out;rw[f.out] at n;have h1:=uC (i:=i) n d;have h2:=uC (i:=j) h1 c;refine⟨_,(cs.set i d).set j c,rfl,mP (by rw[R3,R3] at h2⊢;rw[f.out];exact h2),by rw[R3,R3,<-f.out];omega,fun x Z=>?_,vZ (vZ B.out _ _ _ (QU _)) _ _ _ (QU _)⟩;rcases vj Z with rfl|Z
    ·exact m
    ·rcases vj Z with rfl|Z
     ·exact u
     ·have:=y.out x Z;omega
   generalize cs[I]'D=CI at*;clear C1;have E5:A=1\/A=2\/A=3\/A=4\/A=5:=by omega
   rcases E5 with rfl|rfl|rfl|rfl|rfl
   ·have l:=aa (A6.out I t ht);go_wp2_with fail
    refine C.out.mono ?_;rintro e E ⟨rfl,r⟩;subst r;go_wp2_with fail
    go_ret
    exact l.out
   ·have l:Hid (lQ w (rV (lV (qA w.heap.size) I N)) w1):=by
     have n:=p.out;rw[f.out] at n⊢;exact⟨_,cs.take I,rfl,IW n D,by rw[Rs];omega,fun c m=>by have:=y.out c (List.mem_of_mem_take m);omega,B.out⟩
    go_wp2_with fail
    refine C.out.mono ?_;rintro e E ⟨rfl,r⟩;subst r;go_wp2_with fail
    go_ret
    exact l.out
   ·obtain⟨J,hJ⟩:=yX ((I+1) % N)
    have D8:J<N:=by rw[hJ];exact Nat.mod_lt _ (by omega)
    have eJ:((I:Int)+1) % (N:Int)=(J:Int):=by rw[hJ,Int.natCast_emod];rfl
    have eT:((I:Int)+1).tmod (N:Int)=(J:Int):=by rw[Int.tmod_eq_emod_of_nonneg (by omega)];exact eJ
    have F5:(J:Int)<(N:Int):=by omega
    have H:J<cs.length:=by rw[<-f.out];exact D8
    have O:cs[J]? =some (cs[J]'H):=QV H;have cj:=dK p.out (g:=w.heap.size) rfl J (sV (cs[J]'H)) (by rw[Rp,O];rfl);have fj:=ju p.out (g:=w.heap.size) rfl J;have l:Hid (lQ w (rV (lV (qA w.heap.size) N N)) ((w1.setCell ⟨w.heap.size,I,none⟩ (sV (cs[J]'H))).setCell ⟨w.heap.size,J,none⟩ (sV CI))):=A8.out I J CI (cs[J]'H) F.out (by have:=y.out _ (RV H);omega);clear hJ O;by_cases B9:J=I
    ·subst B9;have D2:=aa (A8.out J J CI CI F.out F.out);have D3:=aa (A6.out J CI F.out);clear cj fj l;go_wp2_with fail
     refine C.out.mono ?_;rintro e E ⟨rfl,r⟩;subst r;go_wp2_with fail
     go_ret
     first|exact D2.out|exact D3.out
    ·have F4:I≠J:=fun e=>B9 e.symm
     generalize cs[J]'H=CJ at*;go_wp2_with fail
     refine C.out.mono ?_;rintro e E ⟨rfl,r⟩;subst r;go_wp2_with fail
     go_ret
     exact l.out
   ·obtain⟨s,w2,C3,B5,B1,G2⟩:=O9 w1 CI (by have:=F.out;unfold maxLen;omega);have R:=aa B5;have Q:Hid (yW w1 w2):=B1;have D5:=dC B1 ci;have F9:CI.size<=s:=by obtain⟨_,_,_,_,_,h,_⟩:=B5;exact h
    have A7:Hid (∀(W:World) (j:Nat) (c:yB),yW w1 W->c.size<=1073741824->lQ w (rV (lV (qA w.heap.size) N N)) (W.setCell ⟨w.heap.size,j,none⟩ (sV c))):=fun W j c L m=>by
     have n:=x9 p.out L;rw[f.out] at n;have:=uC (i:=j) n c;refine⟨_,cs.set j c,rfl,mP (by rw[R3] at this⊢;rw[f.out];exact this),by rw[R3,<-f.out];omega,fun d u=>?_,vZ (B.out.trans (L.mono A4)) _ _ _ (QU _)⟩;rcases vj u with rfl|u
     ·exact m
     ·have:=y.out d u;omega
    have A1:Hid (∀W,yW w1 W->lQ w (rV (lV (qA w.heap.size) N N)) W):=fun W L=>by
     have n:=x9 p.out L;rw[f.out] at n;refine⟨_,cs,rfl,mP (by rw[f.out];exact n),by rw[<-f.out];omega,fun d u=>?_,B.out.trans (L.mono A4)⟩;have:=y.out d u;omega
    clear B5 B1 A6 A8 A5;have E7:=F.out;by_cases hC:0<CI.size
    ·have D6:(0:Int)<(CI.size:Int):=by omega
     by_cases hT:0<t.size
     ·have E2:(0:Int)<(t.size:Int):=by omega
      obtain⟨K,S⟩:∃K:Nat,((t[0]'hT).toNat:Int).tmod (CI.size:Int)=(K:Int)/\K<CI.size:=⟨(t[0]'hT).toNat % CI.size,by rw[Int.tmod_eq_emod_of_nonneg (by omega)];omega,Nat.mod_lt _ hC⟩
      obtain⟨S,D9⟩:=S;have E0:((t[0]'hT).toNat:Int) % (CI.size:Int)=(K:Int):=by rw[<-S,Int.tmod_eq_emod_of_nonneg (by omega)]
      have F6:(K:Int)<(CI.size:Int):=by omega
      obtain⟨b,hb⟩:∃b:UInt8,CI.data.toList[K]? =some b:=⟨_,QV (by simpa using D9)⟩
      have ck:w2.cell? ⟨w1.heap.size,K,none⟩=some (iV .u8 (b.toNat:Int)):=by
       have h:=R.out.cell K (iV .u8 (b.toNat:Int)) (by unfold bI;rw[Rp,hb];rfl);rw[GI] at h;exact h
      have fk:=R.out.free K (by omega);go_wp2_with fail
      refine C.out.mono ?_;rintro e z ⟨rfl,r⟩;subst r;go_upto_region 21 with fail
      have C0:(wrap64 ((t[0]'hT).toNat:Int)).tmod (CI.size:Int)=(K:Int):=by rw[Hh,S]
      rw[C0];clear C0 S E0;go_cut [] (fun E=>∃c:UInt8,E=(w2.setCell ⟨z.heap.size,K,none⟩ (iV .u8 (c.toNat:Int))).drew)
      case first=>
       have C5:wrap64 ((t.size:Int) - 1)=(t.size:Int) - 1:=by unfold wrap64;omega
       obtain⟨X,hX⟩:∃X:UInt8,∀W,(Instr.index 9 (sV t) (iV .i64 ((t.size:Int) - 1))).run yP W=.ok (iV .u8 (X.toNat:Int)) W:=⟨_,fun W=>by rw[run_index_string W _ _ _ _ underlying9,dif_pos (by omega)]⟩
       have F8:∀W,(Instr.index 9 (sV t) (iV .i64 (wrap64 ((t.size:Int) - 1)))).run yP W=.ok (iV .u8 (X.toNat:Int)) W:=fun W=>by rw[C5];exact hX W
       clear C5 A1 A7 B6 B3 B7 y M D4 A2 A0 E8 E6 p B f ci fi C C3 R Q D5 F;go_region
       go_wp2_with fail
       go_meet
       obtain⟨c,m⟩:=PI (bits BinOp.xor IntKind.u8 (b.toNat:Int) (X.toNat:Int)) ⟨_,rfl⟩;exact⟨c,by rw[m]⟩
      case rest=>
       obtain⟨c,rfl⟩:=hcut;have C6:gM (w2.setCell ⟨z.heap.size,K,none⟩ (iV .u8 (c.toNat:Int))).drew z.heap.size 5 z.heap.size s CI.size (bI (CI.data.toList.set K c)):=by
        have:=R.out.set K (iV .u8 (c.toNat:Int));unfold bI at this⊢;rw[List.map_set];exact this
       have G0:=C6.conv;have A3:yW z (w2.setCell ⟨z.heap.size,K,none⟩ (iV .u8 (c.toNat:Int))).drew:=(Q.out.setCell (QU _) _).drew;have l:=A7.out _ I (str (CI.data.toList.set K c)) A3 (by show(CI.data.toList.set K c).toArray.size<=_;simp;exact E7);have D1:=aa l;have F1:=dC A3 ci;have F2:(w2.setCell ⟨z.heap.size,K,none⟩ (iV .u8 (c.toNat:Int))).drew.frozen? ⟨w.heap.size,I,none⟩=false:=ju (x9 p.out A3) (g:=w.heap.size) rfl I;clear l C6 A3 C3 ck fk R Q A1 A7;generalize (w2.setCell ⟨z.heap.size,K,none⟩ (iV .u8 (c.toNat:Int))).drew=W3 at*;go_wp2_with fail
       go_ret
       exact D1.out
     ·have E2:¬(0:Int)<(t.size:Int):=by omega
      have l:=aa (A1.out w2 Q.out);go_wp2_with fail
      refine C.out.mono ?_;rintro e E ⟨rfl,r⟩;subst r;go_wp2_with fail
      go_ret
      exact l.out
    ·have D6:¬(0:Int)<(CI.size:Int):=by omega
     have l:=aa (A1.out w2 Q.out);go_wp2_with fail
     refine C.out.mono ?_;rintro e E ⟨rfl,r⟩;subst r;go_wp2_with fail
     go_ret
     exact l.out
   ·have l:Hid (lQ w (rV (lV (some ⟨w.heap.size,I,none⟩) (N - I) (N - I))) w1):=by
     have n:=p.out;rw[f.out] at n⊢;exact⟨_,cs.drop I,rfl,OR n D,by rw[Q8,<-f.out];omega,fun c m=>by have:=y.out c (List.mem_of_mem_drop m);omega,B.out⟩
    go_wp2_with fail
    refine C.out.mono ?_;rintro e E ⟨rfl,r⟩;subst r;go_wp2_with fail
    go_ret
    first|exact l.out| (have e1:((N:Int) - (I:Int)).toNat=N - I:=by omega;simpa [e1] using l.out)
theorem Qw(w:World)(v)(n:Nat)(base:Nat)(i:List Value)(h:w.ownsRow base 9 1 v n i)(a)(c:Nat)(e:a=none->c=0):
 (Builtin.append_ #[63,63] 63 #[v,lV a 0 c]).run yP w=.ok v w:=by
 obtain⟨i0,b,k,l,m⟩:=Sf ng;obtain⟨j,cap,rfl,d,_,f⟩:=dr h;cases a with
 |none=>
  obtain rfl:=e rfl;rcases f with⟨rfl,rfl,rfl⟩|⟨g,rfl⟩
  ·simp[Builtin.append_,run_underlying underlying63,sizeOf,typeInfo,b,Builtin.lenOf,Builtin.firstCells]
  ·simp[Builtin.append_,run_underlying underlying63,sizeOf,typeInfo,b,Builtin.lenOf,Builtin.firstCells,d,storeCells]
 |some ad=>
  rcases f with⟨rfl,rfl,rfl⟩|⟨g,rfl⟩
  ·simp[Builtin.append_,run_underlying underlying63,sizeOf,typeInfo,b,Builtin.lenOf,Builtin.firstCells,loadCells,loadCellsFrom]
  ·simp[Builtin.append_,run_underlying underlying63,sizeOf,typeInfo,b,Builtin.lenOf,Builtin.firstCells,d,storeCells,loadCells,loadCellsFrom]
theorem tA(w:World)(base:Nat)(v)(cs:List yB)(i:w.ownsRow base 9 1 v cs.length (cs.map Value.string))(b:Nat)(m)(q:List yB)(C:du b w m q)(h63:cs.length+q.length<=4200000000000)(t:base<=w.heap.size):
 ∃v' w',(Builtin.append_ #[63,63] 63 #[v,m]).run yP w=.ok v' w'/\w'.ownsRow base 9 1 v' (cs++q).length ((cs++q).map Value.string)/\w.grownBy w' v.ownBlock/\(∀g,v'.ownBlock=some g->v.ownBlock=some g\/w.heap.size<=g):=by
 obtain⟨i0,z,E,F,G⟩:=Sf ng;obtain⟨a,c,rfl,K,l⟩:=C;rw[R9,Q4];by_cases A:q.length=0
 ·have e:q=[]:=Rm.1 A;subst e;refine⟨v,w,Qw w v _ base _ i a c fun n=>?_,by simpa using i,⟨rfl,rfl,rfl,QU _,fun _ _ _=>rfl⟩,fun g f=>.inl f⟩;rcases l with⟨_,h⟩|⟨g,o,h,_⟩
  ·exact h
  ·rw[n] at h;cases h
 ·rcases l with⟨_,h⟩|⟨g,o,rfl,J,L,y⟩
  ·omega
  ·obtain⟨I,H,w',D,B,f,s,_⟩:=run_append_lies (P:=yP) w 63 63 base 9 i0 (sV ⟨#[]⟩) 1 16 underlying63 z E F G rfl (by decide) v cs.length (cs.map Value.string) i ⟨g,o,none⟩ q.length c (q.map Value.string) (by simp) (fun j u d=>by
    have r:(⟨g,o,none⟩:Addr).add j=⟨g,o+j,none⟩:=by unfold Addr.add;split<;>simp_all
    rw[Rp] at d;cases hqj:q[j]? with
    |none=>rw[hqj] at d;cases d
    |some p=>rw[hqj] at d;injection d with d;rw[r,<-d];exact y j p hqj) (fun u d=>by obtain⟨p,_,rfl⟩:=Rt.1 d;rfl) (by omega) (by unfold maxLen;omega) (by omega) t _ rfl
   refine⟨_,w',D,B,f,fun x k=>?_⟩;injection k with k;subst k;rcases s with h|h
   ·exact .inl h
   ·exact .inr (Nat.le_of_eq h.symm)
theorem gd.after{l l1}{L:jm}{w w1}{B:dI}{c b a v cs w'}(m:Mv (fun x=>x=L.tr\/x=L.bk) l l1 w w1)(e:∀g,B.mv.ownBlock=some g->g<w.heap.size)(d:∀g,B.bv.ownBlock=some g->g<w.heap.size)(h:gd l1 L w1 B c b a v cs w'):gd l L w B c b a v cs w':=by
 obtain⟨l2,S,f,b0,h⟩:=h;exact⟨l2,S,f,b0,⟨m.trans h.mv,h.bk,h.cI,h.row,Q7 m.size h.low,h.hi,h.aM,e,d⟩⟩
theorem gd.append{l L w B y t s v cs w1}(h:gd l L w B y t s v cs w1)(n:L.ok)(b:Nat)(j)(q:List yB)(C:du b w1 j q)(h63:cs.length+q.length<=4200000000000):
 ∃c w',(Builtin.append_ #[63,63] 63 #[v,j]).run yP w1=.ok c w'/\gd l L w B y t s c (cs++q) w':=by
 obtain⟨l1,m,u,b0,h⟩:=h;obtain⟨c,w',D,r,a,o⟩:=tA w1 b0 v cs h.row b j q C h63 h.hi;refine⟨c,w',D,?_⟩;cases hv:v.ownBlock with
 |none=>
  have p:yW w1 w':=⟨a.os,a.tape,a.output,a.size,fun k d=>a.block k d fun e=>by rw[hv] at e;cases e⟩
  have i:=Mv.below (fun _=>False) l1 p;refine⟨_,m,u,b0,⟨h.mv.trans (i.mono fun _ f=>f.elim),h.bk.move i id id id,h.cI.move i id id,r,h.low,Q7 h.hi p.size,fun g z=>?_,h.mm,h.bb⟩⟩;rcases o g z with e|e
  ·rw[hv] at e;cases e
  ·exact nr e
 |some g=>
  have g1:w.heap.size<=g:=Q7 h.low (h.row.lt g hv).1;have g2:l1 g=0:=h.aM g hv;have g3:∀k,k<w1.heap.size->k≠g->w'.heap[k]? =w1.heap[k]? :=fun k d A=>a.block k d fun e=>A (by rw[hv] at e;injection e)
  refine⟨_,m,u,b0,⟨h.mv.row a.os a.tape a.output a.size g3 g1,h.bk.row n a.size g3 g2 (fun e=>by have:=h.mm g e;omega) (fun e=>by have:=h.bb g e;omega),h.cI.row n g3 g2,r,h.low,Q7 h.hi a.size,fun x f=>?_,h.mm,h.bb⟩⟩;rcases o x f with e|e
  ·rw[hv] at e;injection e with e;subst e;rw[j5 (h.row.lt g hv).2];exact g2
  ·exact nr e
theorem du.one(w:World)(x):du 0 (w.alloc (.cells #[sV x] 9)) (lV (qA w.heap.size) 1 1) [x]:=
 ⟨_,_,rfl,QU _,.inr ⟨w.heap.size,0,rfl,Ri _,by simp,fun i p a=>by
  have hi:=(Rb.1 a).1
  simp at hi
  subst hi
  simp at a
  subst a
  exact PB _ _ _⟩⟩
def Fj(b:Bool)(a:yB)(m:List (yB×yB))(key:yB)(cs q:List yB):Bool:=
 if gf a key q≠0 then(eo a key q).toList.isEmpty
 else if eo a key q=dj m key then true
 else if cQ (cs++q++[aX]) (cs++q++[aX]).length=true then true
 else b
def Fi(G:yB->Option yB)(b a:Bool)(t:Nd)(m:List (yB×yB))(key:yB)(q:List yB):Bool:=
 if 40<key.size then true
 else if cE G t key≠0 then bQ b a (cE G t key)
 else Fj a (str (bM (bg G t key))) m key ((bj G t key).map str) q
def Fk(G:yB->Option yB)(b a:Bool)(t:Nd)(m:List (yB×yB))(key:yB)(q:List yB):Bool:=qt G b a t m key && Fi G b a (bg G t key) m key q
def sX(G:yB->Option yB)(b a:Bool)(t:Nd)(m:List (yB×yB))(key:yB):Nd:=if qt G b a t m key=true then bg G (bg G t key) key else bg G t key
def QE(n:Nat)(v:Value)(P:Value->Prop):Prop:=∃a cap,v=lV a n cap/\P v
theorem Oo(w W0:World)(g J H:Nat)(mv:Value)(o f:Bool)(k x y z:Int)(key t)(C5:W0=w.alloc (.cells #[iV .i64 k,iV .i64 x,iV .i64 y,iV .i64 z,sV key,sV t] 33))(_hbl:g<w.heap.size)
 (s:World->Prop) (d:Value->List yB->World->Prop) (m:Bool) (E:Int) (cs:List yB) (RT l:yB)
 (A8:Hid (Calls yP 21 #[pV (qA g),sV key] W0 fun e w'=>e=rV (bV m)/\s w'))
 (V:Hid (∀W,s W->W.cell? ⟨g,1,none⟩=some (pV (qA J))/\W.cell? ⟨w.heap.size,4,none⟩=some (sV key)/\s W.drew/\g<W.heap.size/\w.heap.size<W.heap.size))
 (B8:Hid (∀W,s W->Calls yP 45 #[pV (qA J),sV key] W fun e w'=>∃v a cap,v=lV a cs.length cap/\e=rV (tV #[v,iV .i64 E])/\d v cs w'))
 (K:Hid (∀v c W,d v c W->(W.cell? ⟨g,1,none⟩=some (pV (qA J))/\W.cell? ⟨g,2,none⟩=some mv/\W.cell? ⟨g,4,none⟩=some (pV (qA H))/\W.cell? ⟨H,0,none⟩=some (bV o)/\W.cell? ⟨H,1,none⟩=some (bV f))/\(W.cell? ⟨w.heap.size,2,none⟩=some (iV .i64 y)/\W.cell? ⟨w.heap.size,3,none⟩=some (iV .i64 z)/\W.cell? ⟨w.heap.size,4,none⟩=some (sV key)/\W.cell? ⟨w.heap.size,5,none⟩=some (sV t))/\g<W.heap.size/\w.heap.size<W.heap.size))
 (D:Hid (∀v c W n,d v c W->yW W n->d v c n))
 (D8:Hid (∀W,Calls yP 32 #[sV key,sV ⟨#[]⟩] W fun e w'=>e=rV (bV (decide (40<key.size)))/\w'=W))
 (B3:Hid (∀W c,W.cell? ⟨g,4,none⟩=some (pV (qA H))->W.cell? ⟨H,0,none⟩=some (bV o)->W.cell? ⟨H,1,none⟩=some (bV f)->Calls yP 33 #[pV (qA g),iV .i64 c] W fun r w'=>r=rV (bV (bQ o f c))/\w'=W))
 (E5:Hid (∀v W,d v cs W->Calls yP 38 #[pV (qA J)] W fun e w2=>e=rV (sV RT)/\yW W w2))
 (E1:Hid (∀W,Calls yP 13 #[iV .i64 z,iV .i64 6] W fun e w'=>e=rV (iV .i64 (bO z 6))/\w'=W))
 (D6:Hid (∀a cap W,d (lV a cs.length cap) cs W->Calls yP 48 #[lV a cs.length cap,iV .i64 (bO z 6),iV .i64 y,sV t] W fun e w'=>∃i j q,e=rV (lV i q.length j)/\du W.heap.size w' (lV i q.length j) q/\q.length<=91/\(∀c∈q,c.size<=1073741824)/\yW W w'))
 (E6:Hid (∀v W i j b (q:List yB),d v cs W->du b W (lV i q.length j) q->q.length<=91->(∀c∈q,c.size<=1073741824)->Calls yP 47 #[sV RT,sV key,lV i q.length j] W fun e w2=>e=rV (tV #[sV (eo RT key q),iV .i64 (gf RT key q)])/\yW W w2))
 (D7:Hid (∀v W n,d v cs W->n.heap=W.heap->Calls yP 36 #[mv,sV key] n fun e w'=>e=rV (sV l)/\w'=n))
 (A9:Hid (∀v c W b vq q,d v c W->du b W vq q->c.length+q.length<=1000->∃v' w',(Builtin.append_ #[63,63] 63 #[v,vq]).run yP W=.ok v' w'/\d v' (c++q) w'))
 (D5:Hid (∀v q W,d v (cs++q++[aX]) W->(∀c∈q,c.size<=1073741824)->q.length<=91->Calls yP 46 #[v] W fun e w'=>e=rV (bV (cQ (cs++q++[aX]) (cs++q++[aX]).length))/\yW W w'))
 (F2:cs.length<=81):
 Calls yP 22 #[pV (qA g),fX k x y z key t] w fun e w'=>∃q,e=rV (bV (m && (if 40<key.size then true else if E≠0 then bQ o f E else if gf RT key q≠0 then(eo RT key q).toList.isEmpty else if eo RT key q=l then true else if cQ (cs++q++[aX]) (cs++q++[aX]).length=true then true else f)))/\((m=false/\s w')\/(m=true/\∃v c,d v c w')):=by
 unfold fX;have D9:Hid (bQ o f 0=f):=by show _=_;unfold bQ;simp
 generalize hQ:(fun(e:Ending) (w':World)=>∃q,e=rV (bV (m && (if 40<key.size then true else if E≠0 then bQ o f E else if gf RT key q≠0 then(eo RT key q).toList.isEmpty else if eo RT key q=l then true else if cQ (cs++q++[aX]) (cs++q++[aX]).length=true then true else f)))/\((m=false/\s w')\/(m=true/\∃v c,d v c w')))=Q;have A0:Hid (m=false->∀w',s w'->Q (rV (bV false)) w'):=fun h1 w' h2=>by rw[<-hQ];exact⟨[],by rw[h1];rfl,.inl ⟨h1,h2⟩⟩
 have A1:Hid (m=true->∀(q:List yB) (w':World) (A:Bool),A=(if 40<key.size then true else if E≠0 then bQ o f E else if gf RT key q≠0 then(eo RT key q).toList.isEmpty else if eo RT key q=l then true else if cQ (cs++q++[aX]) (cs++q++[aX]).length=true then true else f)->(∃v c,d v c w')->Q (rV (bV A)) w'):=fun h1 q w' A h2 h3=>by rw[<-hQ];exact⟨q,by rw[h1,h2];rfl,.inr ⟨h1,h3⟩⟩
 clear hQ;have U:Hid (Calls yP 21 #[pV (qA g),sV key] (w.alloc (.cells #[iV .i64 k,iV .i64 x,iV .i64 y,iV .i64 z,sV key,sV t] 33)) fun e w'=>e=rV (bV m)/\s w'):=by rw[<-C5];exact A8
 clear A8 C5;suffices hs:Calls yP 22 #[pV (qA g),gV #[iV .i64 k,iV .i64 x,iV .i64 y,iV .i64 z,sV key,sV t]] w (fun e w'=>Q e w'/\True) from hs.mono fun e w' h=>h.1
 cases m with
 |false=>
  have E0:Hid (∀w',s w'->Q (rV (bV false)) w'):=A0.out rfl;clear A1 A0;go_enter func22,ntmps22
  go_wp2_with fail
  refine U.out.mono ?_;rintro e w1 ⟨rfl,G⟩;obtain⟨c1,c4,T,C9,D0⟩:=V.out w1 G;have p:=aa (E0.out _ G);clear G T;go_wp2_with fail
  go_ret
  exact⟨p.out,trivial⟩
 |true=>
  have A3:Hid (∀(q:List yB) (w':World) (A:Bool),A=(if 40<key.size then true else if E≠0 then bQ o f E else if gf RT key q≠0 then(eo RT key q).toList.isEmpty else if eo RT key q=l then true else if cQ (cs++q++[aX]) (cs++q++[aX]).length=true then true else f)->(∃v c,d v c w')->Q (rV (bV A)) w'):=A1.out rfl;clear A1 A0;go_enter func22,ntmps22
  go_wp2_with fail
  refine U.out.mono ?_;rintro e w1 ⟨rfl,G⟩;obtain⟨c1,c4,T,C9,D0⟩:=V.out w1 G;have B9:=aa (B8.out _ T);clear T G B8 V;go_upto_region 4 with fail
  go_cut [6,7] (fun v r B=>r=iV .i64 E/\QE cs.length v (fun v=>d v cs B))
  case first=>
   go_region_with (go_at_call 45;refine B9.out.mono ?_;rintro e w2 ⟨v,a,cap,rfl,rfl,S⟩)
   all_goals
    go_wp2_with fail
    go_meet
    exact⟨rfl,_,_,rfl,S⟩
  case rest=>
   obtain⟨rfl,a,cap,rfl,S⟩:=hcut;have F:=aa S;clear S c1 c4 C9 D0 B9 U;generalize wc=w2 at*;obtain⟨⟨d1,d2,d4,e0,e1⟩,⟨b2,b3,b4,b5⟩,g1,g2⟩:=K.out _ _ _ F.out;go_wp2_with fail
   refine(D8.out _).mono ?_;rintro e B ⟨rfl,F0⟩;subst F0;by_cases h40:40<key.size
   ·rw[Ra h40];go_wp2_with fail
    go_ret
    exact⟨A3.out [] _ true (by rw[QX h40]) ⟨_,_,F.out⟩,trivial⟩
   ·rw[Q9 h40];have A2:Hid (∀(q:List yB) (w':World) (A:Bool),A=(if E≠0 then bQ o f E else if gf RT key q≠0 then(eo RT key q).toList.isEmpty else if eo RT key q=l then true else if cQ (cs++q++[aX]) (cs++q++[aX]).length=true then true else f)->(∃v c,d v c w')->Q (rV (bV A)) w'):=fun q w' A h2 h3=>A3.out q w' A (by rw[QW h40];exact h2) h3
    clear A3;by_cases L:E=0
    ·have E7:(E != 0)=false:=by simpa using L
     have B6:Hid (∀(q:List yB) (w':World) (A:Bool),A=(if gf RT key q≠0 then(eo RT key q).toList.isEmpty else if eo RT key q=l then true else if cQ (cs++q++[aX]) (cs++q++[aX]).length=true then true else f)->(∃v c,d v c w')->Q (rV (bV A)) w'):=fun q w' A h2 h3=>A2.out q w' A (by rw[QW (by simpa using L)];exact h2) h3
     clear A2 L;have C2:=aa (E5.out _ _ F.out);go_wp2_with fail
     refine C2.out.mono ?_;rintro e w3 ⟨rfl,C7⟩;have M:=aa (D.out _ _ _ _ F.out C7);clear C7 F C2 d1 d2 d4 e0 e1 b2 b3 b4 b5 g1 g2;obtain⟨⟨d1,d2,d4,e0,e1⟩,⟨b2,b3,b4,b5⟩,g1,g2⟩:=K.out _ _ _ M.out;go_wp2_with fail
     refine(E1.out _).mono ?_;rintro e C ⟨rfl,A7⟩;subst A7;have B1:=aa (D6.out _ _ _ M.out);go_wp2_with fail
     refine B1.out.mono ?_;rintro e w4 ⟨i,j,q,rfl,hq,D1,D2,C8⟩;have N:=aa (D.out _ _ _ _ M.out C8);have A4:=aa hq;have C1:=aa D2;have R:=aa D1;clear C8 M B1 hq D2 D1 d1 d2 d4 e0 e1 b2 b3 b4 b5 g1 g2;obtain⟨⟨d1,d2,d4,e0,e1⟩,⟨b2,b3,b4,b5⟩,g1,g2⟩:=K.out _ _ _ N.out;have C3:=aa (E6.out _ _ _ _ _ _ N.out A4.out R.out C1.out);go_wp2_with fail
     refine C3.out.mono ?_;rintro e w5 ⟨rfl,A6⟩;have O:=aa (D.out _ _ _ _ N.out A6);have C0:=aa (A4.out.below A6);clear A6 N A4 C3 d1 d2 d4 e0 e1 b2 b3 b4 b5 g1 g2;obtain⟨⟨d1,d2,d4,e0,e1⟩,⟨b2,b3,b4,b5⟩,g1,g2⟩:=K.out _ _ _ O.out;have P:Hid (∀(w':World) (A:Bool),A=(if gf RT key q≠0 then(eo RT key q).toList.isEmpty else if eo RT key q=l then true else if cQ (cs++q++[aX]) (cs++q++[aX]).length=true then true else f)->(∃v c,d v c w')->Q (rV (bV A)) w'):=fun w' A=>B6.out q w' A
     clear B6;have B2:Hid (∀n,n.heap=w5.heap->Calls yP 36 #[mv,sV key] n fun e w'=>e=rV (sV l)/\w'=n):=fun n h=>D7.out _ _ _ O.out h
     go_upto_region 15 with(go_quiet ((go_at_call 36;refine Calls.quiet_of_same (B2.out _ rfl))))
     have Z:=aa (D.out _ _ _ _ O.out (gB (Q1 _ _) nq));have E2:=aa (C0.out.below (gB (Q1 _ _) nq));clear O C0 B2 d1 d2 d4 e0 e1 b2 b3 b4 b5 g1 g2;generalize w5.drewN nq=w7 at*;generalize hVS:eo RT key q=VS at*;generalize hVC:gf RT key q=VC at*;clear hVS hVC;by_cases u:VC=0
     ·have E9:(VC != 0)=false:=by simpa using u
      by_cases I:VS=l
      ·have E8:(VS.toList == l.toList)=true:=by rw[fZ];exact Ra I
       have p:Hid (Q (rV (bV true)) w7):=P.out _ _ (by rw[QW (by simpa using u),QX I]) ⟨_,_,Z.out⟩;clear I u;go_wp2_with fail
       go_ret
       exact⟨p.out,trivial⟩
      ·have E8:(VS.toList == l.toList)=false:=by rw[fZ];exact Q9 I
       obtain⟨v8,w8,D3,C4⟩:=A9.out _ _ _ _ _ _ Z.out E2.out (by have:=R.out;omega);have B5:Hid (d v8 (cs++q) (w8.alloc (.cells #[sV aX] 9))):=D.out _ _ _ _ C4 ((Q1 _ _).alloc (QU _) _);obtain⟨v9,w9,D4,A5⟩:=A9.out _ _ _ 0 (lV (qA w8.heap.size) 1 1) [aX] B5.out (du.one w8 aX) (by have:=R.out;rw[Q4,Sa];omega);have B0:=aa (D5.out _ _ _ A5 C1.out R.out);have B4:=aa A5;have B7:Hid (∀(w':World) (A:Bool),A=(if cQ (cs++q++[aX]) (cs++q++[aX]).length=true then true else f)->(∃v c,d v c w')->Q (rV (bV A)) w'):=fun w' A h2 h3=>P.out w' A (by rw[QW (by simpa using u),QW I];exact h2) h3
       have E3:=aa D3;have E4:=aa D4;clear D3 D4 C4 A5 B5 P I;generalize cQ (cs++q++[aX]) (cs++q++[aX]).length=CK at*;go_wp2_with (at_builtin;first| (refine jq rfl (.tmp 78) (.tmp 79) 63 rfl _ _ v8 w8 rfl rfl E3.out ?_) | (refine jq rfl (.tmp 81) (.tmp 82) 63 rfl _ _ v9 w9 rfl rfl E4.out ?_))
       refine B0.out.mono ?_;rintro e w10 ⟨rfl,C6⟩;have Y:=aa (D.out _ _ _ _ B4.out C6);clear C6 B0 B4;obtain⟨⟨_,_,d4,e0,e1⟩,_,g1,g2⟩:=K.out _ _ _ Y.out;cases CK with
       |true=>
        have p:Hid (Q (rV (bV true)) w10):=B7.out _ _ (by rw[QX rfl]) ⟨_,_,Y.out⟩;go_wp2_with fail
        go_ret
        exact⟨p.out,trivial⟩
       |false=>
        have p:Hid (Q (rV (bV f)) w10):=B7.out _ _ (by rw[QW Bool.false_ne_true]) ⟨_,_,Y.out⟩;have X:Hid (Calls yP 33 #[pV (qA g),iV .i64 0] w10 fun r w'=>r=rV (bV f)/\w'=w10):=by rw[<-D9.out];exact B3.out w10 0 d4 e0 e1
        subst u;go_wp2_with fail
        refine X.out.mono ?_;rintro e wz ⟨rfl,F1⟩;subst F1;go_wp2_with fail
        go_ret
        exact⟨p.out,trivial⟩
     ·have E9:(VC != 0)=true:=by simpa using u
      have p:Hid (Q (rV (bV VS.toList.isEmpty)) w7):=P.out _ _ (by rw[QX (by simpa using u)]) ⟨_,_,Z.out⟩;clear u;go_wp2_with fail
      go_ret
      exact⟨p.out,trivial⟩
    ·have E7:(E != 0)=true:=by simpa using L
     have X:=aa (B3.out B E d4 e0 e1);go_wp2_with fail
     refine X.out.mono ?_;rintro e C ⟨rfl,A7⟩;subst A7;go_wp2_with fail
     go_ret
     exact⟨A2.out [] _ _ (by rw[QX (by simpa using L)]) ⟨_,_,F.out⟩,trivial⟩
end Go.Proofs.YtiimkkahmpmhdaaGreatDoor
