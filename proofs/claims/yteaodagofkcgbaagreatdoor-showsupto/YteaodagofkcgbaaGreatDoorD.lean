import Derived.Test.YteaodagofkcgbaaGreatDoorB
import Derived.Test.YteaodagofkcgbaaGreatDoorC
open Go.Proofs.Tryz
open Go.Proofs.Tryz renaming prog→yP
open Go.Value renaming string→sV,pointer→pV,int→iV,slice→lV,bool→bV,tuple→tV,agg→gV
open Go.Ending renaming returned→rV
namespace Go.Proofs.YteaodagofkcgbaaGreatDoor
open Go.RowKit
set_option maxRecDepth 100000
set_option maxHeartbeats 0
set_option linter.all false
def T6(d:Nat)(w:World)(r:Except Nat (Tree×Nat))(e:Ending)(w':World):Prop:=
 match r with
 | .error c=>e=rV (tV #[gV #[bV false,sV ByteArray.empty,lV none 0 0],iV .i64 0,iV .i64 c])
 | .ok (x,u)=>∃l t a m c,e=rV (tV #[gV #[bV l,sV t,lV a m c],iV .i64 u,iV .i64 0])/\bg d w' (λb=>w.heap.size<=b) [bV l,sV t,lV a m c] x
def xX(d:Nat):Prop:=∀(w:World) (s:yB) (a:Nat),s.size<=4096->a+d=7->
 yC 127 #[sV s,iV .i64 a] w λe w'=>T6 d w (dr d s.data.toList) e w'/\yW w w'
def Uf(d:Nat)(w:World)(r:Except Nat (List Tree))(e:Ending)(w':World):Prop:=
 match r with
 | .error c=>e=rV (tV #[lV none 0 0,iV .i64 c])/\c≠0
 | .ok ks=>∃k xs,e=rV (tV #[k,iV .i64 0])/\ik w' (λb=>w.heap.size<=b) k ks.length xs/\ks.length<=64/\∀i,i<ks.length->bg d w' (λb=>w.heap.size<=b) ((xs.drop (3*i)).take 3) (ks.getD i (ak []))
def BO(d:Nat):Prop:=∀(w:World) (s:yB) (a:Nat),s.size<=4096->a+d=7->
 yC 144 #[sV s,iV .i64 a] w λe w'=>Uf d w (eR (dr d) 64 s.data.toList) e w'/\yW w w'
def DF(s)(l:Bool)(f n c:Nat)(h:lJ s l f n=.error c):c=5:=by
 unfold lJ at h;by_cases h1:s.length - f<n
 .rw[Uj h1] at h;cases h;rfl
 rw[Ui h1] at h;cases h
def AM(s)(c:Nat)(h:fE s=.error c):c=5\/c=7:=by
 by_cases h0:s.length=0
 .rw[Hl s h0] at h;cases h;exact .inl rfl
 by_cases h1:(s.getD 0 0).toNat<128
 .rw[Hn s h0 _ rfl h1] at h;cases h
 by_cases h2:(s.getD 0 0).toNat - (if 192<=(s.getD 0 0).toNat then 192 else 128)<=55
 .rw[Hk s h0 _ _ rfl h1 rfl h2] at h;exact .inl (DF _ _ _ _ _ h)
 rw[Ho s h0 _ _ rfl h1 rfl h2] at h;generalize (s.getD 0 0).toNat - (if 192<=(s.getD 0 0).toNat then 192 else 128) - 55=q at h;by_cases h3:gL (s.drop 1) q=0
 .rw[Uj h3] at h;exact .inl (DF _ _ _ _ _ h)
 rw[Ui h3] at h;cases h;unfold gL at h3⊢;by_cases h4:(s.drop 1).length<q
 .rw[Uj h4];exact .inl rfl
 rw[Ui h4] at h3⊢;by_cases h5:((s.drop 1).getD 0 0).toNat=0\/be ((s.drop 1).take q)<=55
 .rw[Uj h5];exact .inr rfl
 rw[Ui h5] at h3;exact absurd rfl h3
def yD(d:Nat)(s)(c:Nat)(h:fE s=.error c):dr d s=.error c:=by unfold dr;rw[h]
def yE(d:Nat)(s)(f n:Nat)(h:fE s=.ok (false,f,n))(b:0<f)(a:fN ((s.drop f).take n)=true):dr d s=.error 7:=by
 unfold dr;rw[h];simp only;rw[Uj trivial,Uj ⟨b,a⟩]
def yA(d:Nat)(s)(f n:Nat)(h:fE s=.ok (false,f,n))(a:¬(0<f/\fN ((s.drop f).take n)=true)):dr d s=.ok (ak ((s.drop f).take n),f+n):=by
 unfold dr;rw[h];simp only;rw[Uj trivial,Ui a]
def Dh(s)(f n:Nat)(h:fE s=.ok (true,f,n)):dr 0 s=.error 8:=by
 unfold dr;rw[h];simp
def Dg(d:Nat)(s)(f n c:Nat)(h:fE s=.ok (true,f,n))(a:eR (dr d) 64 ((s.drop f).take n)=.error c):dr (d+1) s=.error c:=by
 conv=>lhs;unfold dr
 rw[h];simp only[Bool.true_eq_false,UT];rw[a]
def Df(d:Nat)(s)(f n:Nat)(ks:List Tree)(h:fE s=.ok (true,f,n))(a:eR (dr d) 64 ((s.drop f).take n)=.ok ks):dr (d+1) s=.ok (bJ ks,f+n):=by
 conv=>lhs;unfold dr
 rw[h];simp only[Bool.true_eq_false,UT];rw[a]
def Sn(s:yB)(f t:Nat):(s.extract f t).data.toList=(s.data.toList.drop f).take (t - f):=Lib.extract_data s f t
def zi{w w1 w2:World}{x y z p q r:Value}{T:TypeId}(b:w.heap.size<w1.heap.size)(k0:w1.cell? ⟨w.heap.size,0,none⟩=some x)(k1:w1.cell? ⟨w.heap.size,1,none⟩=some y)(k2:w1.cell? ⟨w.heap.size,2,none⟩=some z)(f0:w1.frozen? ⟨w.heap.size,0,none⟩=false) (f1:w1.frozen? ⟨w.heap.size,1,none⟩=false) (f2:w1.frozen? ⟨w.heap.size,2,none⟩=false)(c:Below (w1.alloc (.cells #[p,q,r] T)).heap.size (w1.alloc (.cells #[p,q,r] T)) w2):w2.cell? ⟨w.heap.size,0,none⟩=some x/\w2.cell? ⟨w.heap.size,1,none⟩=some y/\w2.cell? ⟨w.heap.size,2,none⟩=some z/\w2.frozen? ⟨w.heap.size,0,none⟩=false/\w2.frozen? ⟨w.heap.size,1,none⟩=false/\w2.frozen? ⟨w.heap.size,2,none⟩=false/\w2.cell? ⟨w1.heap.size,2,none⟩=some r:=by
 obtain⟨h1,h2⟩:=sA c;have a:w.heap.size<(w1.alloc (.cells #[p,q,r] T)).heap.size:=by simp;omega
 refine⟨?_,?_,?_,?_,?_,?_,?_⟩
 .rwa[h1 _ _ a,World.cell?_alloc_lt _ _ _ b]
 .rwa[h1 _ _ a,World.cell?_alloc_lt _ _ _ b]
 .rwa[h1 _ _ a,World.cell?_alloc_lt _ _ _ b]
 .rwa[h2 _ _ a,World.frozen?_alloc_past _ _ _ b]
 .rwa[h2 _ _ a,World.frozen?_alloc_past _ _ _ b]
 .rwa[h2 _ _ a,World.frozen?_alloc_past _ _ _ b]
 rw[h1 _ _ (by simp)];simp
def sy{n w w1}(h:Below n w w1)(a b c):Below n w (((w1.setCell ⟨n,0,none⟩ a).setCell ⟨n,1,none⟩ b).setCell ⟨n,2,none⟩ c):=
 ((h.setCell (Ug _) _).setCell (Ug _) _).setCell (Ug _) _
def oB{n w w1}(h:Below n w w1)(d:n<w1.heap.size)(a b c)(o:Obj):Below n w ((((w1.setCell ⟨n,0,none⟩ a).setCell ⟨n,1,none⟩ b).setCell ⟨n,2,none⟩ c).alloc o):=
 (sy h a b c).alloc (by simp[World.setCell];omega) o
def zl(d:Nat)(I:∀e,d=e+1->BO e):xX d:=by
 intro w s J hs B7;have z:s.data.toList.length=s.size:=by simp
 have x:=λw=>RG s hs w
 cases hh:fE s.data.toList with
 |error c=>
  rw[yD d _ c hh];have A2:=AM _ _ hh;rw[hh] at x;have p:yH (∀w,yC 142 #[sV s] w λe w'=>e=rV (tV #[gV #[bV false,i6 0,i6 0],i6 c])/\yW w w'):=x;have B0:((c:Int) != 0)=true:=by simp;omega
  clear x hh z A2;go_enter func127,ntmps127
  go_wp2_with fail
  refine(p.o _).mono ?_;rintro e w1⟨rfl,g⟩;obtain⟨k0,k1,k2,f0,f1,f2⟩:=iB g;have q:yH (yW w w1):=((Un _ _).alloc (Ug _) _).trans (g.mono (by simp));have m:w.heap.size<w1.heap.size:=by have:=g.size;simp at this;omega
  clear g;go_wp2;exact UB (v:=tV #[gV #[bV false,sV ⟨#[]⟩,lV none 0 0],i6 0,i6 (c:Int)]) (by simp[results,results127,go_sem,k0,k1,k2,m]) rfl ⟨rfl,oB q.o m _ _ _ _⟩
 |ok lfn=>
  obtain⟨l,f,n⟩:=lfn;obtain⟨H,G⟩:=AL _ l f n hh;have A3:f+n<=s.size:=by
   rcases G with⟨_,rfl,rfl,_⟩|⟨_,h,_⟩
   .rw[z] at H;omega
   rw[z] at h;exact h
  rw[hh] at x;have p:yH (∀w,yC 142 #[sV s] w λe w'=>e=rV (tV #[gV #[bV l,i6 f,i6 ((f+n:Nat):Int)],i6 0])/\yW w w'):=x;have u:(s.extract f (f+n)).data.toList=(s.data.toList.drop f).take n:=by rw[Sn,Nat.add_sub_cancel_left]
  have B:(s.extract f (f+n)).size=n:=by simp only[ByteArray.size_extract];omega
  have A8:yH ((s.extract f (f+n)).data.toList=(s.data.toList.drop f).take n):=u;obtain⟨t,j⟩:=yX (f+n);rw[<-j] at A3;have B6:f<=t:=by omega
  have P:yH (t=f+n):=j;cases l with
  |false=>
   by_cases r:0<f/\fN ((s.data.toList.drop f).take n)=true
   .rw[yE d _ f n hh r.1 r.2];have Y:(0:Int)<(f:Int):=by omega
    have F:=λw=>xM (s.extract f t) w
    rw[j,u,r.2] at F;have O:yH (∀w,yC 143 #[sV (s.extract f t)] w λe w'=>e=rV (bV true)/\w'=w):=by rw[j];exact F
    clear x hh z H G r F u B I;rw[<-j] at p;clear j;go_enter func127,ntmps127
    go_wp2_with fail
    refine(p.o _).mono ?_;rintro e w1⟨rfl,g⟩;obtain⟨k0,k1,k2,f0,f1,f2⟩:=iB g;have q:yH (yW w w1):=((Un _ _).alloc (Ug _) _).trans (g.mono (by simp));have m:w.heap.size<w1.heap.size:=by have:=g.size;simp at this;omega
    clear g;go_wp2_with fail
    refine(O.o _).mono ?_;rintro e w2⟨rfl,T⟩;subst T;go_wp2;exact UB (v:=tV #[gV #[bV false,sV ⟨#[]⟩,lV none 0 0],i6 0,i6 7]) (by simp[results,results127,go_sem,k0,k1,k2,m]) rfl ⟨rfl,oB q.o m _ _ _ _⟩
   rw[yA d _ f n hh r];have U:yH (∀W:World,bg d W (λb=>w.heap.size<=b) [bV false,sV (s.extract f t),lV none 0 0] (ak ((s.data.toList.drop f).take n))):=by
    intro W;have:=nw d W (λb=>w.heap.size<=b) (s.extract f t) (lV none 0 0) (by rw[j,B];omega);rw[j,u,<-j] at this;exact this
   by_cases Y:f=0
   .subst Y;rw[<-j] at p;clear x hh z H G r u B I j;go_enter func127,ntmps127
    go_wp2_with fail
    refine(p.o _).mono ?_;rintro e w1⟨rfl,g⟩;obtain⟨k0,k1,k2,f0,f1,f2⟩:=iB g;have q:yH (yW w w1):=((Un _ _).alloc (Ug _) _).trans (g.mono (by simp));have m:w.heap.size<w1.heap.size:=by have:=g.size;simp at this;omega
    clear g;go_wp2;go_region
    all_goals go_wp2
    all_goals exact UB (v:=tV #[gV #[bV false,sV (s.extract 0 t),lV none 0 0],i6 (t:Int),i6 0]) (by simp[results,results127,go_sem,k0,k1,k2,m]) rfl ⟨⟨false,s.extract 0 t,none,0,0,by rw[<-P.o],U.o _⟩,(oB q.o m _ _ _ _).drew⟩
   have X:fN ((s.data.toList.drop f).take n)=false:=by
    cases h:fN ((s.data.toList.drop f).take n) with
    |false=>rfl
    |true=>exact absurd ⟨by omega,h⟩ r
   have B5:(0:Int)<(f:Int):=by omega
   have F:=λw=>xM (s.extract f t) w
   rw[j,u,X] at F;have O:yH (∀w,yC 143 #[sV (s.extract f t)] w λe w'=>e=rV (bV false)/\w'=w):=by rw[j];exact F
   rw[<-j] at p;clear x hh z H G r u B I j F X;go_enter func127,ntmps127
   go_wp2_with fail
   refine(p.o _).mono ?_;rintro e w1⟨rfl,g⟩;obtain⟨k0,k1,k2,f0,f1,f2⟩:=iB g;have q:yH (yW w w1):=((Un _ _).alloc (Ug _) _).trans (g.mono (by simp));have m:w.heap.size<w1.heap.size:=by have:=g.size;simp at this;omega
   clear g;go_wp2_with fail
   refine(O.o _).mono ?_;rintro e w2⟨rfl,T⟩;subst T;go_wp2;go_region
   all_goals go_wp2
   all_goals exact UB (v:=tV #[gV #[bV false,sV (s.extract f t),lV none 0 0],i6 (t:Int),i6 0]) (by simp[results,results127,go_sem,k0,k1,k2,m]) rfl ⟨⟨false,s.extract f t,none,0,0,by rw[<-P.o],U.o _⟩,(oB q.o m _ _ _ _).drew⟩
  |true=>
   cases d with
   |zero=>
    rw[Dh _ f n hh];have A5:(6:Int)<(J:Int):=by omega
    rw[<-j] at p;clear x hh z H G u B I j;go_enter func127,ntmps127
    go_wp2_with fail
    refine(p.o _).mono ?_;rintro e w1⟨rfl,g⟩;obtain⟨k0,k1,k2,f0,f1,f2⟩:=iB g;have q:yH (yW w w1):=((Un _ _).alloc (Ug _) _).trans (g.mono (by simp));have m:w.heap.size<w1.heap.size:=by have:=g.size;simp at this;omega
    clear g;go_wp2;exact UB (v:=tV #[gV #[bV false,sV ⟨#[]⟩,lV none 0 0],i6 0,i6 8]) (by simp[results,results127,go_sem,k0,k1,k2,m]) rfl ⟨rfl,oB q.o m _ _ _ _⟩
   |succ d=>
    have A5:¬((6:Int)<(J:Int)):=by omega
    have E:=λw=>I d rfl w (s.extract f t) (J+1) (by rw[j,B];omega) (by omega)
    have Q:((J+1:Nat):Int)=(J:Int)+1:=by omega
    rw[j,u,<-j,Q] at E;cases hk:eR (dr d) 64 ((s.data.toList.drop f).take n) with
    |error c=>
     rw[Dg d _ f n c hh hk];rw[hk] at E;have M:yH (∀w:World,yC 144 #[sV (s.extract f t),i6 ((J:Int)+1)] w λe w'=>Uf d w (.error c) e w'/\yW w w'):=E;rw[<-j] at p;clear x hh z H G u B I j E hk Q;go_enter func127,ntmps127
     go_wp2_with fail
     refine(p.o _).mono ?_;rintro e w1⟨rfl,g⟩;obtain⟨k0,k1,k2,f0,f1,f2⟩:=iB g;have q:yH (yW w w1):=((Un _ _).alloc (Ug _) _).trans (g.mono (by simp));have m:w.heap.size<w1.heap.size:=by have:=g.size;simp at this;omega
     clear g;go_wp2_with fail
     refine(M.o _).mono ?_;rintro e w2⟨⟨rfl,B3⟩,y⟩;have B4:((c:Int) != 0)=true:=by simp;omega
     obtain⟨m0,m1,m2,q0,q1,q2,a2⟩:=zi m k0 k1 k2 f0 f1 f2 y;have N:yH (yW w w2):=(q.o.alloc (Nat.le_of_lt m) _).trans (y.mono (by simp;omega));have A7:w.heap.size<w2.heap.size:=by have:=y.size;simp at this;omega
     clear y;go_wp2;exact UB (v:=tV #[gV #[bV false,sV ⟨#[]⟩,lV none 0 0],i6 0,i6 (c:Int)]) (by simp[results,results127,go_sem,m0,m1,m2]) rfl ⟨rfl,sy N.o _ _ _⟩
    |ok ks=>
     rw[Df d _ f n ks hh hk];rw[hk] at E;have M:yH (∀w:World,yC 144 #[sV (s.extract f t),i6 ((J:Int)+1)] w λe w'=>Uf d w (.ok ks) e w'/\yW w w'):=E;rw[<-j] at p;clear x hh z H G u B I j E hk Q;go_enter func127,ntmps127
     go_wp2_with fail
     refine(p.o _).mono ?_;rintro e w1⟨rfl,g⟩;obtain⟨k0,k1,k2,f0,f1,f2⟩:=iB g;have q:yH (yW w w1):=((Un _ _).alloc (Ug _) _).trans (g.mono (by simp));have m:w.heap.size<w1.heap.size:=by have:=g.size;simp at this;omega
     clear g;go_wp2_with fail
     refine(M.o _).mono ?_;rintro e w2⟨⟨k,xs,rfl,R,h64,Z⟩,y⟩;obtain⟨C,D,A4⟩:∃C D,k=lV C ks.length D:=by
      rcases R.pe with⟨h0,a,c,rfl⟩|⟨b,o,c,rfl,_⟩
      .exact⟨a,c,by rw[h0]⟩
      exact⟨_,c,rfl⟩
     subst A4;obtain⟨K,L⟩:=yX ks.length;have A9:yH (K=ks.length):=L;obtain⟨m0,m1,m2,q0,q1,q2,a2⟩:=zi m k0 k1 k2 f0 f1 f2 y;have N:yH (yW w w2):=(q.o.alloc (Nat.le_of_lt m) _).trans (y.mono (by simp;omega));have A7:w.heap.size<w2.heap.size:=by have:=y.size;simp at this;omega
     have A0:∀(A:World),(∀b,b≠w.heap.size->A.heap[b]? =w2.heap[b]?)->bg (d+1) A (λb=>w.heap.size<=b) [bV true,sV ⟨#[]⟩,lV C ks.length D] (bJ ks):=λA h3=>by
      have V:∀b,(w1.heap.size+1<=b)->b<w2.heap.size->(w.heap.size<=b)/\A.heap[b]? =w2.heap[b]? :=λb r _=>⟨by omega,h3 b (by omega)⟩
      have A6:ik w2 (λb=>w1.heap.size+1<=b) (lV C ks.length D) ks.length xs:=by simpa using R
      refine xm d A _ _ (lV C ks.length D) ks xs (A6.move V) (by omega) (λi hi=>bg.move (w:=w2) (S:=λb=>w1.heap.size+1<=b) V d _ _ (by simpa using Z i hi))
     have A1:yH (∀(A:World),(∀b,b≠w.heap.size->A.heap[b]? =w2.heap[b]?)->bg (d+1) A (λb=>w.heap.size<=b) [bV true,sV ⟨#[]⟩,lV C K D] (bJ ks)):=by rw[L];exact A0
     rw[<-L];clear y R Z A0 L;go_wp2;go_region
     all_goals go_wp2
     all_goals exact UB (v:=tV #[gV #[bV true,sV ⟨#[]⟩,lV C K D],i6 (t:Int),i6 0]) (by simp[results,results127,go_sem,m0,m1,m2]) rfl ⟨⟨true,⟨#[]⟩,C,K,D,by rw[<-P.o],A1.o _ (λb r=>by simp[Uy,r,World.drew])⟩,(sy N.o _ _ _).drew⟩
def yF(f:yL->Except Nat (Tree×Nat))(b:∀s c,f s=.error c->c≠0):∀(m:Nat) (a) (c:Nat),eR f m a=.error c->c≠0
 | 0,a,c,h=>by
  unfold eR at h
  by_cases h0:a.length=0
  .rw[Uj h0] at h;cases h
  rw[Ui h0] at h;cases h;decide
 |m+1,a,c,h=>by
  unfold eR at h
  by_cases h0:a.length=0
  .rw[Uj h0] at h;cases h
  rw[Ui h0] at h
  simp only at h
  cases hk:f a with
  |error e=>rw[hk] at h;cases h;exact b _ _ hk
  |ok ku=>
   let⟨k,u⟩:=ku
   rw[hk] at h
   simp only at h
   cases hr:eR f m (a.drop u) with
   |error e=>rw[hr] at h;cases h;exact yF f b m _ _ hr
   |ok ks'=>rw[hr] at h;cases h
def De:∀(d:Nat) (s) (c:Nat),dr d s=.error c->c≠0:=by
 intro d;induction d with
 |zero=>
  intro s c h;cases hh:fE s with
  |error e=>rw[yD 0 s e hh] at h;cases h;have:=AM _ _ hh;omega
  |ok lfn=>
   let⟨l,f,n⟩:=lfn;cases l with
   |true=>rw[Dh s f n hh] at h;cases h;decide
   |false=>
    by_cases a:0<f/\fN ((s.drop f).take n)=true
    .rw[yE 0 s f n hh a.1 a.2] at h;cases h;decide
    rw[yA 0 s f n hh a] at h;cases h
 |succ d ih=>
  intro s c h;cases hh:fE s with
  |error e=>rw[yD (d+1) s e hh] at h;cases h;have:=AM _ _ hh;omega
  |ok lfn=>
   let⟨l,f,n⟩:=lfn;cases l with
   |true=>
    cases hk:eR (dr d) 64 ((s.drop f).take n) with
    |error e=>rw[Dg d s f n e hh hk] at h;cases h;exact yF _ ih _ _ _ hk
    |ok ks=>rw[Df d s f n ks hh hk] at h;cases h
   |false=>
    by_cases a:0<f/\fN ((s.drop f).take n)=true
    .rw[yE (d+1) s f n hh a.1 a.2] at h;cases h;decide
    rw[yA (d+1) s f n hh a] at h;cases h
def mF(ks:List Tree)(r:Except Nat (List Tree)):Except Nat (List Tree):=match r with
 | .error e=>.error e
 | .ok rs=>.ok (ks++rs)
def LL(f:yL->Except Nat (Tree×Nat))(m:Nat)(a:yL)(h:a.length=0):eR f m a=.ok []:=by unfold eR;rw[Uj h]
def LN(f:yL->Except Nat (Tree×Nat))(a:yL)(h:a.length≠0):eR f 0 a=.error 8:=by unfold eR;rw[Ui h]
def LO(f:yL->Except Nat (Tree×Nat))(m:Nat)(a:yL)(c:Nat)(h:a.length≠0)(b:f a=.error c):eR f (m+1) a=.error c:=by
 unfold eR;rw[Ui h];simp only;rw[b]
def LK(f:yL->Except Nat (Tree×Nat))(m:Nat)(a:yL)(k:Tree)(u:Nat)(h:a.length≠0)(b:f a=.ok (k,u)):eR f (m+1) a=mF [k] (eR f m (a.drop u)):=by
 conv=>lhs;unfold eR
 rw[Ui h];simp only;rw[b];simp only;unfold mF;cases eR f m (a.drop u)<;>rfl
def QW(ks:List Tree)(k:Tree)(r:Except Nat (List Tree)):mF ks (mF [k] r)=mF (ks++[k]) r:=by
 unfold mF;cases r<;>simp
def AD:(yP.info? 155).map (λi=>(i.zero,i.size,i.bytes))=some (some (gV #[bV false,sV ⟨#[]⟩,lV none 0 0]),3,48):=by kernel_rfl
def Fc(W:World)(x y z){H}(b:W.heap.size=H):∀j u,[x,y,z][j]? =some u->(W.alloc (.cells #[x,y,z] 155)).cell? ((⟨H,0,none⟩:Addr).add j)=some u:=by
 subst b;intro j u a;match j,a with
 | 0,a=>simp at a;subst a;simp[Addr.add]
 | 1,a=>simp at a;subst a;simp[Addr.add]
 | 2,a=>simp at a;subst a;simp[Addr.add]
 | (j+3),a=>simp at a
def Fe{w:World}{base v n a}(h:w.ownsRow base 155 3 v n a):ik w (λb=>base<=b) v n a:=by
 refine⟨by rw[h.1];omega,?_⟩;rcases h.2 with⟨rfl,rfl⟩|⟨g,cap,d,rfl,c,_⟩
 .exact .inl ⟨rfl,_,_,rfl⟩
 refine .inr ⟨g,0,cap,rfl,c,λj e=>?_⟩;rw[Vj];exact h.cellAt j (by omega)
def EA(d:Nat)(ih:xX d):BO d:=by
 intro w s P hs A5;obtain⟨i0,B8,C4,C5,C6⟩:=Vp AD;have S:=aa ih;have T:=aa A5;obtain⟨R,G⟩:=yX (eR (dr d) 64 s.data.toList);rw[<-G];have U:yH (∀c,R=.error c->c≠0):=λc h=>by rw[G] at h;exact yF _ (De d) _ _ _ h
 have V:R=mF [] (eR (dr d) (64 - 0) s.data.toList):=by
  rw[G];unfold mF;cases eR (dr d) 64 s.data.toList<;>rfl
 have B4:=aa V;clear ih G V A5;go_enter func144,ntmps144
 go_wp2;go_loopg [0,6] s.size (λg c v wr=>∃(b:yB)(m:Nat)(a:Option Addr)(cap:Nat)(ks:List Tree)(f:List Value),g=b.size/\b.size<=4096/\m<=64/\c=sV b/\v=lV a m cap/\
  yH (R=mF ks (eR (dr d) (64 - m) b.data.toList))/\yH (ks.length=m)/\wr.ownsRow w.heap.size 155 3 (lV a m cap) m f/\
  yH (∀i,i<m->bg d wr (λq=>w.heap.size<=q/\(Value.slice a m cap).ownBlock≠some q) ((f.drop (3*i)).take 3) (ks.getD i (ak [])))/\yW w wr)
 .exact⟨s,0,none,0,[],[],rfl,hs,by omega,rfl,rfl,B4.o,rfl,⟨rfl,.inl ⟨rfl,rfl⟩⟩,λi h=>by omega,Un _ _⟩
 obtain⟨b,m,a,cap,ks,f,hg,Y,hm,rfl,rfl,H,C,A6,A2,Z⟩:=hrel;have HG:=aa hg;have J:=aa A6;have A:=aa Z;have A1:b.data.toList.length=b.size:=by simp
 have E:=aa A1;clear hg A6 Z A1;by_cases h0:0<b.size
 .have B5:(0:Int)<(b.size:Int):=by omega
  by_cases h64:m=64
  .have B6:((m:Int) == 64)=true:=beq_iff_eq.2 (by omega);have t:R=.error 8:=by
    rw[H.o,h64,Nat.sub_self,LN _ _ (by rw[E.o];omega)];rfl
   have B:=aa t;clear t;go_wp2;go_ret2;exact⟨by rw[B.o];exact⟨rfl,by decide⟩,A.o⟩
  have B6:((m:Int) == 64)=false:=Vd.2 (by omega);have e64:64 - m=(64 - (m+1))+1:=by omega
  cases hT:dr d b.data.toList with
  |error c=>
   have t:R=.error c:=by
    rw[H.o,e64,LO _ _ _ c (by rw[E.o];omega) hT];rfl
   have C7:((c:Int) != 0)=true:=by have:=U.o c t;simp;omega
   have B:=aa t;have L:=aa hT;clear t hT;go_wp2_with fail
   refine(S.o _ b P Y T.o).mono ?_;rw[L.o];rintro e w1⟨rfl,z⟩;have y:=aa (A.o.trans (z.mono A.o.size));clear z;go_wp2;go_ret2;refine⟨by rw[B.o];exact⟨rfl,U.o c B.o⟩,?_⟩;exact y.o.alloc y.o.size _
  |ok xu=>
   obtain⟨x,u⟩:=xu;have HS:yH (R=mF (ks++[x]) (eR (dr d) (64 - (m+1)) (b.data.toList.drop u))):=by
    rw[H.o,e64,LK _ _ _ x u (by rw[E.o];omega) hT,QW];rfl
   obtain⟨u1,u2,_,_⟩:=Dd d _ x u hT;have C8:u<=b.size:=by rw[E.o] at u2;exact u2
   have L:=aa hT;clear hT e64;go_wp2_with fail
   refine(S.o _ b P Y T.o).mono ?_;rw[L.o];rintro e w1⟨⟨o,r,l,p,n,rfl,A4⟩,z⟩;have B2:=aa A4;have y:=aa (A.o.trans (z.mono A.o.size));have Q:=aa z;have K:=aa (rE J.o z);clear A4 z;go_upto_region 8 with fail
   go_wp2_with (at_builtin;refine U0 _ rfl (.tmp 26) (.tmp 28) 153 rfl w.heap.size 155 i0 _ 3 48 underlying153 B8 C4 C5 C6 rfl (by decide) (lV a m cap) m f rfl ((K.o.alloc _).alloc _) ⟨w1.heap.size+1,0,none⟩ 1 1 [bV o,sV r,lV l p n] rfl rfl ?c1 ?c2 (by omega) ?c3 ?c4 ?c5 _ rfl ?c6)
   case c1=>exact Fc (w1.alloc _) _ _ _ (by simp)
   case c2=>intro v hv;simp at hv;rcases hv with rfl|rfl|rfl<;>rfl
   case c3=>unfold maxLen;omega
   case c4=>omega
   case c5=>have:=y.o.size;simp;omega
   intro g2 F w2 A7 O X C1;have W:∀q,q<w1.heap.size->((w1.alloc (.cells #[bV o,sV r,lV l p n] 155)).alloc (.cells #[bV o,sV r,lV l p n] 155)).heap[q]? =w1.heap[q]? :=λq j=>by
    rw[U6 _ _ _ (by simp;omega),U6 _ _ _ j]
   have N:∀q,q<w1.heap.size->(Value.slice a m cap).ownBlock≠some q->w2.heap[q]? =w1.heap[q]? :=λq j D=>by
    rw[<-W q j];exact O.block q (by simp;omega) (λh=>D h.symm)
   have M:∀q,q<w1.heap.size->(Value.slice a m cap).ownBlock≠some q->(Value.slice (qA g2) (m+1) F).ownBlock≠some q:=λq j D h=>by
    have B7:g2=q:=by simpa [Value.ownBlock] using h
    rcases X with h2|h2
    .rw[B7] at h2;exact D h2
    omega
   have A0:yW w w2:=((y.o.alloc y.o.size _).alloc (by have:=y.o.size;simp;omega) _).grown O (by have:=y.o.size;simp;omega) (λk hk=>(K.o.lt k hk).1);have C2:=Q.o.size;have A3:∀i,i<m+1->bg d w2 (λq=>w.heap.size<=q/\(Value.slice (qA g2) (m+1) F).ownBlock≠some q) (((f++[Value.bool o,Value.string r,Value.slice l p n]).drop (3*i)).take 3) ((ks++[x]).getD i (ak [])):=by
    intro i hi;have C3:f.length=3*m:=by have:=K.o.1;omega
    by_cases B9:i<m
    .have e1:((f++[Value.bool o,Value.string r,Value.slice l p n]).drop (3*i)).take 3=(f.drop (3*i)).take 3:=by
      rw[List.drop_append_of_le_length (by omega),List.take_append_of_le_length (by rw[Uu];omega)]
     have e2:(ks++[x]).getD i (ak [])=ks.getD i (ak []):=by
      rw[Up,UW (by have:=C.o;omega),Up]
     rw[e1,e2];refine bg.move (w:=wr) (λq j I=>?_) d _ _ (A2.o i B9);have A8:q<w1.heap.size:=by omega
     exact⟨⟨j.1,M q A8 j.2⟩,(N q A8 j.2).trans (Q.o.block q I)⟩
    have C0:i=m:=by omega
    subst C0;have e1:((f++[Value.bool o,Value.string r,Value.slice l p n]).drop (3*i)).take 3=[bV o,sV r,lV l p n]:=by
     rw[<-C3,List.drop_left];rfl
    have e2:(ks++[x]).getD i (ak [])=x:=by
     rw[Up,<-C.o,Vf (Ug _),Nat.sub_self];rfl
    rw[e1,e2];refine bg.move (w:=w1) (λq j I=>?_) d _ _ B2.o;have D:(Value.slice a i cap).ownBlock≠some q:=λh=>by have:=(J.o.lt q h).2;omega
    exact⟨⟨Ut A.o.size j,M q I D⟩,N q I D⟩
   have B0:=aa A3;have B3:=aa A7;have A9:=aa A0;clear W N M A0 A3 A7 O X C1 C2;have C9:(u:Int)<=(b.size:Int):=by omega
   go_wp2;go_roundg (b.size - u)
   case measure=>have:=HG.o;omega
   case rel=>
    refine⟨b.extract u b.size,m+1,some ⟨g2,0,none⟩,F,ks++[x],f++[Value.bool o,Value.string r,Value.slice l p n],by simp,by simp;omega,by omega,rfl,rfl,?_,by show(ks++[x]).length=m+1;rw[Uq,C.o];rfl,B3.o,B0.o,A9.o⟩;have e:(b.extract u b.size).data.toList=b.data.toList.drop u:=by rw[Lib.extract_data,U4 (by simp)]
    show R=_;rw[e];exact HS.o
 have B5:¬((0:Int)<(b.size:Int)):=by omega
 have t:R=.ok ks:=by
  rw[H.o,LL _ _ _ (by rw[E.o];omega)];unfold mF;simp
 have B:=aa t;clear t;go_wp2;go_ret2;refine⟨?_,A.o⟩;rw[B.o];refine⟨lV a m cap,f,rfl,?_,by rw[C.o];exact hm,λi hi=>bg.move (w:=wr) (λq j _=>⟨j.1,rfl⟩) d _ _ (A2.o i (by rw[<-C.o];exact hi))⟩;rw[C.o];exact Fe J.o
def Ew:∀d,xX d/\BO d
 | 0=>⟨zl 0 (λe h=>by omega),EA 0 (zl 0 (λe h=>by omega))⟩
 |d+1=>
  have h:xX (d+1):=zl (d+1) (λe h=>by
   have:e=d:=by omega
   subst this
   exact(Ew e).2)
  ⟨h,EA (d+1) h⟩
def Cl(w:World)(r:Except Nat Tree)(e:Ending)(w':World):Prop:=
 match r with
 | .error c=>e=rV (tV #[gV #[bV false,sV ByteArray.empty,lV none 0 0],iV .i64 c])/\c≠0
 | .ok x=>∃l t a m c,e=rV (tV #[gV #[bV l,sV t,lV a m c],iV .i64 0])/\bg 6 w' (λb=>w.heap.size<=b) [bV l,sV t,lV a m c] x
def Si(s:yL)(h:4096<s.length):dC s=.error 1:=by unfold dC;rw[Uj h]
def Sl(s:yL)(h:¬4096<s.length)(c:Nat)(a:dr 6 s=.error c):dC s=.error c:=by unfold dC;rw[Ui h,a]
def Sj(s:yL)(h:¬4096<s.length)(x:Tree)(u:Nat)(a:dr 6 s=.ok (x,u))(b:u<s.length):dC s=.error 6:=by unfold dC;rw[Ui h,a];simp only;rw[Uj b]
def Sm(s:yL)(h:¬4096<s.length)(x:Tree)(u:Nat)(a:dr 6 s=.ok (x,u))(b:¬u<s.length):dC s=.ok x:=by unfold dC;rw[Ui h,a];simp only;rw[Ui b]
def xE(w:World)(s:yB)(hs:s.size<=maxLen):yC 99 #[sV s] w λe w'=>Cl w (dC s.data.toList) e w'/\yW w w':=by
 unfold maxLen at hs;have f:s.data.toList.length=s.size:=by simp
 by_cases h4:4096<s.size
 .rw[Si _ (by rw[f];exact h4)];have C:(4096:Int)<(s.size:Int):=by omega
  clear f;go_enter func99,ntmps99
  go_wp2;exact UB (v:=tV #[gV #[bV false,sV ⟨#[]⟩,lV none 0 0],i6 1]) (by simp[results,results99,go_sem]) rfl ⟨⟨rfl,by decide⟩,(Un _ _).alloc (Ug _) _⟩
 have C:¬((4096:Int)<(s.size:Int)):=by omega
 have j:¬4096<s.data.toList.length:=by rw[f];exact h4
 have h:=λw=>(Ew 6).1 w s 1 (by omega) rfl
 cases hT:dr 6 s.data.toList with
 |error c=>
  rw[Sl _ j c hT];have q:=De 6 _ _ hT;have E:((c:Int) != 0)=true:=by simp;omega
  rw[hT] at h;have n:=aa h;have A:=aa q;clear f j hT h q;go_enter func99,ntmps99
  go_wp2_with fail
  refine(n.o _).mono ?_;rintro e w1⟨rfl,d⟩;obtain⟨k0,k1,k2,f0,f1,f2⟩:=iB d;have k:=aa (((Un _ _).alloc (Ug _) _).trans (d.mono (by simp)));have g:w.heap.size<w1.heap.size:=by have:=d.size;simp at this;omega
  clear d;go_wp2;exact UB (v:=tV #[gV #[bV false,sV ⟨#[]⟩,lV none 0 0],i6 (c:Int)]) (by simp[results,results99,go_sem,k0,k1,k2,g]) rfl ⟨⟨rfl,A.o⟩,oB k.o g _ _ _ _⟩
 |ok xu=>
  obtain⟨x,u⟩:=xu;rw[hT] at h;have n:=aa h;by_cases z:u<s.size
  .rw[Sj _ j x u hT (by rw[f];exact z)];have D:(u:Int)<(s.size:Int):=by omega
   clear f j hT h;go_enter func99,ntmps99
   go_wp2_with fail
   refine(n.o _).mono ?_;rintro e w1⟨⟨l,t,a,m,c,rfl,o⟩,d⟩;obtain⟨k0,k1,k2,f0,f1,f2⟩:=iB d;have k:=aa (((Un _ _).alloc (Ug _) _).trans (d.mono (by simp)));have g:w.heap.size<w1.heap.size:=by have:=d.size;simp at this;omega
   clear d o;go_wp2;exact UB (v:=tV #[gV #[bV false,sV ⟨#[]⟩,lV none 0 0],i6 6]) (by simp[results,results99,go_sem,k0,k1,k2,g]) rfl ⟨⟨rfl,by decide⟩,oB k.o g _ _ _ _⟩
  rw[Sm _ j x u hT (by rw[f];exact z)];have D:¬((u:Int)<(s.size:Int)):=by omega
  clear f j hT h;go_enter func99,ntmps99
  go_wp2_with fail
  refine(n.o _).mono ?_;rintro e w1⟨⟨l,t,a,m,c,rfl,o⟩,d⟩;obtain⟨k0,k1,k2,f0,f1,f2⟩:=iB d;have k:=aa (((Un _ _).alloc (Ug _) _).trans (d.mono (by simp)));have g:w.heap.size<w1.heap.size:=by have:=d.size;simp at this;omega
  have y:∀(i:World),(∀b,b<w1.heap.size->b≠w.heap.size->i.heap[b]? =w1.heap[b]?)->bg 6 i (λb=>w.heap.size<=b) [bV l,sV t,lV a m c] x:=λi h3=>by
   refine bg.move (w:=w1) (S:=λb=>w.heap.size+1<=b) (λb p r=>⟨by omega,h3 b r (by omega)⟩) 6 _ _ (by simpa using o)
  have B:=aa y;clear d o y;go_wp2;exact UB (v:=tV #[gV #[bV l,sV t,lV a m c],i6 0]) (by simp[results,results99,go_sem,k0,k1,k2,g]) rfl ⟨⟨l,t,a,m,c,rfl,B.o _ (λb r p=>by
   rw[U6 _ _ _ (by simp[World.setCell];omega)];simp[Uy,p])⟩,oB k.o g _ _ _ _⟩
end Go.Proofs.YteaodagofkcgbaaGreatDoor
