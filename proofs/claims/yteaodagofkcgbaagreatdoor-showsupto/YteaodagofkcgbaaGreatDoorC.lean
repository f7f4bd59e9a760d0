import Derived.Test.YteaodagofkcgbaaGreatDoorA
open Go.Proofs.Tryz
open Go.Proofs.Tryz renaming prog→yP
open Go.Value renaming string→sV,pointer→pV,int→iV,slice→lV,bool→bV,tuple→tV,agg→gV
open Go.Ending renaming returned→rV
namespace Go.Proofs.YteaodagofkcgbaaGreatDoor
open Go.RowKit
set_option maxRecDepth 100000
set_option maxHeartbeats 0
set_option linter.all false
def RL:Except Nat (Bool×Nat×Nat)->Value
 | .error _=>nN false 0 0
 | .ok (l,f,n)=>nN l f (f+n)
def RJ:Except Nat (Bool×Nat×Nat)->Nat
 | .error e=>e
 | .ok _=>0
def sA{W w1:World}(a:yW W w1):(∀b o,b<W.heap.size->w1.cell? ⟨b,o,none⟩=W.cell? ⟨b,o,none⟩)/\(∀b o,b<W.heap.size->w1.frozen? ⟨b,o,none⟩=W.frozen? ⟨b,o,none⟩):=
 ⟨λb o h=>a.cell (p:=⟨b,o,none⟩) h,λb o h=>a.frozen (p:=⟨b,o,none⟩) h⟩
def iB{w w1:World}{x y z T}(a:Below (w.alloc (.cells #[x,y,z] T)).heap.size (w.alloc (.cells #[x,y,z] T)) w1):w1.cell? ⟨w.heap.size,0,none⟩=some x/\w1.cell? ⟨w.heap.size,1,none⟩=some y/\w1.cell? ⟨w.heap.size,2,none⟩=some z/\w1.frozen? ⟨w.heap.size,0,none⟩=false/\w1.frozen? ⟨w.heap.size,1,none⟩=false/\w1.frozen? ⟨w.heap.size,2,none⟩=false:=by
 obtain⟨h1,h2⟩:=sA a;refine⟨?_,?_,?_,?_,?_,?_⟩
 .rw[h1 _ _ (by simp)];simp
 .rw[h1 _ _ (by simp)];simp
 .rw[h1 _ _ (by simp)];simp
 .rw[h2 _ _ (by simp)];simp
 .rw[h2 _ _ (by simp)];simp
 rw[h2 _ _ (by simp)];simp
def R7(s:yB):(s.extract 1 s.size).data.toList=s.data.toList.drop 1:=by
 rw[Lib.extract_data,U4 (by simp)]
def Hl(s:yL)(h:s.length=0):fE s=.error 5:=by unfold fE;rw[Uj h]
def Hn(s:yL)(h:s.length≠0)(c:Nat)(a:(s.getD 0 0).toNat=c)(h1:c<128):fE s=.ok (false,0,1):=by
 unfold fE;rw[Ui h,a,Uj h1]
def Hk(s:yL)(h:s.length≠0)(c base:Nat)(b:(s.getD 0 0).toNat=c)(h1:¬c<128)(a:base=if 192<=c then 192 else 128)(h2:c - base<=55):fE s=lJ s (decide (192<=c)) 1 (c - base):=by
 unfold fE;rw[Ui h,b,Ui h1,<-a,Uj h2]
def Ho(s:yL)(h:s.length≠0)(c base:Nat)(e:(s.getD 0 0).toNat=c)(h1:¬c<128)(d:base=if 192<=c then 192 else 128)(h2:¬c - base<=55):fE s=if gL (s.drop 1) (c - base - 55)=0 then lJ s (decide (192<=c)) (1+(c - base) - 55) (mC (s.drop 1) (c - base - 55)) else .error (gL (s.drop 1) (c - base - 55)):=by
 have e1:(s.drop 1).getD 0 0=s.getD 1 0:=by rw[Up,VE,Up]
 have a:gL (s.drop 1) (c - base - 55)=if s.length - 1<c - base - 55 then 5 else if(s.getD 1 0).toNat=0\/be ((s.drop 1).take (c - base - 55))<=55 then 7 else 0:=by
  unfold gL;rw[Uu,e1]
 have b:mC (s.drop 1) (c - base - 55)=if gL (s.drop 1) (c - base - 55)=0 then be ((s.drop 1).take (c - base - 55)) else 0:=rfl;unfold fE;rw[Ui h,e,Ui h1,<-d,Ui h2];by_cases h3:s.length - 1<c - base - 55
 .rw[Uj h3];rw[Uj h3] at a;rw[a];rfl
 rw[Ui h3];rw[Ui h3] at a;by_cases h4:(s.getD 1 0).toNat=0\/be ((s.drop 1).take (c - base - 55))<=55
 .rw[Uj h4];rw[Uj h4] at a;rw[a];rfl
 rw[Ui h4];rw[Ui h4] at a;rw[b,a,Uj rfl,Uj rfl]
def RG(s:yB)(hs:s.size<=4096)(w:World):yC 142 #[sV s] w λe w'=>e=rV (tV #[RL (fE s.data.toList),i6 (RJ (fE s.data.toList))])/\yW w w':=by
 have d:s.data.toList.length=s.size:=by simp
 by_cases h0:s.size=0
 .rw[Hl _ (by rw[d];exact h0)];have G:((s.size:Int) == 0)=true:=beq_iff_eq.2 (by omega);clear d h0;go_enter func142,ntmps142
  go_wp2;exact UB (v:=tV #[gV #[bV false,i6 0,i6 0],i6 5]) (by simp[results,results142,go_sem]) rfl ⟨rfl,(Un _ _).alloc (Ug _) _⟩
 have G:((s.size:Int) == 0)=false:=Vd.2 (by omega);have C:0<s.size:=by omega
 have i:s.data.toList.length≠0:=by rw[d];exact h0
 obtain⟨c,F⟩:∃c:Nat,(s[0]).toNat=c:=⟨_,rfl⟩
 have Q:c<256:=by rw[<-F];exact(s[0]).toNat_lt
 have g:(s.data.toList.getD 0 0).toNat=c:=by rw[Up,Uh (by rw[d];exact C)];exact F
 by_cases h1:c<128
 .rw[Hn _ i c g h1];have H:decide ((c:Int)<128)=true:=by simp;omega
  clear d i g;go_enter func142,ntmps142
  go_wp2;exact UB (v:=tV #[gV #[bV false,i6 0,i6 1],i6 0]) (by simp[results,results142,go_sem]) rfl ⟨rfl,(Un _ _).alloc (Ug _) _⟩
 have H:decide ((c:Int)<128)=false:=by simp;omega
 have N:(decide ((192:Int)<=(c:Int))=true/\192=(if 192<=c then 192 else 128)/\decide (192<=c)=true/\∃n:Nat,n=c - 192/\(c:Int) - 192=(n:Int)/\n<=63)\/(decide ((192:Int)<=(c:Int))=false/\128=(if 192<=c then 192 else 128)/\decide (192<=c)=false/\∃n:Nat,n=c - 128/\(c:Int) - 128=(n:Int)/\n<=63):=by
  by_cases h2:192<=c
  .exact Or.inl ⟨by simp;omega,(Uj h2).symm,Uw h2,_,rfl,by omega,by omega⟩
  exact Or.inr ⟨by simp;omega,(Ui h2).symm,Uv h2,_,rfl,by omega,by omega⟩
 rcases N with⟨I,j,k,n,l,L,K⟩|⟨I,j,k,n,l,L,K⟩;all_goals
  have S:IntKind.u64.wrap (n:Int)=(n:Int):=by rw[IntKind.wrap_u64];omega
  by_cases h55:n<=55
  .have J:decide ((n:Int)<=55)=true:=by simp;omega
   have a:=Hk s.data.toList i c _ g h1 j (by omega);rw[k,<-l] at a;unfold lJ at a;rw[d] at a;by_cases f:s.size - 1<n
   .rw[Uj f] at a;rw[a];have o:=aa f;clear d i g a j k l f;go_enter func142,ntmps142
    go_wp2_with fail
    refine(DH s _ 1 n hs C o.o _).mono ?_;rintro e w1⟨rfl,b⟩;obtain⟨k0,k1,k2,f0,f1,f2⟩:=iB b;have m:=aa (((Un _ _).alloc (Ug _) _).trans (b.mono (by simp)));clear b;unfold nN;go_wp2;exact UB (v:=tV #[gV #[bV false,i6 0,i6 0],i6 5]) (by simp[results,results142,go_sem,k0,k1,k2]) rfl ⟨rfl,((m.o.setCell (Ug _) _).setCell (Ug _) _).setCell (Ug _) _⟩
   rw[Ui f] at a;rw[a];have o:=aa f;clear d i g a j k l f;go_enter func142,ntmps142
   go_wp2_with fail
   refine(DG s _ 1 n hs C o.o _).mono ?_;rintro e w1⟨rfl,b⟩;obtain⟨k0,k1,k2,f0,f1,f2⟩:=iB b;have m:=aa (((Un _ _).alloc (Ug _) _).trans (b.mono (by simp)));clear b;unfold nN;go_wp2;exact UB (v:=tV #[gV #[bV _,i6 ((1:Nat):Int),i6 ((1+n:Nat):Int)],i6 0]) (by simp[results,results142,go_sem,k0,k1,k2]) rfl ⟨rfl,((m.o.setCell (Ug _) _).setCell (Ug _) _).setCell (Ug _) _⟩
  have J:decide ((n:Int)<=55)=false:=by simp;omega
  obtain⟨q,z⟩:=yX (n - 55);have T:(n:Int) - 55=(q:Int):=by omega
  have M:1<=q:=by omega
  have O:q<=8:=by omega
  have R:1+(n:Int) - 55=((1+q:Nat):Int):=by omega
  have a:=Ho s.data.toList i c _ g h1 j (by omega);rw[k,<-l,<-z,show 1+n - 55=1+q by omega] at a;have u:(s.extract 1 s.size).size<=4096:=by simp only[ByteArray.size_extract];omega
  have p:=Qm (s.extract 1 s.size) q u M O;rw[R7] at p;have B:=aa p;have x:gL (s.data.toList.drop 1) q=0->1+q<=s.size:=by
   intro t;unfold gL at t;rw[Uu,d] at t;by_cases h:s.size - 1<q
   .rw[Uj h] at t;cases t
   omega
  generalize gL (s.data.toList.drop 1) q=E at*;generalize mC (s.data.toList.drop 1) q=V at*;by_cases D:E=0
  .subst D;rw[Uj rfl] at a;unfold lJ at a;rw[d] at a;have y:=x rfl;by_cases f:s.size - (1+q)<V
   .rw[Uj f] at a;rw[a];have o:=aa f;have A:=aa y;clear d i g a j k l f p z x y u;go_enter func142,ntmps142
    go_wp2_with fail
    refine(B.o _).mono ?_;rintro e w0⟨rfl,r⟩;subst r;go_wp2_with fail
    refine(DH s _ (1+q) V hs A.o o.o _).mono ?_;rintro e w1⟨rfl,b⟩;obtain⟨k0,k1,k2,f0,f1,f2⟩:=iB b;have m:=aa (((Un _ _).alloc (Ug _) _).trans (b.mono (by simp)));clear b;unfold nN;go_wp2;exact UB (v:=tV #[gV #[bV false,i6 0,i6 0],i6 5]) (by simp[results,results142,go_sem,k0,k1,k2]) rfl ⟨rfl,((m.o.setCell (Ug _) _).setCell (Ug _) _).setCell (Ug _) _⟩
   rw[Ui f] at a;rw[a];have o:=aa f;have A:=aa y;clear d i g a j k l f p z x y u;go_enter func142,ntmps142
   go_wp2_with fail
   refine(B.o _).mono ?_;rintro e w0⟨rfl,r⟩;subst r;go_wp2_with fail
   refine(DG s _ (1+q) V hs A.o o.o _).mono ?_;rintro e w1⟨rfl,b⟩;obtain⟨k0,k1,k2,f0,f1,f2⟩:=iB b;have m:=aa (((Un _ _).alloc (Ug _) _).trans (b.mono (by simp)));clear b;unfold nN;go_wp2;exact UB (v:=tV #[gV #[bV _,i6 ((1+q:Nat):Int),i6 ((1+q+V:Nat):Int)],i6 0]) (by simp[results,results142,go_sem,k0,k1,k2]) rfl ⟨rfl,((m.o.setCell (Ug _) _).setCell (Ug _) _).setCell (Ug _) _⟩
  rw[Ui D] at a;rw[a];have P:((E:Int) != 0)=true:=by simp;omega
  clear d i g a j k l p z x u;go_enter func142,ntmps142
  go_wp2_with fail
  refine(B.o _).mono ?_;rintro e w0⟨rfl,r⟩;subst r;go_wp2;exact UB (v:=tV #[gV #[bV false,i6 0,i6 0],i6 (E:Int)]) (by simp[results,results142,go_sem]) rfl ⟨rfl,(Un _ _).alloc (Ug _) _⟩
end Go.Proofs.YteaodagofkcgbaaGreatDoor
