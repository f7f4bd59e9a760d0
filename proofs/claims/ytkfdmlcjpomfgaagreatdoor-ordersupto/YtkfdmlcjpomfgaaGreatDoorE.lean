import Derived.Test.YtkfdmlcjpomfgaaGreatDoorD
open Go.Proofs.Tryz
open Go.Proofs.Tryz renaming prog→yP
open Go.Value renaming string→sV,pointer→pV,int→iV,slice→lV,bool→bV,tuple→tV,agg→gV
open Go.Ending renaming returned→rV
namespace Go.Proofs.YtkfdmlcjpomfgaaGreatDoor
open Go.RowKit
set_option maxRecDepth 100000
set_option maxHeartbeats 0
set_option linter.all false
theorem pG(c:UInt8):bits .and .u8 (c.toNat:Int) 15=((lo c).toNat:Int):=by
 have:=u8_and_nat c.toNat 15 c.toNat_lt (by omega);rw[nat_mask4] at this;rw[qL];exact this
theorem tj(c:UInt8):(c.toNat:Int) / 16=((hi c).toNat:Int):=by rw[vK];omega
theorem GA(m:Nat)(h:m<256):bits .and .u8 (m:Int) 1=((m % 2:Nat):Int):=by
 have:=u8_and_nat m 1 h (by omega);rw[nat_mask1] at this;exact this
theorem Qx(m:Nat)(h:m<4):bits .and .u8 (m:Int) 2=((m / 2*2:Nat):Int):=by
 have:=u8_and_nat m 2 (by omega) (by omega);rw[show(2:Nat)=2 ^ 1 from rfl,nat_bit] at this;have e:m / 2 ^ 1 % 2*2 ^ 1=m / 2*2:=by omega
 rw[e] at this;exact this
theorem Iv(s:yB)(n:s.size<=maxLen)(a:4096<s.size\/¬jz s.data.toList)(w:World):
 Calls yP 165 #[sV s] w fun e w'=>e=rV (tV #[sV ByteArray.empty,bV false,iV .i64 (if 4096<s.size then 1 else 7)])/\w'=w:=by
 unfold maxLen at n;by_cases h1:4096<s.size
 ·rw[QX h1];have o:(4096:Int)<(s.size:Int):=by omega
  clear a;go_enter func165,ntmps165
  go_wp2_with fail
  go_ret3
  exact⟨rfl,rfl⟩
 ·rw[QW h1];have a:¬jz s.data.toList:=by rcases a with h|h;exact absurd h h1;exact h
  by_cases h0:s.size=0
  ·have f:((s.size:Int) == 0)=true:=beq_iff_eq.2 (by omega);clear a h0;go_enter func165,ntmps165
   go_wp2_with fail
   go_ret3
   exact⟨rfl,rfl⟩
  ·have f:((s.size:Int) == 0)=false:=RW.2 (by omega);have k:0<s.size:=by omega
   have e0:s.data.toList.getD 0 0=s[0]:=by rw[Q3,QV (by simpa using k)];rfl
   have d:s.data.toList≠[]:=by
    intro h;have b:s.data.toList.length=s.size:=by simp
    rw[h] at b;have:(0:Nat)=s.size:=b;omega
   unfold jz at a;rw[e0] at a;have q:=tj s[0];have p:=pG s[0];have r:=yZ s[0];have b:=sJ s[0];generalize hcm:(hi s[0]).toNat=m at*;generalize hcl:(lo s[0]).toNat=l at*;clear hcm hcl e0;have h2:=GA m (by omega);by_cases h3:3<m
   ·have g:(3:Int)<(m:Int):=by omega
    clear a;go_enter func165,ntmps165
    go_wp2_with fail
    all_goals (go_ret3;exact⟨rfl,rfl⟩)
   ·have i:m % 2=0/\l≠0:=by
     by_cases c:m % 2=0
     ·refine⟨c,fun j=>a ⟨d,by omega,fun _=>j⟩⟩
     ·exact absurd ⟨d,by omega,fun h=>absurd h c⟩ a
    have g:decide ((3:Int)<(m:Int))=false:=by simp;omega
    have h4:(((m % 2:Nat):Int) != 0)=false:=by simp;omega
    have h5:((l:Int) != 0)=true:=by simp;omega
    rw[i.1] at h2;clear a;go_enter func165,ntmps165
    go_wp2_with fail
    all_goals (go_ret3;exact⟨rfl,rfl⟩)
theorem x7(w:World)(a b):∀j u,[a,b][j]? =some u->(w.alloc (.cells #[a,b] 5)).cell? ((⟨w.heap.size,0,none⟩:Addr).add j)=some u:=by
 intro j u c;match j,c with
 | 0,c=>simp at c;subst c;simp[Addr.add]
 | 1,c=>simp at c;subst c;simp[Addr.add]
 | (j+2),c=>simp at c
theorem tY(s:yB)(hs:s.size<=4096)(hf:jz s.data.toList)(w:World):
 Calls yP 165 #[sV s] w fun e w'=>e=rV (tV #[sV (str (bd s.data.toList)),bV (ft s.data.toList),iV .i64 0])/\yW w w':=by
 obtain⟨i0,A4,A7,A8,A9⟩:=Sf pt;have B5:=yu 0 (2*(s.size:Int)) (by omega) (by omega) (by omega);have U:s.data.toList.length=s.size:=by simp
 have B:=aa U;obtain⟨C7,C6,T⟩:=hf;have hp:0<s.size:=by
  rcases Nat.eq_zero_or_pos s.size with h|h
  ·rw[h] at U;exact absurd (Rm.1 U) C7
  ·exact h
 have e0:s.data.toList.getD 0 0=s[0]:=by rw[Q3,QV (by simpa using hp)];rfl
 rw[e0] at C6 T;have hd:=tj s[0];have ha:=pG s[0];have V:=sJ s[0];have C:Hid (bd s.data.toList=(if(hi s[0]).toNat % 2=1 then [lo s[0]] else [])++bZ (s.data.toList.drop 1)):=by unfold bd;rw[e0];rfl
 have B0:Hid (ft s.data.toList=decide (2<=(hi s[0]).toNat % 4)):=by unfold ft;rw[e0];rfl
 generalize hcm:(hi s[0]).toNat=m at*;clear hcm e0 U;have D0:decide ((4096:Int)<(s.size:Int))=false:=by simp;omega
 have C9:((s.size:Int) == 0)=false:=RW.2 (by omega);have D1:decide ((3:Int)<(m:Int))=false:=by simp;omega
 have h2:=GA m (by omega);have h22:=Qx m (by omega);have B3:(2*(s.size:Int)).toNat=2*s.size:=by omega
 by_cases ho:m % 2=1
 ·rw[ho] at h2;rw[QX ho] at C;clear T;go_enter func165,ntmps165
  go_upto_region 12 with fail
  have b:=uR w w.heap.size (2*s.size) (QU _) (by unfold maxLen;omega);have f:=(Q1 w.heap.size w).alloc (QU _) (.cells (madeCells #[iV .u8 0] (2*s.size)) 5);generalize hW:w.alloc (.cells (madeCells #[iV .u8 0] (2*s.size)) 5)=W1 at*;generalize hV:Value.slice (qA w.heap.size) 0 (2*s.size)=V1 at*;have l:=aa b;have a:=aa f;clear hW hV b f B5 B3;go_wp2_with (at_builtin;refine RG _ rfl (.tmp 40) (.tmp 42) 52 rfl w.heap.size 5 i0 (iV .u8 0) 1 1 underlying52 A4 A7 A8 A9 rfl (by decide) V1 0 (bI []) rfl (l.out.alloc _) ⟨W1.heap.size,0,none⟩ 1 1 [iV .u8 ((lo s[0]).toNat:Int)] rfl rfl (So _ _ _) ?c2 (by omega) ?c3 ?c4 ?c5 _ rfl ?c6)
  case c2=>intro u t;simp at t;subst t;rfl
  case c3=>unfold maxLen;omega
  case c4=>omega
  case c5=>have:=a.out.size;simp;omega
  intro g1 F W2 B6 B2 B9 C5;have B1:yW w W2:=(a.out.alloc a.out.size _).grown B2 (by have:=a.out.size;simp;omega) (fun k Q=>(l.out.lt k Q).1);have E:=aa B6;have D:=aa B1;clear B6 B2 B9 C5 B1 l a;go_wp2_with fail
  go_loopg [8,9] s.size (fun n v r wr=>∃j g cap:Nat,n=s.size - j/\j+1<=s.size/\r=iV .i64 ((j+1:Nat):Int)/\v=lV (qA g) (1+2*j) cap/\
   wr.ownsRow w.heap.size 5 1 (lV (qA g) (1+2*j) cap) (1+2*j) (bI ([lo s[0]]++bZ ((s.data.toList.drop 1).take j)))/\yW w wr)
  case atStart=>exact⟨0,g1,F,by omega,by omega,rfl,rfl,E.out,D.out⟩
  case round=>
   obtain⟨j,g,cap,L,hj,rfl,rfl,b,f⟩:=hrel;have X:=aa L;clear L E D;obtain⟨p,q⟩:=yX (j+1)
   obtain⟨N,o⟩:=yX (1+2*j)
   have d:=aa q;have x:=aa o;rw[<-q,<-o];rw[<-q] at hj;rw[<-o] at b;clear q o;by_cases C4:p<s.size
   ·have C0:=tj s[p];have B8:=pG s[p];have HS:Hid (bZ ((s.data.toList.drop 1).take (j+1))=bZ ((s.data.toList.drop 1).take j)++[hi s[p],lo s[p]]):=by
     have A:=d.out;have V:j<(s.data.toList.drop 1).length:=by have:=B.out;rw[Q8];omega
     rw[RU V,vM];congr 1;have e0:(s.data.toList.drop 1)[j]=s[p]:=by rw[List.getElem_drop];subst A;simp only[Nat.add_comm 1 j];rfl
     rw[e0];rfl
    have l:=aa b;have a:=aa f;have C1:N<8192:=by have:=d.out;have:=x.out;omega
    have C8:(p:Int)<(s.size:Int):=by omega
    clear b f;generalize hi s[p]=cA at*;generalize lo s[p]=cB at*;generalize hks:bI ([lo s[0]]++bZ ((s.data.toList.drop 1).take j))=ks at*;have Y:=aa hks;clear hks;go_wp2_with fail
    go_region_law (refine step_append_lies _ rfl (.tmp 50) (.tmp 59) 52 rfl w.heap.size 5 i0 (iV .u8 0) 1 1 underlying52 A4 A7 A8 A9 rfl (by decide) (lV (qA g) N cap) N ks (by simp[Act.eval]) (l.out.drew.alloc _) ⟨wr.heap.size,0,none⟩ 2 2 [iV .u8 (cA.toNat:Int),iV .u8 (cB.toNat:Int)] (by simp[Act.eval]) rfl (x7 _ _ _) (by intro u t;simp at t;rcases t with rfl|rfl<;>rfl) (by omega) (by unfold maxLen;omega) (by omega) (by have:=a.out.size;simp;omega) _ rfl ?_;intro g2 G y S M A0 A6)
    all_goals
     have J:yW w y:=(a.out.drew.alloc a.out.size _).grown M (by have:=a.out.size;simp;omega) (fun k Q=>(l.out.lt k Q).1);have Z:=aa S;have W:=aa J;clear S M A0 A6 J;go_wp2_with fail
     go_roundg (s.size - (j+1))
     case measure=>have:=X.out;have:=d.out;omega
     case rel=>
      have I:=x.out;refine⟨j+1,g2,G,rfl,by have:=d.out;omega,by have:=d.out;rw[show j+1+1=p+1 by omega];go_num,by rw[show 1+2*(j+1)=N+2 by omega],?_,W.out⟩;have e:bI ([lo s[0]]++bZ ((s.data.toList.drop 1).take (j+1)))=ks++[iV .u8 (cA.toNat:Int),iV .u8 (cB.toNat:Int)]:=by
       rw[HS.out,<-Y.out];simp[bI]
      rw[e,show 1+2*(j+1)=N+2 by omega];exact Z.out
   ·have a:=aa f;have K:[lo s[0]]++bZ ((s.data.toList.drop 1).take j)=bd s.data.toList:=by
     have A:=d.out;have R:=B.out;rw[C.out,RI (by rw[Q8];omega)]
    have z:(bd s.data.toList).length=N:=by
     have A:=d.out;have R:=B.out;have I:=x.out;rw[C.out,Q4,ow,Q8,R,I];simp;omega
    have A2:=St (P:=yP) wr 52 5 underlying52 underlying5 g 0 N cap ((bd s.data.toList).map (fun c=>(c.toNat:Int))) (by
     rw[Rr,z]) (fun i O=>by
     have:=b.cellAt i (by rw[Nat.mul_one];exact O);rw[R5,this,K];have A5:i<(bd s.data.toList).length:=by rw[z];exact O
     simp[bI,List.getD,QV A5]) 9 underlying9
    rw[nJ] at A2;have B7:¬((p:Int)<(s.size:Int)):=by omega
    have C2:(((m:Int) / 2*2) != 0)=ft s.data.toList:=by
     rw[B0.out];by_cases H:2<=m % 4
     ·rw[Ra H,bne_iff_ne];omega
     ·rw[Q9 H];simp;omega
    generalize hlfU:ft s.data.toList=lf at*;clear b f K z;go_wp2_with fail
    go_ret3
    exact⟨rfl,a.out⟩
 ·have B4:m % 2=0:=by omega
  rw[B4] at h2;rw[QW ho] at C;have C3:=T B4;rw[C3] at ha;clear T;go_enter func165,ntmps165
  go_upto_region 13 with fail
  have b:=uR w w.heap.size (2*s.size) (QU _) (by unfold maxLen;omega);have f:=(Q1 w.heap.size w).alloc (QU _) (.cells (madeCells #[iV .u8 0] (2*s.size)) 5);generalize hW:w.alloc (.cells (madeCells #[iV .u8 0] (2*s.size)) 5)=W1 at*;obtain⟨g1,A3⟩:=yX w.heap.size
  obtain⟨F,A1⟩:∃c,c=2*s.size:=⟨_,rfl⟩
  have E:Hid (W1.ownsRow w.heap.size 5 1 (lV (qA g1) 0 F) 0 (bI [])):=by rw[A3,A1];exact b
  have D:=aa f;rw[<-A1,<-A3];clear hW b f B5 B3 A3 A1;go_wp2_with fail
  go_loopg [8,9] s.size (fun n v r wr=>∃j g cap:Nat,n=s.size - j/\j+1<=s.size/\r=iV .i64 ((j+1:Nat):Int)/\v=lV (qA g) (0+2*j) cap/\
   wr.ownsRow w.heap.size 5 1 (lV (qA g) (0+2*j) cap) (0+2*j) (bI ([]++bZ ((s.data.toList.drop 1).take j)))/\yW w wr)
  case atStart=>exact⟨0,g1,F,by omega,by omega,rfl,rfl,E.out,D.out⟩
  case round=>
   obtain⟨j,g,cap,L,hj,rfl,rfl,b,f⟩:=hrel;have X:=aa L;clear L E D;obtain⟨p,q⟩:=yX (j+1)
   obtain⟨N,o⟩:=yX (0+2*j)
   have d:=aa q;have x:=aa o;rw[<-q,<-o];rw[<-q] at hj;rw[<-o] at b;clear q o;by_cases C4:p<s.size
   ·have C0:=tj s[p];have B8:=pG s[p];have HS:Hid (bZ ((s.data.toList.drop 1).take (j+1))=bZ ((s.data.toList.drop 1).take j)++[hi s[p],lo s[p]]):=by
     have A:=d.out;have V:j<(s.data.toList.drop 1).length:=by have:=B.out;rw[Q8];omega
     rw[RU V,vM];congr 1;have e0:(s.data.toList.drop 1)[j]=s[p]:=by rw[List.getElem_drop];subst A;simp only[Nat.add_comm 1 j];rfl
     rw[e0];rfl
    have l:=aa b;have a:=aa f;have C1:N<8192:=by have:=d.out;have:=x.out;omega
    have C8:(p:Int)<(s.size:Int):=by omega
    clear b f;generalize hi s[p]=cA at*;generalize lo s[p]=cB at*;generalize hks:bI ([]++bZ ((s.data.toList.drop 1).take j))=ks at*;have Y:=aa hks;clear hks;go_wp2_with fail
    go_region_law (refine step_append_lies _ rfl (.tmp 50) (.tmp 59) 52 rfl w.heap.size 5 i0 (iV .u8 0) 1 1 underlying52 A4 A7 A8 A9 rfl (by decide) (lV (qA g) N cap) N ks (by simp[Act.eval]) (l.out.drew.alloc _) ⟨wr.heap.size,0,none⟩ 2 2 [iV .u8 (cA.toNat:Int),iV .u8 (cB.toNat:Int)] (by simp[Act.eval]) rfl (x7 _ _ _) (by intro u t;simp at t;rcases t with rfl|rfl<;>rfl) (by omega) (by unfold maxLen;omega) (by omega) (by have:=a.out.size;simp;omega) _ rfl ?_;intro g2 G y S M A0 A6)
    all_goals
     have J:yW w y:=(a.out.drew.alloc a.out.size _).grown M (by have:=a.out.size;simp;omega) (fun k Q=>(l.out.lt k Q).1);have Z:=aa S;have W:=aa J;clear S M A0 A6 J;go_wp2_with fail
     go_roundg (s.size - (j+1))
     case measure=>have:=X.out;have:=d.out;omega
     case rel=>
      have I:=x.out;refine⟨j+1,g2,G,rfl,by have:=d.out;omega,by have:=d.out;rw[show j+1+1=p+1 by omega];go_num,by rw[show 0+2*(j+1)=N+2 by omega],?_,W.out⟩;have e:bI ([]++bZ ((s.data.toList.drop 1).take (j+1)))=ks++[iV .u8 (cA.toNat:Int),iV .u8 (cB.toNat:Int)]:=by
       rw[HS.out,<-Y.out];simp[bI]
      rw[e,show 0+2*(j+1)=N+2 by omega];exact Z.out
   ·have a:=aa f;have K:[]++bZ ((s.data.toList.drop 1).take j)=bd s.data.toList:=by
     have A:=d.out;have R:=B.out;rw[C.out,RI (by rw[Q8];omega)]
    have z:(bd s.data.toList).length=N:=by
     have A:=d.out;have R:=B.out;have I:=x.out;rw[C.out,Q4,ow,Q8,R,I];simp;omega
    have A2:=St (P:=yP) wr 52 5 underlying52 underlying5 g 0 N cap ((bd s.data.toList).map (fun c=>(c.toNat:Int))) (by
     rw[Rr,z]) (fun i O=>by
     have:=b.cellAt i (by rw[Nat.mul_one];exact O);rw[R5,this,K];have A5:i<(bd s.data.toList).length:=by rw[z];exact O
     simp[bI,List.getD,QV A5]) 9 underlying9
    rw[nJ] at A2;have B7:¬((p:Int)<(s.size:Int)):=by omega
    have C2:(((m:Int) / 2*2) != 0)=ft s.data.toList:=by
     rw[B0.out];by_cases H:2<=m % 4
     ·rw[Ra H,bne_iff_ne];omega
     ·rw[Q9 H];simp;omega
    generalize hlfU:ft s.data.toList=lf at*;clear b f K z;go_wp2_with fail
    go_ret3
    exact⟨rfl,a.out⟩
theorem jc(s:yB):str s.data.toList=s:=by unfold str;simp
theorem dV(l):(str l).data.toList=l:=by unfold str;simp
theorem aH(l):(str l).size=l.length:=by unfold str;simp[ByteArray.size]
theorem gH(q:yB):(q.toList.isEmpty=true)=(q.size=0):=by
 rw[Lib.toList_data q,List.isEmpty_iff];have a:q.data.toList.length=q.size:=by simp
 rw[<-a,Rm]
theorem gT(q:yB):(q.toList.isEmpty=false)=¬(q.size=0):=by
 rw[<-gH,Bool.not_eq_true]
theorem vU(W:World)(x:Int):(convert 52 9 (lV (qA W.heap.size) 1 1)).run yP (W.alloc (.cells #[iV .u8 x] 5))=.ok (sV (strOfNums [x])) (W.alloc (.cells #[iV .u8 x] 5)):=
 St (P:=yP) _ 52 5 underlying52 underlying5 W.heap.size 0 1 1 [x] rfl (fun i hi=>by
  have:i=0:=by omega
  subst this
  simp) 9 underlying9
theorem sx(n:Nat)(h:n<256):strOfNums [(n:Int)]=str [UInt8.ofNat n]:=by
 have e:([(n:Int)]:List Int)=[UInt8.ofNat n].map (fun c=>(c.toNat:Int)):=by
  simp only[List.map_cons,List.map_nil,RH];congr 1;omega
 rw[e,nJ]
theorem qb(a b):str a++str b=str (a++b):=by
 have h:(str a++str b).data.toList=(str (a++b)).data.toList:=by simp[dV]
 rw[<-jc (str a++str b),h,jc]
theorem we(s:yB)(w:World):
 Calls yP 160 #[sV s] w fun e w'=>e=rV (bV (fB s.data.toList))/\w'=w:=by
 have b:s.data.toList.length=s.size:=by simp
 by_cases h1:s.size=1
 ·have d:((s.size:Int) == 1)=true:=beq_iff_eq.2 (by omega);have f:0<s.size:=by omega
  have e0:s.data.toList.getD 0 0=s[0]:=by rw[Q3,QV (by simpa using f)];rfl
  have a:fB s.data.toList=decide (((s[0]).toNat:Int)<128):=by
   unfold fB;rw[b,e0,Ra h1,Bool.true_and];by_cases h:(s[0]).toNat<128
   ·rw[Ra h,Ra (by omega)]
   ·rw[Q9 h,Q9 (by omega)]
  have c:=aa a;clear a b e0 h1;go_enter func160,ntmps160
  go_wp2
  go_ret
  exact⟨by rw[c.out];rfl,rfl⟩
 ·have d:((s.size:Int) == 1)=false:=RW.2 (by omega);have a:fB s.data.toList=false:=by
   unfold fB;rw[b,Q9 h1];rfl
  have c:=aa a;clear a b h1;go_enter func160,ntmps160
  go_wp2
  go_ret
  exact⟨by rw[c.out];rfl,rfl⟩
theorem PG(n:Nat)(v:n<140737488355329)(w:World):
 Calls yP 114 #[iV .i64 n] w fun e w'=>e=rV (sV (str (cT 8 n)))/\yW w w':=by
 have t:=fun W x=>vU W x
 go_enter func114,ntmps114
 go_wp2_with fail
 go_loopg [0,3] n (fun g a o wr=>∃(m f:Nat) (b:yB),g=m/\m<=n/\a=iV .i64 m/\o=sV b/\Hid (cT 8 n=cT f m++b.data.toList/\m<256 ^ f/\f<=8/\b.size+f=8)/\yW w wr)
 case atStart=>exact⟨n,8,ByteArray.empty,rfl,QU _,rfl,rfl,⟨by simp,by omega,QU _,rfl⟩,Q1 _ _⟩
 case round=>
  obtain⟨m,f,b,j,u,rfl,rfl,d,h⟩:=hrel;have p:=aa j;have c:=aa h;have z:b.size<=8:=by have:=d.out.2.2.2;omega
  clear j h;by_cases h0:0<m
  ·have A:IntKind.u8.wrap ((m:Int) % 256)=((m % 256:Nat):Int):=by rw[SB];omega
   have s:(0:Int)<(m:Int):=by omega
   have k:=sx (m % 256) (by omega);have y:(strOfNums [(m:Int) % 256]).size=1:=by rw[strOfNums_size];rfl
   have q:=aa k;clear k;go_wp2_with fail
   go_roundg (m / 256)
   case measure=>have:=p.out;omega
   case rel=>
    obtain⟨d1,d2,d3,d4⟩:=d.out;have e:strOfNums [(m:Int) % 256]++b=str (UInt8.ofNat (m % 256)::b.data.toList):=by
     have e1:((m:Int) % 256)=((m % 256:Nat):Int):=by omega
     rw[e1,q.out];conv=>lhs;rw[<-jc b]
     rw[qb];rfl
    cases f with
    |zero=>simp at d2;omega
    |succ f=>
     refine⟨m / 256,f,strOfNums [(m:Int) % 256]++b,rfl,by omega,by go_num,rfl,⟨?_,by rw[Nat.pow_succ] at d2;omega,by omega,?_⟩,c.out.alloc c.out.size _⟩
     ·rw[d1,e,dV];conv=>lhs;unfold cT
      rw[QW (by omega),Rn];rfl
     ·rw[e,aH];simp;omega
  ·have r:m=0:=by omega
   subst r;have i:str (cT 8 n)=b:=by rw[d.out.1,vQ,SF,jc]
   have l:=aa i;clear i;go_wp2_with fail
   go_ret
   exact⟨by rw[l.out];rfl,c.out⟩
theorem FR(n:Nat):(cT 8 n).length<=8:=vR 8 n
theorem zc(a n:Nat):(cX a n).length<=9:=by
 unfold cX;split
 ·simp
 ·have:=FR n;simp;omega
theorem EM(a n:Nat)(m:a<=192)(i:n<140737488355329)(w:World):
 Calls yP 167 #[iV .i64 a,iV .i64 n] w fun e w'=>e=rV (sV (str (cX a n)))/\yW w w':=by
 have k:=fun W x=>vU W x
 by_cases h:n<=55
 ·have g:decide ((n:Int)<=55)=true:=by simp;omega
  have j:IntKind.u8.wrap ((a:Int)+(n:Int))=((a+n:Nat):Int):=by rw[SB];omega
  have b:str (cX a n)=strOfNums [((a+n:Nat):Int)]:=by
   unfold cX;rw[QX h,sx _ (by omega)]
  have c:=aa b;clear b;go_enter func167,ntmps167
  go_wp2_with fail
  go_ret
  refine⟨by rw[c.out];rfl,(Q1 _ _).alloc (QU _) _⟩
 ·have g:decide ((n:Int)<=55)=false:=by simp;omega
  have l:=FR n;have p:(str (cT 8 n)).size=(cT 8 n).length:=aH _;have b:str (cX a n)=strOfNums [((a+55+(cT 8 n).length:Nat):Int)]++str (cT 8 n):=by
   unfold cX;rw[QW h,sx _ (by omega),qb];rfl
  have c:=aa b;clear b;go_enter func167,ntmps167
  go_wp2_with fail
  refine(PG n i _).mono ?_;rintro e w1 ⟨rfl,d⟩;have f:=aa d;clear d;generalize str (cT 8 n)=D at*;generalize hL:(cT 8 n).length=L at*;have j:IntKind.u8.wrap ((a:Int)+55+(L:Int))=((a+55+L:Nat):Int):=by rw[SB];omega
  have o:∀x:Int,(strOfNums [x]).size=1:=fun x=>by rw[strOfNums_size];rfl
  go_wp2_with fail
  go_ret
  exact⟨by rw[c.out];rfl,f.out.alloc f.out.size _⟩
def lH(a:Nat)(l:yL):Bool:=decide ((cX a l.length).length+l.length<=4096)
theorem EG(a:Nat)(s:yB)(i:a<=192)(j:s.size<140737488355329)(w:World):
 Calls yP 161 #[iV .i64 a,sV s] w fun e w'=>e=rV (tV #[sV (if lH a s.data.toList then str (cX a s.size++s.data.toList) else ByteArray.empty),bV (lH a s.data.toList)])/\yW w w':=by
 have d:s.data.toList.length=s.size:=by simp
 have m:=zc a s.size;have n:(str (cX a s.size)).size=(cX a s.size).length:=aH _;have g:Hid (str (cX a s.size++s.data.toList)=str (cX a s.size)++s):=by
  conv=>rhs;rw[<-jc s]
  exact(qb _ _).symm
 by_cases h:(cX a s.size).length+s.size<=4096
 ·have c:lH a s.data.toList=true:=by unfold lH;rw[d];exact Ra h
  rw[c,QX rfl,g.out];have l:decide ((4096:Int)<((cX a s.size).length:Int)+(s.size:Int))=false:=by simp;omega
  clear d g c;go_enter func161,ntmps161
  go_wp2_with fail
  refine(EM a s.size i j _).mono ?_;rintro e w1 ⟨rfl,b⟩;have f:=aa b;clear b;generalize hD:str (cX a s.size)=D at*;have k:=aa hD;clear hD;generalize (cX a s.size).length=L at*;go_wp2_with fail
  go_ret2
  exact⟨by rw[k.out];rfl,f.out⟩
 ·have c:lH a s.data.toList=false:=by unfold lH;rw[d];exact Q9 h
  rw[c];have l:decide ((4096:Int)<((cX a s.size).length:Int)+(s.size:Int))=true:=by simp;omega
  clear d g c;go_enter func161,ntmps161
  go_wp2_with fail
  refine(EM a s.size i j _).mono ?_;rintro e w1 ⟨rfl,b⟩;have f:=aa b;clear b;generalize str (cX a s.size)=D at*;generalize (cX a s.size).length=L at*;go_wp2_with fail
  go_ret2
  exact⟨rfl,f.out⟩
structure gC(w:World)(S:Nat->Prop)(k:Value)(n:Nat)(xs:List Value):Prop where
 len:xs.length=3*n
 oa:(n=0/\∃a c,k=lV a 0 c)\/∃b o c,k=lV (some ⟨b,o,none⟩) n c/\S b/\∀j,j<3*n->w.cell? ⟨b,o+j,none⟩=xs[j]?
def tN(k:Value):Prop:=∃a n c,k=lV a n c
def aY:Nat->World->(Nat->Prop)->List Value->Tree->Prop
 | 0,_,_,cs,x=>∃t k,cs=[bV false,sV t,k]/\x=ay t.data.toList/\t.size<140737488355329/\tN k
 |d+1,w,S,cs,x=>(∃t k,cs=[bV false,sV t,k]/\x=ay t.data.toList/\t.size<140737488355329/\tN k)\/
  (∃t k ks xs,cs=[bV true,sV t,k]/\x=bH ks/\gC w S k ks.length xs/\ks.length<140737488355329/\∀i,i<ks.length->aY d w S ((xs.drop (3*i)).take 3) (ks.getD i (ay [])))
theorem mi(d:Nat)(w S)(t:yB)(k)(h:t.size<140737488355329)(a:tN k:=by exact⟨_,_,_,rfl⟩):aY d w S [bV false,sV t,k] (ay t.data.toList):=by
 cases d with
 |zero=>exact⟨t,k,rfl,rfl,h,a⟩
 |succ d=>exact .inl ⟨t,k,rfl,rfl,h,a⟩
theorem vG(d:Nat)(w S)(t:yB)(k)(ks:List Tree)(a:List Value)(h:gC w S k ks.length a)(b:ks.length<140737488355329)(c:∀i,i<ks.length->aY d w S ((a.drop (3*i)).take 3) (ks.getD i (ay []))):
 aY (d+1) w S [bV true,sV t,k] (bH ks):=.inr ⟨t,k,ks,a,rfl,rfl,h,b,c⟩
theorem gC.move{w w':World}{S S' k n d}(h:gC w S k n d)(f:∀b,S b->b<w.heap.size->S' b/\w'.heap[b]? =w.heap[b]?):gC w' S' k n d:=by
 refine⟨h.len,?_⟩;rcases h.oa with h0|⟨b,o,c,rfl,g,e⟩
 ·exact .inl h0
 ·by_cases m:n=0
  ·subst m;exact .inl ⟨rfl,_,_,rfl⟩
  ·have h0:=e 0 (by omega);have p:d[0]? =some (d[0]'(by rw[h.len];omega)):=QV _;rw[p] at h0;have l:b<w.heap.size:=Rj w _ h0;obtain⟨s1,s2⟩:=f b g l;exact .inr ⟨b,o,c,rfl,s1,fun j i=>(Rd (w:=w) (a:=⟨b,o+j,none⟩) s2).trans (e j i)⟩
theorem aY.move{w w':World}{S S'}(a:∀b,S b->b<w.heap.size->S' b/\w'.heap[b]? =w.heap[b]?):∀(d:Nat) (cs:List Value) (x:Tree),aY d w S cs x->aY d w' S' cs x:=by
 intro d;induction d with
 |zero=>intro cs x h;exact h
 |succ d ih=>
  intro cs x h;rcases h with h|⟨t,k,ks,g,rfl,rfl,f,c,e⟩
  ·exact .inl h
  ·exact .inr ⟨t,k,ks,g,rfl,rfl,f.move a,c,fun i hi=>ih _ _ (e i hi)⟩
theorem aY.below{w w' S d cs x}(h:aY d w S cs x)(k:yW w w'):aY d w' S cs x:=
 aY.move (fun b a c=>⟨a,k.block b c⟩) d cs x h
theorem gC.below{w w' S k n a}(h:gC w S k n a)(b:yW w w'):gC w' S k n a:=
 h.move (fun c d e=>⟨d,b.block c e⟩)
def fg(c:yL):Bool:=decide (c.length<=4096)
def gQ(c:yL):yB:=if fg c then str c else ByteArray.empty
theorem Fx(l:Bool)(t):lH (fu l) t=fg (cX (fu l) t.length++t):=by unfold lH fg;rw[Q4]
theorem su(c)(h:fg c=true):gQ c=str c:=by unfold gQ;rw[h];rfl
def iq(d:Nat)(ks:List Tree)(i:Nat):yL:=((ks.take i).map (bm d)).flatten
theorem Pf(d:Nat)(ks:List Tree)(i:Nat)(h:i<ks.length):iq d ks (i+1)=iq d ks i++bm d (ks.getD i (ay [])):=by
 unfold iq;have e:ks.getD i (ay [])=ks[i]:=by simp[List.getD,QV h]
 rw[RU h,e,R9,List.flatten_append];congr 1;simp only[List.map_cons,List.map_nil,List.flatten_cons,List.flatten_nil,Rz]
theorem Ph(d:Nat)(ks:List Tree)(i:Nat)(h:ks.length<=i):iq d ks i=(ks.map (bm d)).flatten:=by unfold iq;rw[RI h]
theorem Pg(d:Nat)(ks:List Tree)(i:Nat):(iq d ks i).length<=((ks.map (bm d)).flatten).length:=by
 have e:(ks.map (bm d)).flatten=iq d ks i++((ks.drop i).map (bm d)).flatten:=by
  unfold iq;rw[<-List.flatten_append,<-R9,Su]
 rw[e,Q4];omega
def kq(l:Bool)(f t:Nat):Value:=gV #[bV l,iV .i64 f,iV .i64 t]
theorem uu(s:yB)(l:Bool)(f n:Nat)(d:s.size<=4096)(a:f<=s.size)(c:s.size - f<n)(w:World):
 Calls yP 168 #[sV s,bV l,iV .i64 f,iV .u64 n] w fun e w'=>e=rV (tV #[kq false 0 0,iV .i64 5])/\yW w w':=by
 have g:IntKind.u64.wrap ((s.size:Int) - (f:Int))=(s.size:Int) - (f:Int):=by rw[IntKind.wrap_u64];omega
 have b:decide ((s.size:Int) - (f:Int)<(n:Int))=true:=by simp;omega
 go_enter func168,ntmps168
 go_wp2
 exact Rf (v:=tV #[gV #[bV false,iV .i64 0,iV .i64 0],iV .i64 5]) (by simp[results,results168,go_sem]) rfl ⟨rfl,(Q1 _ _).alloc (QU _) _⟩
theorem ur(s:yB)(l:Bool)(f n:Nat)(h:s.size<=4096)(b:f<=s.size)(d:¬s.size - f<n)(w:World):
 Calls yP 168 #[sV s,bV l,iV .i64 f,iV .u64 n] w fun e w'=>e=rV (tV #[kq l f (f+n),iV .i64 0])/\yW w w':=by
 have i:IntKind.u64.wrap ((s.size:Int) - (f:Int))=(s.size:Int) - (f:Int):=by rw[IntKind.wrap_u64];omega
 have c:decide ((s.size:Int) - (f:Int)<(n:Int))=false:=by simp;omega
 have g:n<=4096:=by omega
 have j:IntKind.i64.wrap (n:Int)=(n:Int):=by rw[RE];omega
 have a:Hid (((f+n:Nat):Int)=(f:Int)+(n:Int)):=by exact Int.natCast_add f n
 go_enter func168,ntmps168
 go_wp2
 exact Rf (v:=tV #[gV #[bV l,iV .i64 f,iV .i64 ((f:Int)+(n:Int))],iV .i64 0]) (by simp[results,results168,go_sem]) rfl ⟨by unfold kq;rw[a.out],(Q1 _ _).alloc (QU _) _⟩
theorem LK(m c:Nat)(a:m*256<18446744073709551616)(b:c<256):bits .or .u64 (IntKind.u64.wrap ((m:Int)*256)) (c:Int)=((m*256+c:Nat):Int):=by
 have e:IntKind.u64.wrap ((m:Int)*256)=((m*256:Nat):Int):=by rw[IntKind.wrap_u64];omega
 rw[e,u64_or_nat _ _ a (by omega),nat_join 8 (m*256) c (by omega) (by omega)]
theorem Qn(s:yB)(k:Nat)(h:k<s.size):be (s.data.toList.take (k+1))=be (s.data.toList.take k)*256+(s[k]).toNat:=by
 have e:s.data.toList.take (k+1)=s.data.toList.take k++[s[k]]:=by
  rw[RU (by simpa using h)];rfl
 rw[e,zP]
theorem KH(k:Nat)(h:k<=7):256 ^ k<=72057594037927936:=by
 have:256 ^ k<=256 ^ 7:=Nat.pow_le_pow_right (by omega) h;exact this
def fs(s:yL)(n:Nat):Nat:=if s.length<n then 5 else if(s.getD 0 0).toNat=0\/be (s.take n)<=55 then 7 else 0
def lj(s:yL)(n:Nat):Nat:=if fs s n=0 then be (s.take n) else 0
theorem DV(s:yB)(n:Nat)(O:s.size<=4096)(h1:1<=n)(h8:n<=8)(w:World):
 Calls yP 169 #[sV s,iV .i64 n] w fun e w'=>e=rV (tV #[iV .u64 (lj s.data.toList n),iV .i64 (fs s.data.toList n)])/\w'=w:=by
 have f:s.data.toList.length=s.size:=by simp
 by_cases v:s.size<n
 ·have a:fs s.data.toList n=5:=by unfold fs;rw[f,QX v]
  have h:lj s.data.toList n=0:=by unfold lj;rw[a];rfl
  have b:Hid (fs s.data.toList n=5/\lj s.data.toList n=0):=⟨a,h⟩
  have F:decide ((s.size:Int)<(n:Int))=true:=by simp;omega
  clear a h f;go_enter func169,ntmps169
  go_wp2_with fail
  go_ret2
  exact⟨by rw[b.out.1,b.out.2];rfl,rfl⟩
 ·have F:decide ((s.size:Int)<(n:Int))=false:=by simp;omega
  have G:0<s.size:=by omega
  have j:=aa f;clear f;go_enter func169,ntmps169
  go_wp2_with fail
  go_loopg [6,7] n (fun g z r wr=>wr=w/\∃k:Nat,g=n - k/\k<=n/\r=iV .i64 k/\z=iV .u64 (be (s.data.toList.take k)))
  case atStart=>exact⟨rfl,0,rfl,by omega,rfl,rfl⟩
  case round=>
   obtain⟨I,k,t,L,rfl,rfl⟩:=hrel;subst I;have x:=aa t;clear t;by_cases N:k<n
   ·have E:k<s.size:=by omega
    have A:=aa (Qn s k E);have o:=Qp (s.data.toList.take k);have H:=KH k (by omega);have u:(s.data.toList.take k).length=k:=by rw[Rs,j.out];omega
    rw[u] at o;have C:be (s.data.toList.take k)<72057594037927936:=by omega
    clear o H u;generalize be (s.data.toList.take k)=m at*;have p:(s[k]).toNat<256:=(s[k]).toNat_lt;have h:=LK m (s[k]).toNat (by omega) p;have K:IntKind.u64.wrap ((s[k]).toNat:Int)=((s[k]).toNat:Int):=by rw[IntKind.wrap_u64];omega
    obtain⟨M,l⟩:=yX (m*256+(s[k]).toNat)
    rw[<-l] at h;have y:=aa l;clear l C p;have D:(k:Int)<(n:Int):=by omega
    go_wp2_with fail
    go_roundg (n - (k+1))
    case measure=>have:=x.out;omega
    case rel=>exact⟨rfl,k+1,rfl,by omega,by go_num,by rw[A.out,<-y.out]⟩
   ·have:k=n:=by omega
    subst this;have e0:s.data.toList.getD 0 0=s[0]:=by rw[Q3,QV (by rw[j.out];exact G)];rfl
    have q:fs s.data.toList k=if(s[0]).toNat=0\/be (s.data.toList.take k)<=55 then 7 else 0:=by
     unfold fs;rw[j.out,QW v,e0]
    have D:¬((k:Int)<(k:Int)):=by omega
    have c:=aa q;have d:Hid (lj s.data.toList k=if fs s.data.toList k=0 then be (s.data.toList.take k) else 0):=rfl;clear q e0;generalize be (s.data.toList.take k)=m at*;by_cases i:(s[0]).toNat=0
    ·have J:(((s[0]).toNat:Int) == 0)=true:=beq_iff_eq.2 (by omega);have a:fs s.data.toList k=7:=by rw[c.out,QX (.inl i)]
     have b:Hid (fs s.data.toList k=7/\lj s.data.toList k=0):=⟨a,by rw[d.out,a];rfl⟩
     clear a c d i;go_wp2_with fail
     go_ret2
     exact⟨by rw[b.out.1,b.out.2];rfl,rfl⟩
    ·have J:(((s[0]).toNat:Int) == 0)=false:=RW.2 (by omega);by_cases h55:m<=55
     ·have B:decide ((m:Int)<=55)=true:=by simp;omega
      have a:fs s.data.toList k=7:=by rw[c.out,QX (.inr h55)]
      have b:Hid (fs s.data.toList k=7/\lj s.data.toList k=0):=⟨a,by rw[d.out,a];rfl⟩
      clear a c d i;go_wp2_with fail
      go_ret2
      exact⟨by rw[b.out.1,b.out.2];rfl,rfl⟩
     ·have B:decide ((m:Int)<=55)=false:=by simp;omega
      have a:fs s.data.toList k=0:=by rw[c.out,QW (by omega)]
      have b:Hid (fs s.data.toList k=0/\lj s.data.toList k=m):=⟨a,by rw[d.out,a];rfl⟩
      clear a c d i;go_wp2_with fail
      go_ret2
      exact⟨by rw[b.out.1,b.out.2];rfl,rfl⟩
def OF:Except Nat (Bool×Nat×Nat)->Value
 | .error _=>kq false 0 0
 | .ok (l,f,n)=>kq l f (f+n)
def OE:Except Nat (Bool×Nat×Nat)->Nat
 | .error e=>e
 | .ok _=>0
theorem rf{W w1:World}(a:yW W w1):(∀b o,b<W.heap.size->w1.cell? ⟨b,o,none⟩=W.cell? ⟨b,o,none⟩)/\(∀b o,b<W.heap.size->w1.frozen? ⟨b,o,none⟩=W.frozen? ⟨b,o,none⟩):=
 ⟨fun b o h=>a.cell (p:=⟨b,o,none⟩) h,fun b o h=>a.frozen (p:=⟨b,o,none⟩) h⟩
theorem fV{w w1:World}{x y z T}(a:Below (w.alloc (.cells #[x,y,z] T)).heap.size (w.alloc (.cells #[x,y,z] T)) w1):
 w1.cell? ⟨w.heap.size,0,none⟩=some x/\w1.cell? ⟨w.heap.size,1,none⟩=some y/\w1.cell? ⟨w.heap.size,2,none⟩=some z/\w1.frozen? ⟨w.heap.size,0,none⟩=false/\w1.frozen? ⟨w.heap.size,1,none⟩=false/\w1.frozen? ⟨w.heap.size,2,none⟩=false:=by
 obtain⟨h1,h2⟩:=rf a;refine⟨?_,?_,?_,?_,?_,?_⟩
 ·rw[h1 _ _ (by simp)];simp
 ·rw[h1 _ _ (by simp)];simp
 ·rw[h1 _ _ (by simp)];simp
 ·rw[h2 _ _ (by simp)];simp
 ·rw[h2 _ _ (by simp)];simp
 ·rw[h2 _ _ (by simp)];simp
theorem FJ(s:yB):(s.extract 1 s.size).data.toList=s.data.toList.drop 1:=by
 rw[Lib.extract_data,RI (by simp)]
theorem EJ(s:yL)(h:s.length=0):eR s=.error 5:=by unfold eR;rw[QX h]
theorem EL(s:yL)(h:s.length≠0)(c:Nat)(a:(s.getD 0 0).toNat=c)(h1:c<128):eR s=.ok (false,0,1):=by
 unfold eR;rw[QW h,a,QX h1]
theorem zd(s:yL)(h:s.length≠0)(c base:Nat)(b:(s.getD 0 0).toNat=c)(h1:¬c<128)(a:base=if 192<=c then 192 else 128)(h2:c - base<=55):eR s=jQ s (decide (192<=c)) 1 (c - base):=by
 unfold eR;rw[QW h,b,QW h1,<-a,QX h2]
theorem zf(s:yL)(h:s.length≠0)(c base:Nat)(e:(s.getD 0 0).toNat=c)(h1:¬c<128)(d:base=if 192<=c then 192 else 128)(h2:¬c - base<=55):
 eR s=if fs (s.drop 1) (c - base - 55)=0 then jQ s (decide (192<=c)) (1+(c - base) - 55) (lj (s.drop 1) (c - base - 55)) else .error (fs (s.drop 1) (c - base - 55)):=by
 have e1:(s.drop 1).getD 0 0=s.getD 1 0:=by rw[Q3,Sw,Q3]
 have a:fs (s.drop 1) (c - base - 55)=if s.length - 1<c - base - 55 then 5 else if(s.getD 1 0).toNat=0\/be ((s.drop 1).take (c - base - 55))<=55 then 7 else 0:=by
  unfold fs;rw[Q8,e1]
 have b:lj (s.drop 1) (c - base - 55)=if fs (s.drop 1) (c - base - 55)=0 then be ((s.drop 1).take (c - base - 55)) else 0:=rfl;unfold eR;rw[QW h,e,QW h1,<-d,QW h2];by_cases h3:s.length - 1<c - base - 55
 ·rw[QX h3];rw[QX h3] at a;rw[a];rfl
 ·rw[QW h3];rw[QW h3] at a;by_cases h4:(s.getD 1 0).toNat=0\/be ((s.drop 1).take (c - base - 55))<=55
  ·rw[QX h4];rw[QX h4] at a;rw[a];rfl
  ·rw[QW h4];rw[QW h4] at a;rw[b,a,QX rfl,QX rfl]
theorem OB(s:yB)(A:s.size<=4096)(w:World):
 Calls yP 163 #[sV s] w fun e w'=>e=rV (tV #[OF (eR s.data.toList),iV .i64 (OE (eR s.data.toList))])/\yW w w':=by
 have d:s.data.toList.length=s.size:=by simp
 by_cases h0:s.size=0
 ·rw[EJ _ (by rw[d];exact h0)];have H:((s.size:Int) == 0)=true:=beq_iff_eq.2 (by omega);clear d h0;go_enter func163,ntmps163
  go_wp2_with fail
  exact Rf (v:=tV #[gV #[bV false,iV .i64 0,iV .i64 0],iV .i64 5]) (by simp[results,results163,go_sem]) rfl ⟨rfl,(Q1 _ _).alloc (QU _) _⟩
 have H:((s.size:Int) == 0)=false:=RW.2 (by omega);have D:0<s.size:=by omega
 have i:s.data.toList.length≠0:=by rw[d];exact h0
 obtain⟨c,G⟩:∃c:Nat,(s[0]).toNat=c:=⟨_,rfl⟩
 have R:c<256:=by rw[<-G];exact(s[0]).toNat_lt
 have g:(s.data.toList.getD 0 0).toNat=c:=by rw[Q3,QV (by rw[d];exact D)];exact G
 by_cases h1:c<128
 ·rw[EL _ i c g h1];have I:decide ((c:Int)<128)=true:=by simp;omega
  clear d i g;go_enter func163,ntmps163
  go_wp2_with fail
  exact Rf (v:=tV #[gV #[bV false,iV .i64 0,iV .i64 1],iV .i64 0]) (by simp[results,results163,go_sem]) rfl ⟨rfl,(Q1 _ _).alloc (QU _) _⟩
 have I:decide ((c:Int)<128)=false:=by simp;omega
 have O:(decide ((192:Int)<=(c:Int))=true/\192=(if 192<=c then 192 else 128)/\decide (192<=c)=true/\∃n:Nat,n=c - 192/\(c:Int) - 192=(n:Int)/\n<=63)\/(decide ((192:Int)<=(c:Int))=false/\128=(if 192<=c then 192 else 128)/\decide (192<=c)=false/\∃n:Nat,n=c - 128/\(c:Int) - 128=(n:Int)/\n<=63):=by
  by_cases h2:192<=c
  ·exact Or.inl ⟨by simp;omega,(QX h2).symm,Ra h2,_,rfl,by omega,by omega⟩
  ·exact Or.inr ⟨by simp;omega,(QW h2).symm,Q9 h2,_,rfl,by omega,by omega⟩
 rcases O with⟨J,j,k,n,l,M,L⟩|⟨J,j,k,n,l,M,L⟩;all_goals
  have T:IntKind.u64.wrap (n:Int)=(n:Int):=by rw[IntKind.wrap_u64];omega
  by_cases h55:n<=55
  ·have K:decide ((n:Int)<=55)=true:=by simp;omega
   have a:=zd s.data.toList i c _ g h1 j (by omega);rw[k,<-l] at a;unfold jQ at a;rw[d] at a;by_cases f:s.size - 1<n
   ·rw[QX f] at a;rw[a];have o:=aa f;clear d i g a j k l f;go_enter func163,ntmps163
    go_wp2_with fail
    refine(uu s _ 1 n A D o.out _).mono ?_;rintro e w1 ⟨rfl,b⟩;obtain⟨k0,k1,k2,f0,f1,f2⟩:=fV b;have m:=aa (((Q1 _ _).alloc (QU _) _).trans (b.mono (by simp)));clear b;unfold kq;go_wp2_with fail
    exact Rf (v:=tV #[gV #[bV false,iV .i64 0,iV .i64 0],iV .i64 5]) (by simp[results,results163,go_sem,k0,k1,k2]) rfl ⟨rfl,((m.out.setCell (QU _) _).setCell (QU _) _).setCell (QU _) _⟩
   ·rw[QW f] at a;rw[a];have o:=aa f;clear d i g a j k l f;go_enter func163,ntmps163
    go_wp2_with fail
    refine(ur s _ 1 n A D o.out _).mono ?_;rintro e w1 ⟨rfl,b⟩;obtain⟨k0,k1,k2,f0,f1,f2⟩:=fV b;have m:=aa (((Q1 _ _).alloc (QU _) _).trans (b.mono (by simp)));clear b;unfold kq;go_wp2_with fail
    exact Rf (v:=tV #[gV #[bV _,iV .i64 ((1:Nat):Int),iV .i64 ((1+n:Nat):Int)],iV .i64 0]) (by simp[results,results163,go_sem,k0,k1,k2]) rfl ⟨rfl,((m.out.setCell (QU _) _).setCell (QU _) _).setCell (QU _) _⟩
  ·have K:decide ((n:Int)<=55)=false:=by simp;omega
   obtain⟨q,z⟩:=yX (n - 55)
   have U:(n:Int) - 55=(q:Int):=by omega
   have N:1<=q:=by omega
   have P:q<=8:=by omega
   have S:1+(n:Int) - 55=((1+q:Nat):Int):=by omega
   have a:=zf s.data.toList i c _ g h1 j (by omega);rw[k,<-l,<-z,show 1+n - 55=1+q by omega] at a;have u:(s.extract 1 s.size).size<=4096:=by simp only[ByteArray.size_extract];omega
   have p:=DV (s.extract 1 s.size) q u N P;rw[FJ] at p;have C:=aa p;have x:fs (s.data.toList.drop 1) q=0->1+q<=s.size:=by
    intro t;unfold fs at t;rw[Q8,d] at t;by_cases h:s.size - 1<q
    ·rw[QX h] at t;cases t
    ·omega
   generalize fs (s.data.toList.drop 1) q=E at*;generalize lj (s.data.toList.drop 1) q=V at*;by_cases F:E=0
   ·subst F;rw[QX rfl] at a;unfold jQ at a;rw[d] at a;have y:=x rfl;by_cases f:s.size - (1+q)<V
    ·rw[QX f] at a;rw[a];have o:=aa f;have B:=aa y;clear d i g a j k l f p z x y u;go_enter func163,ntmps163
     go_wp2_with fail
     refine(C.out _).mono ?_;rintro e w0 ⟨rfl,r⟩;subst r;go_wp2_with fail
     refine(uu s _ (1+q) V A B.out o.out _).mono ?_;rintro e w1 ⟨rfl,b⟩;obtain⟨k0,k1,k2,f0,f1,f2⟩:=fV b;have m:=aa (((Q1 _ _).alloc (QU _) _).trans (b.mono (by simp)));clear b;unfold kq;go_wp2_with fail
     exact Rf (v:=tV #[gV #[bV false,iV .i64 0,iV .i64 0],iV .i64 5]) (by simp[results,results163,go_sem,k0,k1,k2]) rfl ⟨rfl,((m.out.setCell (QU _) _).setCell (QU _) _).setCell (QU _) _⟩
    ·rw[QW f] at a;rw[a];have o:=aa f;have B:=aa y;clear d i g a j k l f p z x y u;go_enter func163,ntmps163
     go_wp2_with fail
     refine(C.out _).mono ?_;rintro e w0 ⟨rfl,r⟩;subst r;go_wp2_with fail
     refine(ur s _ (1+q) V A B.out o.out _).mono ?_;rintro e w1 ⟨rfl,b⟩;obtain⟨k0,k1,k2,f0,f1,f2⟩:=fV b;have m:=aa (((Q1 _ _).alloc (QU _) _).trans (b.mono (by simp)));clear b;unfold kq;go_wp2_with fail
     exact Rf (v:=tV #[gV #[bV _,iV .i64 ((1+q:Nat):Int),iV .i64 ((1+q+V:Nat):Int)],iV .i64 0]) (by simp[results,results163,go_sem,k0,k1,k2]) rfl ⟨rfl,((m.out.setCell (QU _) _).setCell (QU _) _).setCell (QU _) _⟩
   ·rw[QW F] at a;rw[a];have Q:((E:Int) != 0)=true:=by simp;omega
    clear d i g a j k l p z x u;go_enter func163,ntmps163
    go_wp2_with fail
    refine(C.out _).mono ?_;rintro e w0 ⟨rfl,r⟩;subst r;go_wp2_with fail
    exact Rf (v:=tV #[gV #[bV false,iV .i64 0,iV .i64 0],iV .i64 (E:Int)]) (by simp[results,results163,go_sem]) rfl ⟨rfl,(Q1 _ _).alloc (QU _) _⟩
def aF:yL->yL->Nat
 |x::a,y::b=>if x=y then aF a b+1 else 0
 | _,_=>0
theorem g9:∀a b,aF a b<=a.length/\aF a b<=b.length
 | [],_=>⟨Ri _,Ri _⟩
 | _::_,[]=>⟨Ri _,Ri _⟩
 |x::a,y::b=>by
  have:=g9 a b
  simp only[aF]
  split
  ·simp;omega
  ·simp
theorem JB(a b:yL)(k:Nat)(c:k<a.length)(d:k<b.length)(h:a[k]=b[k]):aF (a.drop k) (b.drop k)=aF (a.drop (k+1)) (b.drop (k+1))+1:=by
 rw[RF c,RF d];simp only[aF,h,RJ]
theorem JA(a b:yL)(k:Nat)(c:k<a.length)(d:k<b.length)(h:a[k]≠b[k]):aF (a.drop k) (b.drop k)=0:=by
 rw[RF c,RF d];simp only[aF,h,Ry]
theorem JD(a b:yL)(k:Nat)(c:a.length<=k):aF (a.drop k) (b.drop k)=0:=by
 rw[List.drop_eq_nil_of_le c];simp[aF]
theorem JC(a b:yL)(k:Nat)(c:b.length<=k):aF (a.drop k) (b.drop k)=0:=by
 rw[List.drop_eq_nil_of_le c];cases a.drop k<;>simp[aF]
theorem rW(a b:yB)(u:a.size<=maxLen)(v:b.size<=maxLen)(w:World):
 Calls yP 107 #[sV a,sV b] w fun e w'=>e=rV (iV .i64 (aF a.data.toList b.data.toList))/\∃n,w'=w.drewN n:=by
 unfold maxLen at u v;obtain⟨N,i⟩:=yX (aF a.data.toList b.data.toList)
 rw[<-i];have q:=aa i;clear i;go_enter func107,ntmps107
 go_wp2_with fail
 go_loopg [5] a.size (fun g r wr=>∃m k:Nat,wr=w.drewN m/\g=a.size - k/\k<=a.size/\k<=b.size/\r=iV .i64 k/\Hid (N=aF (a.data.toList.drop k) (b.data.toList.drop k)+k))
 case atStart=>exact⟨0,0,rfl,rfl,by omega,by omega,rfl,q.out⟩
 case round=>
  obtain⟨m,k,rfl,j,A,B,rfl,f⟩:=hrel;have p:=aa j;clear j;by_cases l:k<a.size
  ·by_cases o:k<b.size
   ·have t:(k:Int)<(a.size:Int):=by omega
    have z:(k:Int)<(b.size:Int):=by omega
    by_cases c:a[k]=b[k]
    ·have s:Hid (N=aF (a.data.toList.drop (k+1)) (b.data.toList.drop (k+1))+(k+1)):=by
      show _=_;rw[f.out,JB _ _ k (by simpa using l) (by simpa using o) (by simpa [ByteArray.getElem_eq_getElem_data] using c)];omega
     have x:(((a[k]).toNat:Int) == ((b[k]).toNat:Int))=true:=by rw[c];simp
     clear c;go_wp2_with fail
     go_quiet (fail)
     go_wp2_with fail
     go_roundg (a.size - (k+1))
     case measure=>have:=p.out;omega
     case rel=>exact⟨_,k+1,rfl,rfl,by omega,by omega,by go_num,s.out⟩
    ·have d:Hid (N=k):=by
      show _=_;rw[f.out,JA _ _ k (by simpa using l) (by simpa using o) (by simpa [ByteArray.getElem_eq_getElem_data] using c)];omega
     have x:(((a[k]).toNat:Int) == ((b[k]).toNat:Int))=false:=by
      rw[RW];intro h;exact c (UInt8.toNat_inj.1 (by omega))
     clear c;go_wp2_with fail
     go_quiet (fail)
     go_wp2_with fail
     go_ret
     exact⟨by show Ending.returned (Value.int .i64 (k:Int))=_;rw[d.out],_,World.drewN_drewN ..⟩
   ·have d:Hid (N=k):=by
     show _=_;rw[f.out,JC _ _ k (by simp;omega)];omega
    have t:(k:Int)<(a.size:Int):=by omega
    have y:decide ((k:Int)<(b.size:Int))=false:=by simp;omega
    go_wp2_with fail
    go_quiet (fail)
    go_wp2_with fail
    go_ret
    exact⟨by show Ending.returned (Value.int .i64 (k:Int))=_;rw[d.out],_,World.drewN_drewN ..⟩
  ·have d:Hid (N=k):=by
    show _=_;rw[f.out,JD _ _ k (by simp;omega)];omega
   have y:decide ((k:Int)<(a.size:Int))=false:=by simp;omega
   go_wp2_with fail
   go_quiet (fail)
   go_wp2_with fail
   go_ret
   exact⟨by show Ending.returned (Value.int .i64 (k:Int))=_;rw[d.out],_,World.drewN_drewN ..⟩
theorem Ct(s:yB)(hs:s.size<=4096)(w:World):
 Calls yP 62 #[sV s] w fun e w'=>e=rV (sV (str (bZ s.data.toList)))/\yW w w':=by
 obtain⟨i0,T,A1,A2,A3⟩:=Sf pt;have A0:=yu 0 (2*(s.size:Int)) (by omega) (by omega) (by omega);have G:s.data.toList.length=s.size:=by simp
 have h:=aa G;have U:(2*(s.size:Int)).toNat=2*s.size:=by omega
 clear G;go_enter func62,ntmps62
 go_upto_region 2 with fail
 have a:=uR w w.heap.size (2*s.size) (QU _) (by unfold maxLen;omega);have b:=(Q1 w.heap.size w).alloc (QU _) (.cells (madeCells #[iV .u8 0] (2*s.size)) 5);generalize hW:w.alloc (.cells (madeCells #[iV .u8 0] (2*s.size)) 5)=W1 at*;obtain⟨g1,p⟩:=yX w.heap.size
 obtain⟨z,o⟩:∃c,c=2*s.size:=⟨_,rfl⟩
 have x:Hid (W1.ownsRow w.heap.size 5 1 (lV (qA g1) 0 z) 0 (bI [])):=by rw[p,o];exact a
 have t:=aa b;rw[<-o,<-p];clear hW a b A0 U p o;go_wp2_with fail
 go_loopg [3,4] s.size (fun n v r wr=>∃j f cap:Nat,n=s.size - j/\j<=s.size/\r=iV .i64 (j:Int)/\v=lV (qA f) (2*j) cap/\
  wr.ownsRow w.heap.size 5 1 (lV (qA f) (2*j) cap) (2*j) (bI (bZ (s.data.toList.take j)))/\yW w wr)
 case atStart=>exact⟨0,g1,z,by omega,by omega,rfl,rfl,x.out,t.out⟩
 case round=>
  obtain⟨j,f,cap,D,hj,rfl,rfl,a,b⟩:=hrel;have K:=aa D;clear D x t;obtain⟨N,g⟩:=yX (2*j)
  have l:=aa g;rw[<-g];rw[<-g] at a;clear g;by_cases A8:j<s.size
  ·have A6:=tj s[j];have A5:=pG s[j];have O:Hid (bZ (s.data.toList.take (j+1))=bZ (s.data.toList.take j)++[hi s[j],lo s[j]]):=by
    have Y:j<s.data.toList.length:=by have:=h.out;omega
    rw[RU Y,vM];congr 1
   have y:=aa a;have d:=aa b;have A7:N<8192:=by have:=l.out;omega
   have A9:(j:Int)<(s.size:Int):=by omega
   clear a b;generalize hi s[j]=cA at*;generalize lo s[j]=cB at*;generalize hks:bI (bZ (s.data.toList.take j))=ks at*;have L:=aa hks;clear hks;go_wp2_with fail
   go_region_law (refine step_append_lies _ rfl (.tmp 15) (.tmp 24) 52 rfl w.heap.size 5 i0 (iV .u8 0) 1 1 underlying52 T A1 A2 A3 rfl (by decide) (lV (qA f) N cap) N ks (by simp[Act.eval]) (y.out.drew.alloc _) ⟨wr.heap.size,0,none⟩ 2 2 [iV .u8 (cA.toNat:Int),iV .u8 (cB.toNat:Int)] (by simp[Act.eval]) rfl (x7 _ _ _) (by intro u I;simp at I;rcases I with rfl|rfl<;>rfl) (by omega) (by unfold maxLen;omega) (by omega) (by have:=d.out.size;simp;omega) _ rfl ?_;intro g2 A m H E R Z)
   all_goals
    have B:yW w m:=(d.out.drew.alloc d.out.size _).grown E (by have:=d.out.size;simp;omega) (fun k V=>(y.out.lt k V).1);have M:=aa H;have J:=aa B;clear H E R Z B;go_wp2_with fail
    go_roundg (s.size - (j+1))
    case measure=>have:=K.out;omega
    case rel=>
     have Q:=l.out;refine⟨j+1,g2,A,rfl,by omega,by go_num,by rw[show 2*(j+1)=N+2 by omega],?_,J.out⟩;have e:bI (bZ (s.data.toList.take (j+1)))=ks++[iV .u8 (cA.toNat:Int),iV .u8 (cB.toNat:Int)]:=by
      rw[O.out,<-L.out];simp[bI]
     rw[e,show 2*(j+1)=N+2 by omega];exact M.out
  ·have d:=aa b;have C:bZ (s.data.toList.take j)=bZ s.data.toList:=by
    rw[RI (by have:=h.out;omega)]
   have q:(bZ s.data.toList).length=N:=by
    have W:=h.out;have Q:=l.out;rw[ow,W];omega
   have S:=St (P:=yP) wr 52 5 underlying52 underlying5 f 0 N cap ((bZ s.data.toList).map (fun c=>(c.toNat:Int))) (by
    rw[Rr,q]) (fun i F=>by
    have:=a.cellAt i (by rw[Nat.mul_one];exact F);rw[R5,this,C];have X:i<(bZ s.data.toList).length:=by rw[q];exact F
    simp[bI,List.getD,QV X]) 9 underlying9
   rw[nJ] at S;have A4:¬((j:Int)<(s.size:Int)):=by omega
   clear a b C q;go_wp2_with fail
   go_ret
   exact⟨rfl,d.out⟩
end Go.Proofs.YtkfdmlcjpomfgaaGreatDoor
