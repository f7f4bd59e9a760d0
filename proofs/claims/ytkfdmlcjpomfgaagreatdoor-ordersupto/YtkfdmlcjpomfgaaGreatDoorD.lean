import Derived.Test.YtkfdmlcjpomfgaaGreatDoorHd
open Go.Proofs.Tryz
open Go.Proofs.Tryz renaming prog→yP
open Go.Value renaming string→sV,pointer→pV,int→iV,slice→lV,bool→bV,tuple→tV,agg→gV
open Go.Ending renaming returned→rV
namespace Go.Proofs.YtkfdmlcjpomfgaaGreatDoor
open Go.RowKit
set_option maxRecDepth 100000
set_option maxHeartbeats 0
set_option linter.all false
def hi(c:UInt8):UInt8:=UInt8.ofNat (c.toNat / 16)
def lo(c:UInt8):UInt8:=UInt8.ofNat (c.toNat % 16)
def iG(a b:UInt8):UInt8:=UInt8.ofNat (16*a.toNat+b.toNat)
theorem vK(c:UInt8):(hi c).toNat=c.toNat / 16:=by
 have:=c.toNat_lt;unfold hi;rw[RH];omega
theorem qL(c:UInt8):(lo c).toNat=c.toNat % 16:=by
 have:=c.toNat_lt;unfold lo;rw[RH];omega
theorem sM(a b:UInt8)(c:a.toNat<16)(d:b.toNat<16):(iG a b).toNat=16*a.toNat+b.toNat:=by
 unfold iG;rw[RH];omega
theorem yZ(c:UInt8):(hi c).toNat<16:=by have:=c.toNat_lt;rw[vK];omega
theorem sJ(c:UInt8):(lo c).toNat<16:=by rw[qL];omega
theorem lq{a b:UInt8}(h:a.toNat=b.toNat):a=b:=UInt8.toNat_inj.1 h
theorem Es(c:UInt8):iG (hi c) (lo c)=c:=by
 apply lq;rw[sM _ _ (yZ c) (sJ c),vK,qL];omega
theorem za(a b:UInt8)(c:a.toNat<16)(d:b.toNat<16):hi (iG a b)=a:=by
 apply lq;rw[vK,sM a b c d];omega
theorem yw(a b:UInt8)(c:a.toNat<16)(d:b.toNat<16):lo (iG a b)=b:=by
 apply lq;rw[qL,sM a b c d];omega
def gi:yL->yL
 |a::b::r=>iG a b::gi r
 | _=>[]
def bZ:yL->yL
 | []=>[]
 |c::r=>hi c::lo c::bZ r
def ak(l:yL):Prop:=∀x,x∈l->x.toNat<16
theorem ow:∀l:yL,(bZ l).length=2*l.length
 | []=>rfl
 |c::r=>by simp only[bZ,Ro,ow r];omega
theorem vL:∀l:yL,ak (bZ l)
 | []=>fun x h=>by cases h
 |c::r=>fun x h=>by
  simp only[bZ,Rh] at h
  rcases h with rfl|rfl|h
  ·exact yZ c
  ·exact sJ c
  ·exact vL r x h
theorem vM:∀l m:yL,bZ (l++m)=bZ l++bZ m
 | [],m=>rfl
 |c::r,m=>by simp only[List.cons_append,bZ,vM r m]
theorem sr:∀l:yL,gi (bZ l)=l
 | []=>rfl
 |c::r=>by simp only[bZ,gi,Es,sr r]
theorem Cz:∀l m:yL,l.length % 2=0->gi (l++m)=gi l++gi m
 | [],m,_=>rfl
 | [a],m,h=>by simp at h
 |a::b::r,m,h=>by
  have:=Cz r m (by simp at h;omega)
  simp only[List.cons_append,gi,this]
theorem zk:∀l:yL,l.length % 2=0->ak l->bZ (gi l)=l
 | [],_,_=>rfl
 | [a],h,_=>by simp at h
 |a::b::r,h,n=>by
  have c:=n a (by simp)
  have d:=n b (by simp)
  have:=zk r (by simp at h;omega) (fun x e=>n x (by simp[e]))
  simp only[gi,bZ,za a b c d,yw a b c d,this]
theorem x6:∀l:yL,(gi l).length=l.length / 2
 | []=>rfl
 | [a]=>by simp[gi]
 |a::b::r=>by simp only[gi,Ro,x6 r];omega
theorem IV(l:yL)(j:Nat)(h:j+1<l.length):l.take (j+2)=l.take j++[l[j],l[j+1]]:=by
 show l.take ((j+1)+1)=_;rw[RU (show j+1<l.length from h),RU (show j<l.length by omega),Rn];rfl
def iF(b a:Bool):Nat:=(if a then 2 else 0)+(if b then 1 else 0)
def cN(l:yL)(a:Bool):yL:=
 if l.length % 2=1 then iG (UInt8.ofNat (iF true a)) (l.getD 0 0)::gi (l.drop 1) else iG (UInt8.ofNat (iF false a)) 0::gi l
def bd(t:yL):yL:=(if(hi (t.getD 0 0)).toNat % 2=1 then [lo (t.getD 0 0)] else [])++bZ (t.drop 1)
def ft(t:yL):Bool:=decide (2<=(hi (t.getD 0 0)).toNat % 4)
def jz(t:yL):Prop:=t≠[]/\(hi (t.getD 0 0)).toNat<=3/\((hi (t.getD 0 0)).toNat % 2=0->(lo (t.getD 0 0)).toNat=0)
theorem qy(l)(a:Bool):(cN l a).length=l.length / 2+1:=by
 unfold cN;split
 ·simp only[Ro,x6,Q8];omega
 ·simp only[Ro,x6]
theorem mT(b a:Bool):(UInt8.ofNat (iF b a)).toNat=iF b a:=by cases b<;>cases a<;>rfl
theorem vk(b a:Bool):(UInt8.ofNat (iF b a)).toNat<16:=by cases b<;>cases a<;>decide
theorem Mn(l)(h:ak l)(i:Nat):(l.getD i 0).toNat<16:=by
 rcases Nat.lt_or_ge i l.length with hi|hi
 ·have e:l.getD i 0=l[i]:=by simp[List.getD,QV hi]
  rw[e];exact h _ (RV hi)
 ·have e:l.getD i 0=0:=by simp[List.getD,RP hi]
  rw[e];decide
theorem CD(l)(b:Bool)(h:ak l):jz (cN l b)/\bd (cN l b)=l/\ft (cN l b)=b:=by
 by_cases f:l.length % 2=1
 ·have e:cN l b=iG (UInt8.ofNat (iF true b)) (l.getD 0 0)::gi (l.drop 1):=by unfold cN;rw[QX f]
  have h0:=Mn l h 0;have c:hi (iG (UInt8.ofNat (iF true b)) (l.getD 0 0))=UInt8.ofNat (iF true b):=za _ _ (vk _ _) h0;have d:lo (iG (UInt8.ofNat (iF true b)) (l.getD 0 0))=l.getD 0 0:=yw _ _ (vk _ _) h0;rw[e];refine⟨⟨by simp,?_,?_⟩,?_,?_⟩
  ·rw[RC,c,mT];cases b<;>decide
  ·rw[RC,c,mT];cases b<;>simp[iF]
  ·unfold bd;rw[RC,c,mT,d,List.drop_succ_cons,List.drop_zero,zk _ (by simp;omega) (fun x g=>h x (List.mem_of_mem_drop g))];rw[QX (by cases b<;>rfl)];cases l with
   |nil=>simp at f
   |cons a r=>rfl
  ·unfold ft;rw[RC,c,mT];cases b<;>rfl
 ·have e:cN l b=iG (UInt8.ofNat (iF false b)) 0::gi l:=by unfold cN;rw[QW f]
  have h0:(0:UInt8).toNat<16:=by decide
  have c:hi (iG (UInt8.ofNat (iF false b)) 0)=UInt8.ofNat (iF false b):=za _ _ (vk _ _) h0;have d:lo (iG (UInt8.ofNat (iF false b)) 0)=0:=yw _ _ (vk _ _) h0;rw[e];refine⟨⟨by simp,?_,?_⟩,?_,?_⟩
  ·rw[RC,c,mT];cases b<;>decide
  ·rw[RC,d];intro _;rfl
  ·unfold bd;rw[RC,c,mT,List.drop_succ_cons,List.drop_zero,zk _ (by omega) h];rw[QW (by cases b<;>decide)];rfl
  ·unfold ft;rw[RC,c,mT];cases b<;>rfl
theorem KV(t):ak (bd t):=by
 intro x a;unfold bd at a;rcases Re.1 a with h|h
 ·split at h
  ·simp only[Q2] at h;subst h;exact sJ _
  ·cases h
 ·exact vL _ x h
theorem KY(t)(_h:t≠[]):(bd t).length=(if(hi (t.getD 0 0)).toNat % 2=1 then 1 else 0)+2*(t.length - 1):=by
 unfold bd;rw[Q4,ow,Q8];split<;>simp
theorem Ff(t)(h:jz t):cN (bd t) (ft t)=t:=by
 obtain⟨i,h3,f⟩:=h;cases t with
 |nil=>exact absurd rfl i
 |cons c r=>
  simp only[RC] at h3 f;have d:=KY (c::r) (by simp);simp only[RC,Ro] at d;have b:=Es c;unfold cN;by_cases a:(hi c).toNat % 2=1
  ·rw[QX a] at d;rw[QX (by omega)];have e:bd (c::r)=lo c::bZ r:=by unfold bd;simp only[RC,QX a,List.drop_succ_cons,List.drop_zero,List.singleton_append]
   rw[e];simp only[RC,List.drop_succ_cons,List.drop_zero,sr];congr 1;have:UInt8.ofNat (iF true (ft (c::r)))=hi c:=by
    apply lq;rw[mT];unfold ft iF;simp only[RC,RJ];by_cases h2:2<=(hi c).toNat % 4
    ·simp only[h2,decide_true,RJ];omega
    ·simp only[h2,decide_false];simp;omega
   rw[this,b]
  ·rw[QW a] at d;rw[QW (by omega)];have e:bd (c::r)=bZ r:=by unfold bd;simp only[RC,QW a,List.drop_succ_cons,List.drop_zero,SF]
   rw[e,sr];congr 1;have g:lo c=0:=lq (f (by omega));have:UInt8.ofNat (iF false (ft (c::r)))=hi c:=by
    apply lq;rw[mT];unfold ft iF;simp only[RC];by_cases h2:2<=(hi c).toNat % 4
    ·simp only[h2,decide_true,RJ];simp;omega
    ·simp only[h2,decide_false];simp;omega
   rw[this];rw[g] at b;exact b
def o9(l:yL):Bool:=l.all (fun c=>decide (c.toNat<16))
theorem yi{l}(h:o9 l=true):ak l:=fun x a=>by
 have:=Sp.1 h x a
 simpa using this
theorem Di{l}(h:ak l):o9 l=true:=Sp.2 fun x a=>by simpa using h x a
theorem Mo{l:yL}(k:Nat)(a:k<l.length)(h:15<(l[k]).toNat):o9 l=false:=by
 cases hb:o9 l with
 |false=>rfl
 |true=>
  have:=yi hb _ (RV a);omega
theorem Qy(s:yB)(q:s.size<=maxLen)(w:World):
 Calls yP 162 #[sV s] w fun e w'=>e=rV (bV (o9 s.data.toList))/\w'=w:=by
 unfold maxLen at q;go_enter func162,ntmps162
 go_wp2_with fail
 go_loopg [3] s.size (fun g r wr=>wr=w/\∃k:Nat,g=s.size - k/\k<=s.size/\r=iV .i64 k/\Hid (∀j,(h:j<s.size)->j<k->(s[j]).toNat<16))
 case atStart=>exact⟨rfl,0,rfl,by omega,rfl,fun j _ h=>by omega⟩
 case round=>
  obtain⟨rfl,k,d,v,rfl,b⟩:=hrel;have l:=aa d;clear d;by_cases p:k<s.size
  ·by_cases n:15<(s[k]).toNat
   ·have o:(15:Int)<((s[k]).toNat:Int):=by omega
    have c:o9 s.data.toList=false:=Mo k (by simpa using p) n;have i:=aa c;clear c;go_wp2_with fail
    go_ret
    exact⟨by rw[i.out];rfl,rfl⟩
   ·have o:¬(15:Int)<((s[k]).toNat:Int):=by omega
    go_wp2_with fail
    go_roundg (s.size - (k+1))
    case measure=>have:=l.out;omega
    case rel=>exact⟨rfl,k+1,rfl,by omega,by go_num,fun j a u=>by
     by_cases e:j=k
     ·subst e;omega
     ·exact b.out j a (by omega)⟩
  ·have f:o9 s.data.toList=true:=Di fun x t=>by
    obtain⟨j,a,rfl⟩:=List.getElem_of_mem t;exact b.out j (by simpa using a) (by have:j<s.size:=(by simpa using a);omega)
   have m:=aa f;clear f;go_wp2_with fail
   go_ret
   exact⟨by rw[m.out];rfl,rfl⟩
theorem pt:(yP.info? 5).map (fun i=>(i.zero,i.size,i.bytes))=some (some (iV .u8 0),1,1):=by kernel_rfl
def bI(l:yL):List Value:=l.map (fun c=>Value.int .u8 (c.toNat:Int))
def str(l:yL):yB:=⟨l.toArray⟩
theorem yu(n c:Int)(h0:0<=n)(a:n<=c)(f:c<=281474976710656)(w:World):
 (Instr.makeSlice 52 (iV .i64 n) (iV .i64 c)).run yP w=.ok (lV (qA w.heap.size) n.toNat c.toNat) (w.alloc (.cells (madeCells #[iV .u8 0] c.toNat) 5)):=by
 obtain⟨i0,hi,b,d,e⟩:=Sf pt;have:=run_make (P:=yP) w 52 5 i0 (iV .u8 0) underlying52 hi b .i64 .i64 n c h0 a (by rw[e];omega) (by omega);rw[d,Nat.mul_one] at this;exact this
theorem uR(w:World)(base c:Nat)(a:base<=w.heap.size)(b:c<=maxLen):(w.alloc (.cells (madeCells #[iV .u8 0] c) 5)).ownsRow base 5 1 (lV (qA w.heap.size) 0 c) 0 (bI []):=
 ⟨rfl,.inr ⟨w.heap.size,c,_,rfl,a,Rl _ _,by omega,b,by rw[size_madeCells,Nat.mul_one],by simp[bI]⟩⟩
theorem nJ(l:yL):strOfNums (l.map (fun c=>(c.toNat:Int)))=str l:=by
 unfold strOfNums str;congr 1;rw[List.map_map];congr 1;conv=>rhs;rw[<-List.map_id l]
 apply Sq;intro c _;simp
theorem CX(a b:Nat)(c:a<16)(d:b<16):bits .or .u8 (IntKind.u8.wrap ((a:Int)*16)) (b:Int)=((16*a+b:Nat):Int):=by
 have e:IntKind.u8.wrap ((a:Int)*16)=((16*a:Nat):Int):=by rw[SB];omega
 rw[e,u8_or_nat _ _ (by omega) (by omega),nat_join 4 (16*a) b (by omega) (by omega)]
def zh(l:yL)(q:Nat):UInt8:=if q=1 then l.getD 0 0 else 0
def M5(a:Bool):Nat:=if a then 2 else 0
theorem CF(s:yB)(d:Bool)(hs:s.size<8192)(hN:ak s.data.toList)(w:World):
 Calls yP 149 #[sV s,bV d] w fun e w'=>e=rV (tV #[sV (str (cN s.data.toList d)),iV .i64 0])/\yW w w':=by
 have hm:s.size<=maxLen:=by unfold maxLen;omega
 obtain⟨i0,A5,A7,A8,A9⟩:=Sf pt;have C2:=yu 0 ((s.size:Int) / 2+1) (by omega) (by omega) (by omega);have hn:=Di hN;have I:=aa hn;obtain⟨q,hq⟩:=yX (s.size % 2)
 have D2:q<2:=by omega
 obtain⟨c,hc⟩:=yX (zh s.data.toList q)
 obtain⟨L,Q⟩:=yX (M5 d)
 have B3:L<=2:=by cases d<;>rw[Q]<;>decide
 obtain⟨F,hF⟩:=yX (L+q)
 have W:=aa hF;have B2:F<=3:=by omega
 have y:=aa hq.symm;have H:=aa hc;have X:=aa Q;have E:s.data.toList.length=s.size:=by simp
 have x:=aa E;have B7:((s.size:Int) / 2+1).toNat=s.size / 2+1:=by omega
 clear E hn hN hq hc Q hF;go_enter func149,ntmps149
 go_wp2_with fail
 refine(Qy s hm _).mono ?_;rw[I.out];rintro e w1 ⟨rfl,hw⟩;have C5:=hw.symm;subst C5;clear hm hw;go_upto_if 16 with fail
 go_cut [6] (fun v U=>v=iV .u8 (L:Int)/\U=w)
 case first=>
  have e:=X.out;cases d
  ·obtain rfl:L=0:=e;go_wp2_with fail
   go_meet
   exact⟨rfl,rfl⟩
  ·obtain rfl:L=2:=e;go_wp2_with fail
   go_meet
   exact⟨rfl,rfl⟩
 case rest=>
 obtain⟨rfl,C⟩:=hcut;have T:=C.symm;subst T;clear C;go_upto_if 20 with fail
 go_cut [6,7,8] (fun v6 v7 v8 U=>v6=iV .u8 (F:Int)/\v7=iV .i64 (q:Int)/\v8=iV .u8 (c.toNat:Int)/\U=w)
 case first=>
  have e:=H.out;have t:=y.out;have eF:=W.out;by_cases h1:q=1
  ·subst h1;have h0:0<s.size:=by omega
   have C3:((s.size:Int) % 2 == 1)=true:=beq_iff_eq.2 (by omega);have iw:IntKind.u8.wrap ((L:Int)+1)=(L:Int)+1:=by rw[SB];omega
   have e2:c=s[0]:=by rw[e,zh,QX rfl,Q3,QV (by rw[x.out];exact h0)];rfl
   clear e t;go_wp2_with fail
   go_meet
   exact⟨by rw[eF];go_num,rfl,by rw[e2],rfl⟩
  ·obtain rfl:q=0:=by omega
   have C3:((s.size:Int) % 2 == 1)=false:=RW.2 (by omega);have e2:c=0:=by rw[e];rfl
   clear e t;go_wp2_with fail
   go_meet
   exact⟨by rw[eF];rfl,rfl,by rw[e2];rfl,rfl⟩
 case rest=>
 obtain⟨rfl,rfl,rfl,C⟩:=hcut;have T:=C.symm;subst T;clear C;go_upto_region 15 with fail
 have l:=uR w w.heap.size (s.size / 2+1) (QU _) (by unfold maxLen;omega);have g:=(Q1 w.heap.size w).alloc (QU _) (.cells (madeCells #[iV .u8 0] (s.size / 2+1)) 5);generalize hW:w.alloc (.cells (madeCells #[iV .u8 0] (s.size / 2+1)) 5)=W1 at*;generalize hV:Value.slice (qA w.heap.size) 0 (s.size / 2+1)=V1 at*;have m:=aa l;have a:=aa g;clear hW hV l g C2 B7;have N:c.toNat<16:=by
  rw[H.out,zh];split
  ·rw[Q3];cases h:s.data.toList[0]? with
   |none=>decide
   |some u=>exact yi I.out u (Rv h)
  ·decide
 obtain⟨B,O⟩:=yX (iG (UInt8.ofNat F) c)
 have e4:(UInt8.ofNat F).toNat=F:=by rw[RH];omega
 have C4:bits .or .u8 ((F:Int)*16 % 256) (c.toNat:Int)=(B.toNat:Int):=by
  have e5:(F:Int)*16 % 256=IntKind.u8.wrap ((F:Int)*16):=by rw[SB]
  rw[e5,O,sM _ _ (by omega) N,e4,CX F c.toNat (by omega) N]
 have HB:=aa O;clear N O e4 B3 B2;go_wp2_with (at_builtin;refine RG _ rfl (.tmp 30) (.tmp 35) 52 rfl w.heap.size 5 i0 (iV .u8 0) 1 1 underlying52 A5 A7 A8 A9 rfl (by decide) V1 0 (bI []) rfl (m.out.alloc _) ⟨W1.heap.size,0,none⟩ 1 1 [iV .u8 (B.toNat:Int)] rfl rfl (So _ _ _) ?c2 (by omega) ?c3 ?c4 ?c5 _ rfl ?c6)
 case c2=>intro u A;simp at A;subst A;rfl
 case c3=>unfold maxLen;omega
 case c4=>omega
 case c5=>have:=a.out.size;simp;omega
 case c6=>
  intro g1 M D G A3 B4 C0;have G:=G;have A0:yW w D:=(a.out.alloc a.out.size _).grown A3 (by have:=a.out.size;simp;omega) (fun k R=>(m.out.lt k R).1);have Y:=aa G;have V:=aa A0;clear G A3 B4 C0 A0 m a C4;go_wp2_with fail
  go_loopg [7,9] (s.size / 2) (fun n r v wr=>∃j o cap:Nat,n=s.size / 2 - j/\q+2*j<=s.size/\r=iV .i64 ((q+2*j:Nat):Int)/\v=lV (qA o) (j+1) cap/\
   wr.ownsRow w.heap.size 5 1 (lV (qA o) (j+1) cap) (j+1) (bI (B::gi ((s.data.toList.drop q).take (2*j))))/\yW w wr)
  case atStart=>exact⟨0,g1,M,by omega,by have:=y.out;omega,rfl,rfl,Y.out,V.out⟩
  case round=>
   obtain⟨j,o,cap,hg,hj,rfl,rfl,l,g⟩:=hrel;have HG:=aa hg;clear hg Y V;obtain⟨p,b⟩:=yX (q+2*j)
   have f:=aa b;rw[<-b];rw[<-b] at hj;clear b;by_cases B9:p+1<s.size
   ·have S:=yi I.out;have n0:(s[p]).toNat<16:=S _ (by rw[<-Array.mem_def];exact Array.getElem_mem (by simpa using(by omega:p<s.size)));have n1:(s[p+1]).toNat<16:=S _ (by rw[<-Array.mem_def];exact Array.getElem_mem (by simpa using B9));have hv:bits .or .u8 (IntKind.u8.wrap (((s[p]).toNat:Int)*16)) ((s[p+1]).toNat:Int)=((iG s[p] s[p+1]).toNat:Int):=by
     rw[CX _ _ n0 n1,sM _ _ n0 n1]
    have HS:Hid (gi ((s.data.toList.drop q).take (2*(j+1)))=gi ((s.data.toList.drop q).take (2*j))++[iG s[p] s[p+1]]):=by
     have b:=f.out;have B8:2*j+1<(s.data.toList.drop q).length:=by have:=x.out;rw[Q8];omega
     have e:2*(j+1)=2*j+2:=by omega
     rw[e,IV _ _ B8,Cz _ _ (by rw[Rs];omega)];congr 1;have e0:(s.data.toList.drop q)[2*j]=s[p]:=by rw[List.getElem_drop];subst b;rfl
     have e1:(s.data.toList.drop q)[2*j+1]=s[p+1]:=by rw[List.getElem_drop];subst b;rfl
     rw[e0,e1];rfl
    have m:=aa l;have a:=aa g;have C7:j<4096:=by have:=f.out;omega
    have C8:p<s.size:=by omega
    have C9:(p:Int)<(s.size:Int):=by omega
    have D0:(p:Int)+1<(s.size:Int):=by omega
    have D1:(0:Int)<=(p:Int)+1:=by omega
    have iw:IntKind.i64.wrap ((p:Int)+1)=(p:Int)+1:=by rw[RE];omega
    clear S n0 n1 l g;generalize hJ:iG s[p] s[p+1]=J at*;generalize hks:bI (B::gi ((s.data.toList.drop q).take (2*j)))=ks at*;have HK:=aa hks;clear hks;go_wp2_with fail
    go_region_law (refine step_append_lies _ rfl (.tmp 44) (.tmp 54) 52 rfl w.heap.size 5 i0 (iV .u8 0) 1 1 underlying52 A5 A7 A8 A9 rfl (by decide) (lV (qA o) (j+1) cap) (j+1) ks (by simp[Act.eval]) (m.out.drew.alloc _) ⟨wr.heap.size,0,none⟩ 1 1 [iV .u8 (J.toNat:Int)] (by simp[Act.eval]) rfl (So _ _ _) (by intro u A;simp at A;subst A;rfl) (by omega) (by unfold maxLen;omega) (by omega) (by have:=a.out.size;simp;omega) _ rfl ?_;intro g2 Z K A6 A4 B5 C1)
    all_goals
     have A1:yW w K:=(a.out.drew.alloc a.out.size _).grown A4 (by have:=a.out.size;simp;omega) (fun k R=>(m.out.lt k R).1);have B1:=aa A6;have B0:=aa A1;clear A6 A4 B5 C1 A1;go_wp2_with fail
     go_roundg (s.size / 2 - (j+1))
     case measure=>have:=HG.out;have:=f.out;omega
     case rel=>
      refine⟨j+1,g2,Z,rfl,by have:=f.out;omega,by have:=f.out;rw[show q+2*(j+1)=p+2 by omega];go_num,rfl,?_,B0.out⟩;have e:bI (B::gi ((s.data.toList.drop q).take (2*(j+1))))=ks++[iV .u8 (J.toNat:Int)]:=by
       rw[HS.out,<-HK.out];simp[bI]
      rw[e];exact B1.out
   ·have a:=aa g;have A2:B::gi ((s.data.toList.drop q).take (2*j))=cN s.data.toList d:=by
     have b:=f.out;have t:=y.out;have z:=x.out;unfold cN;rw[RI (by rw[Q8];omega),HB.out,W.out,z,t,H.out,X.out];have:q=0\/q=1:=by omega
     rcases this with rfl|rfl<;>cases d<;>rfl
    have B6:=St (P:=yP) wr 52 5 underlying52 underlying5 o 0 (j+1) cap ((cN s.data.toList d).map (fun c=>(c.toNat:Int))) (by
     rw[Rr,qy];have b:=f.out;have z:=x.out;have t:=y.out;rw[z];omega) (fun i hi=>by
     have:=l.cellAt i (by rw[Nat.mul_one];exact hi);rw[R5,this,A2];have E:i<(cN s.data.toList d).length:=by rw[qy];have b:=f.out;have z:=x.out;have t:=y.out;rw[z];omega
     simp[bI,List.getD,QV E]) 9 underlying9
    rw[nJ] at B6;have C6:¬((p:Int)+1<(s.size:Int)):=by omega
    clear l g A2;go_wp2_with fail
    go_ret2
    exact⟨rfl,a.out⟩
abbrev Tree:=DataW Unit
def ay(l:yL):Tree:=.lit (.string l)
def bH(ks:List Tree):Tree:=.slice ks []
def cT:Nat->Nat->yL
 | 0,_=>[]
 |f+1,n=>if n=0 then [] else cT f (n / 256)++[UInt8.ofNat (n % 256)]
def be(l:yL):Nat:=l.foldl (fun a c=>a*256+c.toNat) 0
theorem vQ:∀f,cT f 0=[]
 | 0=>rfl
 |f+1=>by simp[cT]
theorem zP(l)(c:UInt8):be (l++[c])=be l*256+c.toNat:=by simp[be]
theorem Gy:∀f n,n<256 ^ f->be (cT f n)=n
 | 0,n,h=>by simp at h;subst h;rfl
 |f+1,n,h=>by
  unfold cT
  by_cases h0:n=0
  ·rw[QX h0,h0];rfl
  ·rw[QW h0,zP,Gy f (n / 256) (by rw[Nat.pow_succ] at h;omega),RH]
   omega
theorem vR:∀f n,(cT f n).length<=f
 | 0,_=>by simp[cT]
 |f+1,n=>by
  unfold cT
  split
  ·simp
  ·rw[Q4];have:=vR f (n / 256);simp;omega
theorem FN(f n:Nat)(a:0<f)(h:0<n):0<(cT f n).length:=by
 cases f with
 |zero=>omega
 |succ f=>unfold cT;rw[QW (by omega)];simp
theorem FP:∀f n,0<n->n<256 ^ f->((cT f n).getD 0 0).toNat≠0
 | 0,n,h,h2=>by simp at h2;omega
 |f+1,n,h,h2=>by
  unfold cT
  rw[QW (by omega)]
  by_cases b:n / 256=0
  ·rw[b,vQ]
   show(UInt8.ofNat (n % 256)).toNat≠0
   rw[RH];omega
  ·have c:=FP f (n / 256) (by omega) (by rw[Nat.pow_succ] at h2;omega)
   have a:0<(cT f (n / 256)).length:=by
    cases f with
    |zero=>simp at h2;omega
    |succ f=>exact FN _ _ (by omega) (by omega)
   rw[Q3,RA a,<-Q3];exact c
theorem Qo(l)(h:l≠[])(h0:(l.getD 0 0).toNat≠0):0<be l:=by
 have key:∀(l:yL) (a:Nat),a<=l.foldl (fun a c=>a*256+c.toNat) a:=by
  intro l;induction l with
  |nil=>intro a;exact QU _
  |cons c r ih=>intro a;exact Q7 (by omega) (ih (a*256+c.toNat))
 cases l with
 |nil=>exact absurd rfl h
 |cons c r=>
  have:=key r (0*256+c.toNat);simp only[RC] at h0;have e:be (c::r)=r.foldl (fun a c=>a*256+c.toNat) (0*256+c.toNat):=rfl;rw[e];omega
theorem Qp(l):be l<256 ^ l.length:=by
 have key:∀(l:yL) (a:Nat),l.foldl (fun a c=>a*256+c.toNat) a<(a+1)*256 ^ l.length:=by
  intro l;induction l with
  |nil=>intro a;simp
  |cons c r ih=>
   intro a;have h1:=ih (a*256+c.toNat);have h2:=c.toNat_lt;have h3:(a*256+c.toNat+1)*256 ^ r.length<=((a+1)*256)*256 ^ r.length:=Nat.mul_le_mul_right _ (by omega);simp only[List.foldl_cons,Ro,Nat.pow_succ];rw[Nat.mul_assoc] at h3;rw[Nat.mul_comm (256 ^ r.length) 256];exact Q6 h1 h3
 have:=key l 0;rw[R5,Nat.one_mul] at this;exact this
theorem FQ:∀(f:Nat) (l:yL),l.length<=f->(l≠[]->(l.getD 0 0).toNat≠0)->cT f (be l)=l
 | 0,l,h,_=>by
  have:l=[]:=Rm.1 (by omega)
  subst this;rfl
 |f+1,l,h,h0=>by
  rcases List.eq_nil_or_concat l with rfl|⟨m,c,rfl⟩
  ·exact vQ _
  ·rw[List.concat_eq_append] at*
   have e:=c.toNat_lt
   have a:m≠[]->(m.getD 0 0).toNat≠0:=by
    intro a;have:=h0 (by simp);rwa [Q3,RA (Sj.2 a),<-Q3] at this
   have d:=FQ f m (by simp at h;omega) a;have b:be (m++[c])≠0:=by
    have:=Qo (m++[c]) (by simp) (h0 (by simp));omega
   unfold cT;rw[QW b,zP];have e1:(be m*256+c.toNat) / 256=be m:=by omega
   have e2:UInt8.ofNat ((be m*256+c.toNat) % 256)=c:=by apply lq;rw[RH];omega
   rw[e1,e2,d]
def cX(a n:Nat):yL:=if n<=55 then [UInt8.ofNat (a+n)] else UInt8.ofNat (a+55+(cT 8 n).length)::cT 8 n
def fB(t:yL):Bool:=decide (t.length=1) && decide ((t.getD 0 0).toNat<128)
def dg(t:yL):yL:=if fB t=true then t else cX 128 t.length++t
def gG(a:yL):yL:=cX 192 a.length++a
def bm:Nat->Tree->yL
 | _,.lit (.string t)=>dg t
 |d+1,.slice ks _=>gG (ks.map (bm d)).flatten
 | _,_=>[]
def bK:Nat->Tree->Bool
 | _,.lit (.string _)=>true
 |d+1,.slice ks []=>decide (ks.length<=64) && ks.all (bK d)
 | _,_=>false
def jQ(s:yL)(b:Bool)(a n:Nat):Except Nat (Bool×Nat×Nat):=if s.length - a<n then .error 5 else .ok (b,a,n)
def eR(s:yL):Except Nat (Bool×Nat×Nat):=
 if s.length=0 then .error 5 else
 if(s.getD 0 0).toNat<128 then .ok (false,0,1) else
 if(s.getD 0 0).toNat - (if 192<=(s.getD 0 0).toNat then 192 else 128)<=55 then jQ s (decide (192<=(s.getD 0 0).toNat)) 1 ((s.getD 0 0).toNat - (if 192<=(s.getD 0 0).toNat then 192 else 128)) else
 if s.length - 1<(s.getD 0 0).toNat - (if 192<=(s.getD 0 0).toNat then 192 else 128) - 55 then .error 5 else
 if(s.getD 1 0).toNat=0\/be ((s.drop 1).take ((s.getD 0 0).toNat - (if 192<=(s.getD 0 0).toNat then 192 else 128) - 55))<=55 then .error 7 else
 jQ s (decide (192<=(s.getD 0 0).toNat)) (1+((s.getD 0 0).toNat - (if 192<=(s.getD 0 0).toNat then 192 else 128)) - 55) (be ((s.drop 1).take ((s.getD 0 0).toNat - (if 192<=(s.getD 0 0).toNat then 192 else 128) - 55)))
def dU(f:yL->Except Nat (Tree×Nat)):Nat->yL->Except Nat (List Tree)
 |m,body=>if body.length=0 then .ok [] else
  match m with
  | 0=>.error 8
  |m+1=>match f body with
   | .error e=>.error e
   | .ok (k,u)=>match dU f m (body.drop u) with
    | .error e=>.error e
    | .ok ks=>.ok (k::ks)
def dd:Nat->yL->Except Nat (Tree×Nat)
 |d,s=>match eR s with
  | .error e=>.error e
  | .ok (list,from_,n)=>
   if list=false then(if 0<from_/\fB ((s.drop from_).take n)=true then .error 7 else .ok (ay ((s.drop from_).take n),from_+n))
   else match d with
    | 0=>.error 8
    |d+1=>match dU (dd d) 64 ((s.drop from_).take n) with
     | .error e=>.error e
     | .ok ks=>.ok (bH ks,from_+n)
def fL(s:yL):Except Nat Tree:=
 if 4096<s.length then .error 1 else
 match dd 6 s with
 | .error e=>.error e
 | .ok (x,u)=>if u<s.length then .error 6 else .ok x
theorem zl(s:yL)(h:s.length≠0):s=s.getD 0 0::s.drop 1:=by
 cases s with
 |nil=>simp at h
 |cons c r=>rfl
theorem zb(a n:Nat):0<(cX a n).length:=by unfold cX;split<;>simp
theorem Bq{s l l' f n a b}(h:jQ s l f n=.ok (l',a,b)):l'=l/\a=f/\b=n/\¬s.length - f<n:=by
 unfold jQ at h;split at h
 ·cases h
 ·cases h;exact⟨rfl,rfl,rfl,‹_›⟩
theorem ze(s)(l:Bool)(f n:Nat)(h:eR s=.ok (l,f,n)):
 s.length≠0/\((l=false/\f=0/\n=1/\(s.getD 0 0).toNat<128)\/(1<=f/\f+n<=s.length/\s.take f=cX (if l then 192 else 128) n)):=by
 unfold eR at h;by_cases h0:s.length=0
 ·rw[QX h0] at h;cases h
 rw[QW h0] at h;refine⟨h0,?_⟩;have a:=zl s h0;have j:=(s.getD 0 0).toNat_lt;by_cases h1:(s.getD 0 0).toNat<128
 ·rw[QX h1] at h;cases h
  exact .inl ⟨rfl,rfl,rfl,h1⟩
 rw[QW h1] at h;right;generalize hbase:(if 192<=(s.getD 0 0).toNat then 192 else 128)=base at h;have b:(if(decide (192<=(s.getD 0 0).toNat))=true then 192 else 128)=base:=by rw[<-hbase];simp
 have o:base<=(s.getD 0 0).toNat:=by rw[<-hbase];split<;>omega
 by_cases h2:(s.getD 0 0).toNat - base<=55
 ·rw[QX h2] at h;obtain⟨rfl,rfl,rfl,h3⟩:=Bq h;refine⟨by omega,by omega,?_⟩;rw[b];unfold cX;rw[QX h2,a];show [s.getD 0 0]=_;congr 1;apply lq;rw[RH];have e:((s.getD 0 0)::s.drop 1).getD 0 0=s.getD 0 0:=rfl;rw[e];omega
 rw[QW h2] at h;by_cases h3:s.length - 1<(s.getD 0 0).toNat - base - 55
 ·rw[QX h3] at h;cases h
 rw[QW h3] at h;have q:(s.getD 0 0).toNat - base - 55<=8:=by rw[<-hbase];split<;>omega
 have i:1+((s.getD 0 0).toNat - base) - 55=1+((s.getD 0 0).toNat - base - 55):=by omega
 rw[i] at h;have m:(s.getD 0 0).toNat=base+55+((s.getD 0 0).toNat - base - 55):=by omega
 have p:1<=(s.getD 0 0).toNat - base - 55:=by omega
 generalize hk:(s.getD 0 0).toNat - base - 55=k at*;have g:((s.drop 1).take k).length=k:=by rw[Rs,Q8];omega
 by_cases h4:(s.getD 1 0).toNat=0\/be ((s.drop 1).take k)<=55
 ·rw[QX h4] at h;cases h
 rw[QW h4] at h;obtain⟨rfl,rfl,rfl,h5⟩:=Bq h;refine⟨by omega,by omega,?_⟩;rw[b];have d:cT 8 (be ((s.drop 1).take k))=(s.drop 1).take k:=FQ 8 _ (by omega) (fun _=>by
  intro c;apply h4;left;have e:((s.drop 1).take k).getD 0 0=s.getD 1 0:=by
   rw[Q3,Sm,QX (by omega),Sw,Q3]
  rw[e] at c;exact c)
 unfold cX;rw[QW (by omega),d,g];conv=>lhs;rw[a]
 rw[Nat.add_comm 1 k,List.take_succ_cons];congr 1;apply lq;rw[RH];omega
theorem AZ(f:yL->Except Nat (Tree×Nat))(b:Tree->yL)(c:Tree->Bool)
 (d:∀s x u,f s=.ok (x,u)->0<u/\u<=s.length/\b x=s.take u/\c x=true):
 ∀(m:Nat) (a:yL) (ks:List Tree),dU f m a=.ok ks->(ks.map b).flatten=a/\ks.all c=true/\ks.length<=m
 | 0,a,ks,h=>by
  unfold dU at h
  by_cases h0:a.length=0
  ·rw[QX h0] at h;cases h
   exact⟨(Rm.1 h0).symm,rfl,QU _⟩
  ·rw[QW h0] at h;cases h
 |m+1,a,ks,h=>by
  unfold dU at h
  by_cases h0:a.length=0
  ·rw[QX h0] at h;cases h
   exact⟨(Rm.1 h0).symm,rfl,Ri _⟩
  ·rw[QW h0] at h
   simp only at h
   cases hk:f a with
   |error e=>rw[hk] at h;cases h
   |ok ku=>
    obtain⟨k,u⟩:=ku
    rw[hk] at h
    simp only at h
    cases hr:dU f m (a.drop u) with
    |error e=>rw[hr] at h;cases h
    |ok ks'=>
     rw[hr] at h
     cases h
     obtain⟨h1,h2,h3,h4⟩:=d _ _ _ hk
     obtain⟨i1,i2,i3⟩:=AZ f b c d m _ _ hr
     refine⟨?_,?_,by simp;omega⟩
     ·rw[List.map_cons,List.flatten_cons,h3,i1,Su]
     ·rw[List.all_cons,h4,i2];rfl
theorem AU:∀(d:Nat) (s) (x:Tree) (u:Nat),dd d s=.ok (x,u)->0<u/\u<=s.length/\bm d x=s.take u/\bK d x=true:=by
 intro d;induction d with
 |zero=>
  intro s x u h;unfold dd at h;cases hh:eR s with
  |error e=>rw[hh] at h;cases h
  |ok lfn=>
   obtain⟨l,f,n⟩:=lfn;rw[hh] at h;simp only at h;obtain⟨k,i⟩:=ze s l f n hh;cases l with
   |true=>simp at h
   |false=>
    rw[QX rfl] at h;split at h
    ·cases h
    ·rename_i hnb
     cases h
     rcases i with⟨_,rfl,rfl,j⟩|⟨m,c,g⟩
     ·refine⟨by omega,by omega,?_,rfl⟩;show dg _=_;have a:fB ((s.drop 0).take 1)=true:=by
       rw[zl s k];unfold fB;simp only[List.drop_zero,List.take_succ_cons,List.take_zero,RC];simp;simpa using j
      unfold dg;rw[QX a];simp
     ·refine⟨by omega,c,?_,rfl⟩;show dg _=_;have a:¬fB ((s.drop f).take n)=true:=fun a=>hnb ⟨by omega,a⟩
      have b:((s.drop f).take n).length=n:=by rw[Rs,Q8];omega
      unfold dg;rw[QW a,b,<-(show cX (if false=true then 192 else 128) n=cX 128 n from rfl),<-g,List.take_add]
 |succ d ih=>
  intro s x u h;unfold dd at h;cases hh:eR s with
  |error e=>rw[hh] at h;cases h
  |ok lfn=>
   obtain⟨l,f,n⟩:=lfn;rw[hh] at h;simp only at h;obtain⟨k,i⟩:=ze s l f n hh;cases l with
   |true=>
    simp only[Bool.true_eq_false,Ry] at h;rcases i with⟨b,_⟩|⟨m,c,g⟩
    ·cases b
    cases hk:dU (dd d) 64 ((s.drop f).take n) with
    |error e=>rw[hk] at h;cases h
    |ok ks=>
     rw[hk] at h;cases h
     obtain⟨i1,i2,i3⟩:=AZ (dd d) (bm d) (bK d) (fun s x u h=>ih s x u h) 64 _ _ hk;have b:((s.drop f).take n).length=n:=by rw[Rs,Q8];omega
     refine⟨by omega,c,?_,?_⟩
     ·show gG _=_;rw[i1];unfold gG;rw[b,<-(show cX (if true=true then 192 else 128) n=cX 192 n from rfl),<-g,List.take_add]
     ·show(decide (ks.length<=64) && ks.all (bK d))=true;rw[i2,Ra i3];rfl
   |false=>
    rw[QX rfl] at h;split at h
    ·cases h
    ·rename_i hnb
     cases h
     rcases i with⟨_,rfl,rfl,j⟩|⟨m,c,g⟩
     ·refine⟨by omega,by omega,?_,rfl⟩;show dg _=_;have a:fB ((s.drop 0).take 1)=true:=by
       rw[zl s k];unfold fB;simp only[List.drop_zero,List.take_succ_cons,List.take_zero,RC];simp;simpa using j
      unfold dg;rw[QX a];simp
     ·refine⟨by omega,c,?_,rfl⟩;show dg _=_;have a:¬fB ((s.drop f).take n)=true:=fun a=>hnb ⟨by omega,a⟩
      have b:((s.drop f).take n).length=n:=by rw[Rs,Q8];omega
      unfold dg;rw[QW a,b,<-(show cX (if false=true then 192 else 128) n=cX 128 n from rfl),<-g,List.take_add]
def fu(l:Bool):Nat:=if l then 192 else 128
theorem EK(l:Bool)(n:Nat)(rest:yL)(g:n<256 ^ 8)(p:n<=rest.length):eR (cX (fu l) n++rest)=.ok (l,(cX (fu l) n).length,n):=by
 have f:∀b:Nat,fu l<=b->(l=false->b<192)->(if 192<=b then 192 else 128)=fu l/\decide (192<=b)=l:=by
  intro b h1 h2;cases l with
  |false=>have:=h2 rfl;rw[QW (by omega)];exact⟨rfl,Q9 (by omega)⟩
  |true=>have c:192<=b:=h1;rw[QX c];exact⟨rfl,Ra c⟩
 have o:fu l<=192:=by cases l<;>decide
 have m:128<=fu l:=by cases l<;>decide
 have d:l=false->fu l=128:=by intro h;rw[h];rfl
 by_cases h55:n<=55
 ·have e:cX (fu l) n=[UInt8.ofNat (fu l+n)]:=by unfold cX;rw[QX h55]
  have a:(UInt8.ofNat (fu l+n)).toNat=fu l+n:=by rw[RH];omega
  obtain⟨k1,k2⟩:=f (fu l+n) (by omega) (fun h=>by rw[d h];omega);rw[e];unfold eR;simp only[List.singleton_append,RC,a,k1,k2,Ro];rw[QW (by omega),QW (by omega),QX (by omega),show fu l+n - fu l=n by omega];unfold jQ;rw[QW (by simp;omega)];rfl
 ·have k:0<(cT 8 n).length:=FN 8 n (by omega) (by omega);have h8:=vR 8 n;have e:cX (fu l) n=UInt8.ofNat (fu l+55+(cT 8 n).length)::cT 8 n:=by unfold cX;rw[QW h55]
  have a:(UInt8.ofNat (fu l+55+(cT 8 n).length)).toNat=fu l+55+(cT 8 n).length:=by rw[RH];omega
  obtain⟨k1,k2⟩:=f (fu l+55+(cT 8 n).length) (by omega) (fun h=>by rw[d h];omega);have i:=Gy 8 n g;have j:=FP 8 n (by omega) g;rw[e];generalize hD:cT 8 n=D at*;have e1:fu l+55+D.length - fu l=55+D.length:=by omega
  have e2:55+D.length - 55=D.length:=by omega
  have e3:1+(55+D.length) - 55=1+D.length:=by omega
  unfold eR;simp only[List.cons_append,RC,a,k1,k2,Ro,List.drop_succ_cons,List.drop_zero,e1,e2,e3,List.take_left,i];rw[QW (by omega),QW (by omega),QW (by omega),QW (by simp),QW]
  ·unfold jQ;rw[QW (by simp;omega),Nat.add_comm 1]
  ·rintro (h|h)
   ·apply j;rw[List.getD_cons_succ,Q3,RA k,<-Q3] at h;exact h
   ·omega
theorem AS(t):0<(dg t).length:=by
 unfold dg;split
 ·rename_i h;unfold fB at h;simp at h;omega
 ·rw[Q4];have:=zb 128 t.length;omega
theorem AT(d:Nat)(t r:yL)(k:t.length<256 ^ 8):dd d (dg t++r)=.ok (ay t,(dg t).length):=by
 by_cases a:fB t=true
 ·have e:dg t=t:=by unfold dg;rw[QX a]
  have f:=a;unfold fB at f;rw[Sh,SD,SD] at f;obtain⟨j,g⟩:=f;rw[e];match t,j with
  | [c],_=>
   have b:eR ([c]++r)=.ok (false,0,1):=by
    unfold eR;simp only[List.singleton_append,RC,Ro];simp only[RC] at g;rw[QW (by omega),QX g]
   unfold dd;rw[b];simp
 ·have e:dg t=cX 128 t.length++t:=by unfold dg;rw[QW a]
  have b:=EK false t.length (t++r) k (by simp);have i:fu false=128:=rfl;rw[i] at b;rw[e,Rn];unfold dd;rw[b];simp only;rw[QX trivial,List.drop_left,List.take_left,QW (fun h=>a h.2),Q4]
theorem sZ(d:Nat)(x:Tree)(h:bK d x=true):(∃t,x=ay t)\/(∃e ks,d=e+1/\x=bH ks/\ks.length<=64/\ks.all (bK e)=true):=by
 unfold bK at h;split at h
 ·exact .inl ⟨_,rfl⟩
 ·rw[Sh,SD] at h;exact .inr ⟨_,_,rfl,rfl,h.1,h.2⟩
 ·cases h
theorem ir(d:Nat)(t):bm d (ay t)=dg t:=by unfold ay;simp only[bm]
theorem kL(d:Nat)(ks:List Tree):bm (d+1) (bH ks)=gG (ks.map (bm d)).flatten:=by unfold bH;simp only[bm]
theorem Pm(d:Nat)(x:Tree)(h:bK d x=true):0<(bm d x).length:=by
 rcases sZ d x h with⟨t,rfl⟩|⟨e,ks,rfl,rfl,_,_⟩
 ·rw[ir];exact AS t
 ·rw[kL];unfold gG;rw[Q4];have:=zb 192 (ks.map (bm e)).flatten.length;omega
theorem Jb(f:yL->Except Nat (Tree×Nat))(a:Tree->yL)
 (ks:List Tree):∀(m:Nat),ks.length<=m->(∀x,x∈ks->0<(a x).length/\∀r,f (a x++r)=.ok (x,(a x).length))->dU f m (ks.map a).flatten=.ok ks:=by
 induction ks with
 |nil=>intro m _ _;unfold dU;rw[QX (by simp)]
 |cons k ks ih=>
  intro m c b;obtain⟨g,d⟩:=b k (by simp);cases m with
  |zero=>simp at c
  |succ m=>
   have hi:=ih m (by simp at c;omega) (fun x e=>b x (by simp[e]));unfold dU;rw[List.map_cons,List.flatten_cons,QW (by rw[Q4];omega)];simp only;rw[d];simp only;rw[List.drop_left,hi]
theorem Li(l:List yL):∀c,c∈l->c.length<=l.flatten.length:=by
 induction l with
 |nil=>intro c h;cases h
 |cons a l ih=>
  intro c h;rw[List.flatten_cons,Q4];rcases Rh.1 h with rfl|h
  ·omega
  ·have:=ih c h;omega
theorem IX:∀(d:Nat) (x:Tree) (r),bK d x=true->(bm d x).length<256 ^ 8->dd d (bm d x++r)=.ok (x,(bm d x).length):=by
 intro d;induction d with
 |zero=>
  intro x r b a;rcases sZ 0 x b with⟨t,rfl⟩|⟨e,ks,j,_⟩
  ·rw[ir] at a;rw[ir];refine AT 0 t r ?_;unfold dg at a;split at a
   ·exact a
   ·rw[Q4] at a;omega
  ·omega
 |succ d ih=>
  intro x r b a;rcases sZ (d+1) x b with⟨t,rfl⟩|⟨e,ks,j,rfl,h64,h⟩
  ·rw[ir] at a;rw[ir];refine AT (d+1) t r ?_;unfold dg at a;split at a
   ·exact a
   ·rw[Q4] at a;omega
  ·obtain rfl:e=d:=by omega
   rw[kL] at a;rw[kL];have i:(ks.map (bm e)).flatten.length<256 ^ 8:=by unfold gG at a;rw[Q4] at a;omega
   have l:=Jb (dd e) (bm e) ks 64 h64 (fun x g=>by
    have c:=Sp.1 h x g;refine⟨Pm e x c,fun r=>ih x r c ?_⟩;have:=Li (ks.map (bm e)) (bm e x) (List.mem_map_of_mem g);omega)
   generalize hB:(ks.map (bm e)).flatten=body at*;have f:=EK true body.length (body++r) i (by simp);have k:fu true=192:=rfl;rw[k] at f;unfold gG;rw[Rn];unfold dd;rw[f];simp only[Bool.true_eq_false,Ry];rw[List.drop_left,List.take_left,l];simp only[Q4]
theorem O1(x:Tree)(h:bK 6 x=true)(a:(bm 6 x).length<=4096):fL (bm 6 x)=.ok x:=by
 have:=IX 6 x [] h (by omega);rw[Rz] at this;unfold fL;rw[QW (by omega),this];simp
theorem zF(s)(x:Tree)(h:fL s=.ok x):bm 6 x=s/\bK 6 x=true/\s.length<=4096:=by
 unfold fL at h;by_cases h1:4096<s.length
 ·rw[QX h1] at h;cases h
 rw[QW h1] at h;cases ht:dd 6 s with
 |error e=>rw[ht] at h;cases h
 |ok xu=>
  obtain⟨y,u⟩:=xu;rw[ht] at h;simp only at h;obtain⟨_,h2,h3,h4⟩:=AU 6 s y u ht;by_cases h5:u<s.length
  ·rw[QX h5] at h;cases h
  ·rw[QW h5] at h;cases h;refine⟨?_,h4,by omega⟩;rw[h3,RI (by omega)]
end Go.Proofs.YtkfdmlcjpomfgaaGreatDoor
