import Derived.Test.YtiimkkahmpmhdaaGreatDoorHd
open Go.Proofs.Tryz
open Go.Proofs.Tryz renaming prog→yP
open Go.Value renaming string→sV,pointer→pV,int→iV,slice→lV,bool→bV,tuple→tV,agg→gV
open Go.Ending renaming returned→rV
namespace Go.Proofs.YtiimkkahmpmhdaaGreatDoor
open Go.RowKit
set_option maxRecDepth 100000
set_option maxHeartbeats 0
set_option linter.all false
def hi(c:UInt8):UInt8:=UInt8.ofNat (c.toNat / 16)
def lo(c:UInt8):UInt8:=UInt8.ofNat (c.toNat % 16)
def iG(a b:UInt8):UInt8:=UInt8.ofNat (16*a.toNat+b.toNat)
theorem vK(c:UInt8):(hi c).toNat=c.toNat / 16:=by
 have:=c.toNat_lt;unfold hi;rw[RH];omega
theorem qL(c:UInt8):(lo c).toNat=c.toNat % 16:=by
 have:=c.toNat_lt;unfold lo;rw[RH];omega
theorem sM(a b:UInt8)(c:a.toNat<16)(d:b.toNat<16):(iG a b).toNat=16*a.toNat+b.toNat:=by
 unfold iG;rw[RH];omega
theorem yZ(c:UInt8):(hi c).toNat<16:=by have:=c.toNat_lt;rw[vK];omega
theorem sJ(c:UInt8):(lo c).toNat<16:=by rw[qL];omega
theorem lq{a b:UInt8}(h:a.toNat=b.toNat):a=b:=UInt8.toNat_inj.1 h
theorem Es(c:UInt8):iG (hi c) (lo c)=c:=by
 apply lq;rw[sM _ _ (yZ c) (sJ c),vK,qL];omega
theorem za(a b:UInt8)(c:a.toNat<16)(d:b.toNat<16):hi (iG a b)=a:=by
 apply lq;rw[vK,sM a b c d];omega
theorem yw(a b:UInt8)(c:a.toNat<16)(d:b.toNat<16):lo (iG a b)=b:=by
 apply lq;rw[qL,sM a b c d];omega
def gi:yL->yL
 |a::b::r=>iG a b::gi r
 | _=>[]
def bZ:yL->yL
 | []=>[]
 |c::r=>hi c::lo c::bZ r
def ak(l:yL):Prop:=∀x,x∈l->x.toNat<16
theorem ow:∀l:yL,(bZ l).length=2*l.length
 | []=>rfl
 |c::r=>by simp only[bZ,Ro,ow r];omega
theorem vL:∀l:yL,ak (bZ l)
 | []=>fun x h=>by cases h
 |c::r=>fun x h=>by
  simp only[bZ,Rh] at h
  rcases h with rfl|rfl|h
  ·exact yZ c
  ·exact sJ c
  ·exact vL r x h
theorem vM:∀l m:yL,bZ (l++m)=bZ l++bZ m
 | [],m=>rfl
 |c::r,m=>by simp only[List.cons_append,bZ,vM r m]
theorem sr:∀l:yL,gi (bZ l)=l
 | []=>rfl
 |c::r=>by simp only[bZ,gi,Es,sr r]
theorem Cz:∀l m:yL,l.length % 2=0->gi (l++m)=gi l++gi m
 | [],m,_=>rfl
 | [a],m,h=>by simp at h
 |a::b::r,m,h=>by
  have:=Cz r m (by simp at h;omega)
  simp only[List.cons_append,gi,this]
theorem zk:∀l:yL,l.length % 2=0->ak l->bZ (gi l)=l
 | [],_,_=>rfl
 | [a],h,_=>by simp at h
 |a::b::r,h,n=>by
  have c:=n a (by simp)
  have d:=n b (by simp)
  have:=zk r (by simp at h;omega) (fun x e=>n x (by simp[e]))
  simp only[gi,bZ,za a b c d,yw a b c d,this]
theorem x6:∀l:yL,(gi l).length=l.length / 2
 | []=>rfl
 | [a]=>by simp[gi]
 |a::b::r=>by simp only[gi,Ro,x6 r];omega
theorem IV(l:yL)(j:Nat)(h:j+1<l.length):l.take (j+2)=l.take j++[l[j],l[j+1]]:=by
 show l.take ((j+1)+1)=_;rw[RU (show j+1<l.length from h),RU (show j<l.length by omega),Rn];rfl
def iF(b a:Bool):Nat:=(if a then 2 else 0)+(if b then 1 else 0)
def cN(l:yL)(a:Bool):yL:=
 if l.length % 2=1 then iG (UInt8.ofNat (iF true a)) (l.getD 0 0)::gi (l.drop 1) else iG (UInt8.ofNat (iF false a)) 0::gi l
def bd(t:yL):yL:=(if(hi (t.getD 0 0)).toNat % 2=1 then [lo (t.getD 0 0)] else [])++bZ (t.drop 1)
def ft(t:yL):Bool:=decide (2<=(hi (t.getD 0 0)).toNat % 4)
def jz(t:yL):Prop:=t≠[]/\(hi (t.getD 0 0)).toNat<=3/\((hi (t.getD 0 0)).toNat % 2=0->(lo (t.getD 0 0)).toNat=0)
theorem qy(l)(a:Bool):(cN l a).length=l.length / 2+1:=by
 unfold cN;split
 ·simp only[Ro,x6,Q8];omega
 ·simp only[Ro,x6]
theorem mT(b a:Bool):(UInt8.ofNat (iF b a)).toNat=iF b a:=by cases b<;>cases a<;>rfl
theorem vk(b a:Bool):(UInt8.ofNat (iF b a)).toNat<16:=by cases b<;>cases a<;>decide
theorem Mn(l)(h:ak l)(i:Nat):(l.getD i 0).toNat<16:=by
 rcases Nat.lt_or_ge i l.length with hi|hi
 ·have e:l.getD i 0=l[i]:=by simp[List.getD,QV hi]
  rw[e];exact h _ (RV hi)
 ·have e:l.getD i 0=0:=by simp[List.getD,RP hi]
  rw[e];decide
theorem CD(l)(b:Bool)(h:ak l):jz (cN l b)/\bd (cN l b)=l/\ft (cN l b)=b:=by
 by_cases f:l.length % 2=1
 ·have e:cN l b=iG (UInt8.ofNat (iF true b)) (l.getD 0 0)::gi (l.drop 1):=by unfold cN;rw[QX f]
  have h0:=Mn l h 0;have c:hi (iG (UInt8.ofNat (iF true b)) (l.getD 0 0))=UInt8.ofNat (iF true b):=za _ _ (vk _ _) h0;have d:lo (iG (UInt8.ofNat (iF true b)) (l.getD 0 0))=l.getD 0 0:=yw _ _ (vk _ _) h0;rw[e];refine⟨⟨by simp,?_,?_⟩,?_,?_⟩
  ·rw[RC,c,mT];cases b<;>decide
  ·rw[RC,c,mT];cases b<;>simp[iF]
  ·unfold bd;rw[RC,c,mT,d,List.drop_succ_cons,List.drop_zero,zk _ (by simp;omega) (fun x g=>h x (List.mem_of_mem_drop g))];rw[QX (by cases b<;>rfl)];cases l with
   |nil=>simp at f
   |cons a r=>rfl
  ·unfold ft;rw[RC,c,mT];cases b<;>rfl
 ·have e:cN l b=iG (UInt8.ofNat (iF false b)) 0::gi l:=by unfold cN;rw[QW f]
  have h0:(0:UInt8).toNat<16:=by decide
  have c:hi (iG (UInt8.ofNat (iF false b)) 0)=UInt8.ofNat (iF false b):=za _ _ (vk _ _) h0;have d:lo (iG (UInt8.ofNat (iF false b)) 0)=0:=yw _ _ (vk _ _) h0;rw[e];refine⟨⟨by simp,?_,?_⟩,?_,?_⟩
  ·rw[RC,c,mT];cases b<;>decide
  ·rw[RC,d];intro _;rfl
  ·unfold bd;rw[RC,c,mT,List.drop_succ_cons,List.drop_zero,zk _ (by omega) h];rw[QW (by cases b<;>decide)];rfl
  ·unfold ft;rw[RC,c,mT];cases b<;>rfl
theorem KV(t):ak (bd t):=by
 intro x a;unfold bd at a;rcases Re.1 a with h|h
 ·split at h
  ·simp only[Q2] at h;subst h;exact sJ _
  ·cases h
 ·exact vL _ x h
theorem KY(t)(_h:t≠[]):(bd t).length=(if(hi (t.getD 0 0)).toNat % 2=1 then 1 else 0)+2*(t.length - 1):=by
 unfold bd;rw[Q4,ow,Q8];split<;>simp
theorem Ff(t)(h:jz t):cN (bd t) (ft t)=t:=by
 obtain⟨i,h3,f⟩:=h;cases t with
 |nil=>exact absurd rfl i
 |cons c r=>
  simp only[RC] at h3 f;have d:=KY (c::r) (by simp);simp only[RC,Ro] at d;have b:=Es c;unfold cN;by_cases a:(hi c).toNat % 2=1
  ·rw[QX a] at d;rw[QX (by omega)];have e:bd (c::r)=lo c::bZ r:=by unfold bd;simp only[RC,QX a,List.drop_succ_cons,List.drop_zero,List.singleton_append]
   rw[e];simp only[RC,List.drop_succ_cons,List.drop_zero,sr];congr 1;have:UInt8.ofNat (iF true (ft (c::r)))=hi c:=by
    apply lq;rw[mT];unfold ft iF;simp only[RC,RJ];by_cases h2:2<=(hi c).toNat % 4
    ·simp only[h2,decide_true,RJ];omega
    ·simp only[h2,decide_false];simp;omega
   rw[this,b]
  ·rw[QW a] at d;rw[QW (by omega)];have e:bd (c::r)=bZ r:=by unfold bd;simp only[RC,QW a,List.drop_succ_cons,List.drop_zero,SF]
   rw[e,sr];congr 1;have g:lo c=0:=lq (f (by omega));have:UInt8.ofNat (iF false (ft (c::r)))=hi c:=by
    apply lq;rw[mT];unfold ft iF;simp only[RC];by_cases h2:2<=(hi c).toNat % 4
    ·simp only[h2,decide_true,RJ];simp;omega
    ·simp only[h2,decide_false];simp;omega
   rw[this];rw[g] at b;exact b
def o9(l:yL):Bool:=l.all (fun c=>decide (c.toNat<16))
theorem yi{l}(h:o9 l=true):ak l:=fun x a=>by
 have:=Sp.1 h x a
 simpa using this
theorem Di{l}(h:ak l):o9 l=true:=Sp.2 fun x a=>by simpa using h x a
theorem Mo{l:yL}(k:Nat)(a:k<l.length)(h:15<(l[k]).toNat):o9 l=false:=by
 cases hb:o9 l with
 |false=>rfl
 |true=>
  have:=yi hb _ (RV a);omega
theorem Qy(s:yB)(q:s.size<=maxLen)(w:World):
 Calls yP 159 #[sV s] w fun e w'=>e=rV (bV (o9 s.data.toList))/\w'=w:=by
 unfold maxLen at q;go_enter func159,ntmps159
 go_wp2_with fail
 go_loopg [3] s.size (fun g r wr=>wr=w/\∃k:Nat,g=s.size - k/\k<=s.size/\r=iV .i64 k/\Hid (∀j,(h:j<s.size)->j<k->(s[j]).toNat<16))
 case atStart=>exact⟨rfl,0,rfl,by omega,rfl,fun j _ h=>by omega⟩
 case round=>
  obtain⟨rfl,k,d,v,rfl,b⟩:=hrel;have l:=aa d;clear d;by_cases p:k<s.size
  ·by_cases n:15<(s[k]).toNat
   ·have o:(15:Int)<((s[k]).toNat:Int):=by omega
    have c:o9 s.data.toList=false:=Mo k (by simpa using p) n;have i:=aa c;clear c;go_wp2_with fail
    go_ret
    exact⟨by rw[i.out];rfl,rfl⟩
   ·have o:¬(15:Int)<((s[k]).toNat:Int):=by omega
    go_wp2_with fail
    go_roundg (s.size - (k+1))
    case measure=>have:=l.out;omega
    case rel=>exact⟨rfl,k+1,rfl,by omega,by go_num,fun j a u=>by
     by_cases e:j=k
     ·subst e;omega
     ·exact b.out j a (by omega)⟩
  ·have f:o9 s.data.toList=true:=Di fun x t=>by
    obtain⟨j,a,rfl⟩:=List.getElem_of_mem t;exact b.out j (by simpa using a) (by have:j<s.size:=(by simpa using a);omega)
   have m:=aa f;clear f;go_wp2_with fail
   go_ret
   exact⟨by rw[m.out];rfl,rfl⟩
theorem pt:(yP.info? 5).map (fun i=>(i.zero,i.size,i.bytes))=some (some (iV .u8 0),1,1):=by kernel_rfl
def bI(l:yL):List Value:=l.map (fun c=>Value.int .u8 (c.toNat:Int))
def str(l:yL):yB:=⟨l.toArray⟩
theorem yu(n c:Int)(h0:0<=n)(a:n<=c)(f:c<=281474976710656)(w:World):
 (Instr.makeSlice 143 (iV .i64 n) (iV .i64 c)).run yP w=.ok (lV (qA w.heap.size) n.toNat c.toNat) (w.alloc (.cells (madeCells #[iV .u8 0] c.toNat) 5)):=by
 obtain⟨i0,hi,b,d,e⟩:=Sf pt;have:=run_make (P:=yP) w 143 5 i0 (iV .u8 0) underlying143 hi b .i64 .i64 n c h0 a (by rw[e];omega) (by omega);rw[d,Nat.mul_one] at this;exact this
theorem uR(w:World)(base c:Nat)(a:base<=w.heap.size)(b:c<=maxLen):(w.alloc (.cells (madeCells #[iV .u8 0] c) 5)).ownsRow base 5 1 (lV (qA w.heap.size) 0 c) 0 (bI []):=
 ⟨rfl,.inr ⟨w.heap.size,c,_,rfl,a,Rl _ _,by omega,b,by rw[size_madeCells,Nat.mul_one],by simp[bI]⟩⟩
theorem nJ(l:yL):strOfNums (l.map (fun c=>(c.toNat:Int)))=str l:=by
 unfold strOfNums str;congr 1;rw[List.map_map];congr 1;conv=>rhs;rw[<-List.map_id l]
 apply Sq;intro c _;simp
theorem CX(a b:Nat)(c:a<16)(d:b<16):bits .or .u8 (IntKind.u8.wrap ((a:Int)*16)) (b:Int)=((16*a+b:Nat):Int):=by
 have e:IntKind.u8.wrap ((a:Int)*16)=((16*a:Nat):Int):=by rw[SB];omega
 rw[e,u8_or_nat _ _ (by omega) (by omega),nat_join 4 (16*a) b (by omega) (by omega)]
def zh(l:yL)(q:Nat):UInt8:=if q=1 then l.getD 0 0 else 0
def M5(a:Bool):Nat:=if a then 2 else 0
theorem CF(s:yB)(d:Bool)(hs:s.size<8192)(hN:ak s.data.toList)(w:World):
 Calls yP 152 #[sV s,bV d] w fun e w'=>e=rV (tV #[sV (str (cN s.data.toList d)),iV .i64 0])/\yW w w':=by
 have hm:s.size<=maxLen:=by unfold maxLen;omega
 obtain⟨i0,A5,A7,A8,A9⟩:=Sf pt;have C2:=yu 0 ((s.size:Int) / 2+1) (by omega) (by omega) (by omega);have hn:=Di hN;have I:=aa hn;obtain⟨q,hq⟩:=yX (s.size % 2)
 have D2:q<2:=by omega
 obtain⟨c,hc⟩:=yX (zh s.data.toList q)
 obtain⟨L,Q⟩:=yX (M5 d)
 have B3:L<=2:=by cases d<;>rw[Q]<;>decide
 obtain⟨F,hF⟩:=yX (L+q)
 have W:=aa hF;have B2:F<=3:=by omega
 have y:=aa hq.symm;have H:=aa hc;have X:=aa Q;have E:s.data.toList.length=s.size:=by simp
 have x:=aa E;have B7:((s.size:Int) / 2+1).toNat=s.size / 2+1:=by omega
 clear E hn hN hq hc Q hF;go_enter func152,ntmps152
 go_wp2_with fail
 refine(Qy s hm _).mono ?_;rw[I.out];rintro e w1 ⟨rfl,hw⟩;have C5:=hw.symm;subst C5;clear hm hw;go_upto_if 16 with fail
 go_cut [6] (fun v U=>v=iV .u8 (L:Int)/\U=w)
 case first=>
  have e:=X.out;cases d
  ·obtain rfl:L=0:=e;go_wp2_with fail
   go_meet
   exact⟨rfl,rfl⟩
  ·obtain rfl:L=2:=e;go_wp2_with fail
   go_meet
   exact⟨rfl,rfl⟩
 case rest=>
 obtain⟨rfl,C⟩:=hcut;have T:=C.symm;subst T;clear C;go_upto_if 20 with fail
 go_cut [6,7,8] (fun v6 v7 v8 U=>v6=iV .u8 (F:Int)/\v7=iV .i64 (q:Int)/\v8=iV .u8 (c.toNat:Int)/\U=w)
 case first=>
  have e:=H.out;have t:=y.out;have eF:=W.out;by_cases h1:q=1
  ·subst h1;have h0:0<s.size:=by omega
   have C3:((s.size:Int) % 2 == 1)=true:=beq_iff_eq.2 (by omega);have iw:IntKind.u8.wrap ((L:Int)+1)=(L:Int)+1:=by rw[SB];omega
   have e2:c=s[0]:=by rw[e,zh,QX rfl,Q3,QV (by rw[x.out];exact h0)];rfl
   clear e t;go_wp2_with fail
   go_meet
   exact⟨by rw[eF];go_num,rfl,by rw[e2],rfl⟩
  ·obtain rfl:q=0:=by omega
   have C3:((s.size:Int) % 2 == 1)=false:=RW.2 (by omega);have e2:c=0:=by rw[e];rfl
   clear e t;go_wp2_with fail
   go_meet
   exact⟨by rw[eF];rfl,rfl,by rw[e2];rfl,rfl⟩
 case rest=>
 obtain⟨rfl,rfl,rfl,C⟩:=hcut;have T:=C.symm;subst T;clear C;go_upto_region 15 with fail
 have l:=uR w w.heap.size (s.size / 2+1) (QU _) (by unfold maxLen;omega);have g:=(Q1 w.heap.size w).alloc (QU _) (.cells (madeCells #[iV .u8 0] (s.size / 2+1)) 5);generalize hW:w.alloc (.cells (madeCells #[iV .u8 0] (s.size / 2+1)) 5)=W1 at*;generalize hV:Value.slice (qA w.heap.size) 0 (s.size / 2+1)=V1 at*;have m:=aa l;have a:=aa g;clear hW hV l g C2 B7;have N:c.toNat<16:=by
  rw[H.out,zh];split
  ·rw[Q3];cases h:s.data.toList[0]? with
   |none=>decide
   |some u=>exact yi I.out u (Rv h)
  ·decide
 obtain⟨B,O⟩:=yX (iG (UInt8.ofNat F) c)
 have e4:(UInt8.ofNat F).toNat=F:=by rw[RH];omega
 have C4:bits .or .u8 ((F:Int)*16 % 256) (c.toNat:Int)=(B.toNat:Int):=by
  have e5:(F:Int)*16 % 256=IntKind.u8.wrap ((F:Int)*16):=by rw[SB]
  rw[e5,O,sM _ _ (by omega) N,e4,CX F c.toNat (by omega) N]
 have HB:=aa O;clear N O e4 B3 B2;go_wp2_with (at_builtin;refine RG _ rfl (.tmp 30) (.tmp 35) 143 rfl w.heap.size 5 i0 (iV .u8 0) 1 1 underlying143 A5 A7 A8 A9 rfl (by decide) V1 0 (bI []) rfl (m.out.alloc _) ⟨W1.heap.size,0,none⟩ 1 1 [iV .u8 (B.toNat:Int)] rfl rfl (So _ _ _) ?c2 (by omega) ?c3 ?c4 ?c5 _ rfl ?c6)
 case c2=>intro u A;simp at A;subst A;rfl
 case c3=>unfold maxLen;omega
 case c4=>omega
 case c5=>have:=a.out.size;simp;omega
 case c6=>
  intro g1 M D G A3 B4 C0;have G:=G;have A0:yW w D:=(a.out.alloc a.out.size _).grown A3 (by have:=a.out.size;simp;omega) (fun k R=>(m.out.lt k R).1);have Y:=aa G;have V:=aa A0;clear G A3 B4 C0 A0 m a C4;go_wp2_with fail
  go_loopg [7,9] (s.size / 2) (fun n r v wr=>∃j o cap:Nat,n=s.size / 2 - j/\q+2*j<=s.size/\r=iV .i64 ((q+2*j:Nat):Int)/\v=lV (qA o) (j+1) cap/\
   wr.ownsRow w.heap.size 5 1 (lV (qA o) (j+1) cap) (j+1) (bI (B::gi ((s.data.toList.drop q).take (2*j))))/\yW w wr)
  case atStart=>exact⟨0,g1,M,by omega,by have:=y.out;omega,rfl,rfl,Y.out,V.out⟩
  case round=>
   obtain⟨j,o,cap,hg,hj,rfl,rfl,l,g⟩:=hrel;have HG:=aa hg;clear hg Y V;obtain⟨p,b⟩:=yX (q+2*j)
   have f:=aa b;rw[<-b];rw[<-b] at hj;clear b;by_cases B9:p+1<s.size
   ·have S:=yi I.out;have n0:(s[p]).toNat<16:=S _ (by rw[<-Array.mem_def];exact Array.getElem_mem (by simpa using(by omega:p<s.size)));have n1:(s[p+1]).toNat<16:=S _ (by rw[<-Array.mem_def];exact Array.getElem_mem (by simpa using B9));have hv:bits .or .u8 (IntKind.u8.wrap (((s[p]).toNat:Int)*16)) ((s[p+1]).toNat:Int)=((iG s[p] s[p+1]).toNat:Int):=by
     rw[CX _ _ n0 n1,sM _ _ n0 n1]
    have HS:Hid (gi ((s.data.toList.drop q).take (2*(j+1)))=gi ((s.data.toList.drop q).take (2*j))++[iG s[p] s[p+1]]):=by
     have b:=f.out;have B8:2*j+1<(s.data.toList.drop q).length:=by have:=x.out;rw[Q8];omega
     have e:2*(j+1)=2*j+2:=by omega
     rw[e,IV _ _ B8,Cz _ _ (by rw[Rs];omega)];congr 1;have e0:(s.data.toList.drop q)[2*j]=s[p]:=by rw[List.getElem_drop];subst b;rfl
     have e1:(s.data.toList.drop q)[2*j+1]=s[p+1]:=by rw[List.getElem_drop];subst b;rfl
     rw[e0,e1];rfl
    have m:=aa l;have a:=aa g;have C7:j<4096:=by have:=f.out;omega
    have C8:p<s.size:=by omega
    have C9:(p:Int)<(s.size:Int):=by omega
    have D0:(p:Int)+1<(s.size:Int):=by omega
    have D1:(0:Int)<=(p:Int)+1:=by omega
    have iw:IntKind.i64.wrap ((p:Int)+1)=(p:Int)+1:=by rw[RE];omega
    clear S n0 n1 l g;generalize hJ:iG s[p] s[p+1]=J at*;generalize hks:bI (B::gi ((s.data.toList.drop q).take (2*j)))=ks at*;have HK:=aa hks;clear hks;go_wp2_with fail
    go_region_law (refine step_append_lies _ rfl (.tmp 44) (.tmp 54) 143 rfl w.heap.size 5 i0 (iV .u8 0) 1 1 underlying143 A5 A7 A8 A9 rfl (by decide) (lV (qA o) (j+1) cap) (j+1) ks (by simp[Act.eval]) (m.out.drew.alloc _) ⟨wr.heap.size,0,none⟩ 1 1 [iV .u8 (J.toNat:Int)] (by simp[Act.eval]) rfl (So _ _ _) (by intro u A;simp at A;subst A;rfl) (by omega) (by unfold maxLen;omega) (by omega) (by have:=a.out.size;simp;omega) _ rfl ?_;intro g2 Z K A6 A4 B5 C1)
    all_goals
     have A1:yW w K:=(a.out.drew.alloc a.out.size _).grown A4 (by have:=a.out.size;simp;omega) (fun k R=>(m.out.lt k R).1);have B1:=aa A6;have B0:=aa A1;clear A6 A4 B5 C1 A1;go_wp2_with fail
     go_roundg (s.size / 2 - (j+1))
     case measure=>have:=HG.out;have:=f.out;omega
     case rel=>
      refine⟨j+1,g2,Z,rfl,by have:=f.out;omega,by have:=f.out;rw[show q+2*(j+1)=p+2 by omega];go_num,rfl,?_,B0.out⟩;have e:bI (B::gi ((s.data.toList.drop q).take (2*(j+1))))=ks++[iV .u8 (J.toNat:Int)]:=by
       rw[HS.out,<-HK.out];simp[bI]
      rw[e];exact B1.out
   ·have a:=aa g;have A2:B::gi ((s.data.toList.drop q).take (2*j))=cN s.data.toList d:=by
     have b:=f.out;have t:=y.out;have z:=x.out;unfold cN;rw[RI (by rw[Q8];omega),HB.out,W.out,z,t,H.out,X.out];have:q=0\/q=1:=by omega
     rcases this with rfl|rfl<;>cases d<;>rfl
    have B6:=St (P:=yP) wr 143 5 underlying143 underlying5 o 0 (j+1) cap ((cN s.data.toList d).map (fun c=>(c.toNat:Int))) (by
     rw[Rr,qy];have b:=f.out;have z:=x.out;have t:=y.out;rw[z];omega) (fun i hi=>by
     have:=l.cellAt i (by rw[Nat.mul_one];exact hi);rw[R5,this,A2];have E:i<(cN s.data.toList d).length:=by rw[qy];have b:=f.out;have z:=x.out;have t:=y.out;rw[z];omega
     simp[bI,List.getD,QV E]) 9 underlying9
    rw[nJ] at B6;have C6:¬((p:Int)+1<(s.size:Int)):=by omega
    clear l g A2;go_wp2_with fail
    go_ret2
    exact⟨rfl,a.out⟩
abbrev Tree:=DataW Unit
def ay(l:yL):Tree:=.lit (.string l)
def bH(ks:List Tree):Tree:=.slice ks []
def cT:Nat->Nat->yL
 | 0,_=>[]
 |f+1,n=>if n=0 then [] else cT f (n / 256)++[UInt8.ofNat (n % 256)]
def be(l:yL):Nat:=l.foldl (fun a c=>a*256+c.toNat) 0
theorem vQ:∀f,cT f 0=[]
 | 0=>rfl
 |f+1=>by simp[cT]
theorem zP(l)(c:UInt8):be (l++[c])=be l*256+c.toNat:=by simp[be]
theorem Gy:∀f n,n<256 ^ f->be (cT f n)=n
 | 0,n,h=>by simp at h;subst h;rfl
 |f+1,n,h=>by
  unfold cT
  by_cases h0:n=0
  ·rw[QX h0,h0];rfl
  ·rw[QW h0,zP,Gy f (n / 256) (by rw[Nat.pow_succ] at h;omega),RH]
   omega
theorem vR:∀f n,(cT f n).length<=f
 | 0,_=>by simp[cT]
 |f+1,n=>by
  unfold cT
  split
  ·simp
  ·rw[Q4];have:=vR f (n / 256);simp;omega
theorem FN(f n:Nat)(a:0<f)(h:0<n):0<(cT f n).length:=by
 cases f with
 |zero=>omega
 |succ f=>unfold cT;rw[QW (by omega)];simp
theorem FP:∀f n,0<n->n<256 ^ f->((cT f n).getD 0 0).toNat≠0
 | 0,n,h,h2=>by simp at h2;omega
 |f+1,n,h,h2=>by
  unfold cT
  rw[QW (by omega)]
  by_cases b:n / 256=0
  ·rw[b,vQ]
   show(UInt8.ofNat (n % 256)).toNat≠0
   rw[RH];omega
  ·have c:=FP f (n / 256) (by omega) (by rw[Nat.pow_succ] at h2;omega)
   have a:0<(cT f (n / 256)).length:=by
    cases f with
    |zero=>simp at h2;omega
    |succ f=>exact FN _ _ (by omega) (by omega)
   rw[Q3,RA a,<-Q3];exact c
theorem Qo(l)(h:l≠[])(h0:(l.getD 0 0).toNat≠0):0<be l:=by
 have key:∀(l:yL) (a:Nat),a<=l.foldl (fun a c=>a*256+c.toNat) a:=by
  intro l;induction l with
  |nil=>intro a;exact QU _
  |cons c r ih=>intro a;exact Q7 (by omega) (ih (a*256+c.toNat))
 cases l with
 |nil=>exact absurd rfl h
 |cons c r=>
  have:=key r (0*256+c.toNat);simp only[RC] at h0;have e:be (c::r)=r.foldl (fun a c=>a*256+c.toNat) (0*256+c.toNat):=rfl;rw[e];omega
theorem Qp(l):be l<256 ^ l.length:=by
 have key:∀(l:yL) (a:Nat),l.foldl (fun a c=>a*256+c.toNat) a<(a+1)*256 ^ l.length:=by
  intro l;induction l with
  |nil=>intro a;simp
  |cons c r ih=>
   intro a;have h1:=ih (a*256+c.toNat);have h2:=c.toNat_lt;have h3:(a*256+c.toNat+1)*256 ^ r.length<=((a+1)*256)*256 ^ r.length:=Nat.mul_le_mul_right _ (by omega);simp only[List.foldl_cons,Ro,Nat.pow_succ];rw[Nat.mul_assoc] at h3;rw[Nat.mul_comm (256 ^ r.length) 256];exact Q6 h1 h3
 have:=key l 0;rw[R5,Nat.one_mul] at this;exact this
theorem FQ:∀(f:Nat) (l:yL),l.length<=f->(l≠[]->(l.getD 0 0).toNat≠0)->cT f (be l)=l
 | 0,l,h,_=>by
  have:l=[]:=Rm.1 (by omega)
  subst this;rfl
 |f+1,l,h,h0=>by
  rcases List.eq_nil_or_concat l with rfl|⟨m,c,rfl⟩
  ·exact vQ _
  ·rw[List.concat_eq_append] at*
   have e:=c.toNat_lt
   have a:m≠[]->(m.getD 0 0).toNat≠0:=by
    intro a;have:=h0 (by simp);rwa [Q3,RA (Sj.2 a),<-Q3] at this
   have d:=FQ f m (by simp at h;omega) a;have b:be (m++[c])≠0:=by
    have:=Qo (m++[c]) (by simp) (h0 (by simp));omega
   unfold cT;rw[QW b,zP];have e1:(be m*256+c.toNat) / 256=be m:=by omega
   have e2:UInt8.ofNat ((be m*256+c.toNat) % 256)=c:=by apply lq;rw[RH];omega
   rw[e1,e2,d]
def cX(a n:Nat):yL:=if n<=55 then [UInt8.ofNat (a+n)] else UInt8.ofNat (a+55+(cT 8 n).length)::cT 8 n
def fB(t:yL):Bool:=decide (t.length=1) && decide ((t.getD 0 0).toNat<128)
def dg(t:yL):yL:=if fB t=true then t else cX 128 t.length++t
def gG(a:yL):yL:=cX 192 a.length++a
def bm:Nat->Tree->yL
 | _,.lit (.string t)=>dg t
 |d+1,.slice ks _=>gG (ks.map (bm d)).flatten
 | _,_=>[]
def bK:Nat->Tree->Bool
 | _,.lit (.string _)=>true
 |d+1,.slice ks []=>decide (ks.length<=64) && ks.all (bK d)
 | _,_=>false
def jQ(s:yL)(b:Bool)(a n:Nat):Except Nat (Bool×Nat×Nat):=if s.length - a<n then .error 5 else .ok (b,a,n)
def eR(s:yL):Except Nat (Bool×Nat×Nat):=
 if s.length=0 then .error 5 else
 if(s.getD 0 0).toNat<128 then .ok (false,0,1) else
 if(s.getD 0 0).toNat - (if 192<=(s.getD 0 0).toNat then 192 else 128)<=55 then jQ s (decide (192<=(s.getD 0 0).toNat)) 1 ((s.getD 0 0).toNat - (if 192<=(s.getD 0 0).toNat then 192 else 128)) else
 if s.length - 1<(s.getD 0 0).toNat - (if 192<=(s.getD 0 0).toNat then 192 else 128) - 55 then .error 5 else
 if(s.getD 1 0).toNat=0\/be ((s.drop 1).take ((s.getD 0 0).toNat - (if 192<=(s.getD 0 0).toNat then 192 else 128) - 55))<=55 then .error 7 else
 jQ s (decide (192<=(s.getD 0 0).toNat)) (1+((s.getD 0 0).toNat - (if 192<=(s.getD 0 0).toNat then 192 else 128)) - 55) (be ((s.drop 1).take ((s.getD 0 0).toNat - (if 192<=(s.getD 0 0).toNat then 192 else 128) - 55)))
def dU(f:yL->Except Nat (Tree×Nat)):Nat->yL->Except Nat (List Tree)
 |m,body=>if body.length=0 then .ok [] else
  match m with
  | 0=>.error 8
  |m+1=>match f body with
   | .error e=>.error e
   | .ok (k,u)=>match dU f m (body.drop u) with
    | .error e=>.error e
    | .ok ks=>.ok (k::ks)
def dd:Nat->yL->Except Nat (Tree×Nat)
 |d,s=>match eR s with
  | .error e=>.error e
  | .ok (list,from_,n)=>
   if list=false then(if 0<from_/\fB ((s.drop from_).take n)=true then .error 7 else .ok (ay ((s.drop from_).take n),from_+n))
   else match d with
    | 0=>.error 8
    |d+1=>match dU (dd d) 64 ((s.drop from_).take n) with
     | .error e=>.error e
     | .ok ks=>.ok (bH ks,from_+n)
def fL(s:yL):Except Nat Tree:=
 if 4096<s.length then .error 1 else
 match dd 6 s with
 | .error e=>.error e
 | .ok (x,u)=>if u<s.length then .error 6 else .ok x
theorem zl(s:yL)(h:s.length≠0):s=s.getD 0 0::s.drop 1:=by
 cases s with
 |nil=>simp at h
 |cons c r=>rfl
theorem zb(a n:Nat):0<(cX a n).length:=by unfold cX;split<;>simp
theorem Bq{s l l' f n a b}(h:jQ s l f n=.ok (l',a,b)):l'=l/\a=f/\b=n/\¬s.length - f<n:=by
 unfold jQ at h;split at h
 ·cases h
 ·cases h;exact⟨rfl,rfl,rfl,‹_›⟩
theorem ze(s)(l:Bool)(f n:Nat)(h:eR s=.ok (l,f,n)):
 s.length≠0/\((l=false/\f=0/\n=1/\(s.getD 0 0).toNat<128)\/(1<=f/\f+n<=s.length/\s.take f=cX (if l then 192 else 128) n)):=by
 unfold eR at h;by_cases h0:s.length=0
 ·rw[QX h0] at h;cases h
 rw[QW h0] at h;refine⟨h0,?_⟩;have a:=zl s h0;have j:=(s.getD 0 0).toNat_lt;by_cases h1:(s.getD 0 0).toNat<128
 ·rw[QX h1] at h;cases h
  exact .inl ⟨rfl,rfl,rfl,h1⟩
 rw[QW h1] at h;right;generalize hbase:(if 192<=(s.getD 0 0).toNat then 192 else 128)=base at h;have b:(if(decide (192<=(s.getD 0 0).toNat))=true then 192 else 128)=base:=by rw[<-hbase];simp
 have o:base<=(s.getD 0 0).toNat:=by rw[<-hbase];split<;>omega
 by_cases h2:(s.getD 0 0).toNat - base<=55
 ·rw[QX h2] at h;obtain⟨rfl,rfl,rfl,h3⟩:=Bq h;refine⟨by omega,by omega,?_⟩;rw[b];unfold cX;rw[QX h2,a];show [s.getD 0 0]=_;congr 1;apply lq;rw[RH];have e:((s.getD 0 0)::s.drop 1).getD 0 0=s.getD 0 0:=rfl;rw[e];omega
 rw[QW h2] at h;by_cases h3:s.length - 1<(s.getD 0 0).toNat - base - 55
 ·rw[QX h3] at h;cases h
 rw[QW h3] at h;have q:(s.getD 0 0).toNat - base - 55<=8:=by rw[<-hbase];split<;>omega
 have i:1+((s.getD 0 0).toNat - base) - 55=1+((s.getD 0 0).toNat - base - 55):=by omega
 rw[i] at h;have m:(s.getD 0 0).toNat=base+55+((s.getD 0 0).toNat - base - 55):=by omega
 have p:1<=(s.getD 0 0).toNat - base - 55:=by omega
 generalize hk:(s.getD 0 0).toNat - base - 55=k at*;have g:((s.drop 1).take k).length=k:=by rw[Rs,Q8];omega
 by_cases h4:(s.getD 1 0).toNat=0\/be ((s.drop 1).take k)<=55
 ·rw[QX h4] at h;cases h
 rw[QW h4] at h;obtain⟨rfl,rfl,rfl,h5⟩:=Bq h;refine⟨by omega,by omega,?_⟩;rw[b];have d:cT 8 (be ((s.drop 1).take k))=(s.drop 1).take k:=FQ 8 _ (by omega) (fun _=>by
  intro c;apply h4;left;have e:((s.drop 1).take k).getD 0 0=s.getD 1 0:=by
   rw[Q3,Sm,QX (by omega),Sw,Q3]
  rw[e] at c;exact c)
 unfold cX;rw[QW (by omega),d,g];conv=>lhs;rw[a]
 rw[Nat.add_comm 1 k,List.take_succ_cons];congr 1;apply lq;rw[RH];omega
theorem AZ(f:yL->Except Nat (Tree×Nat))(b:Tree->yL)(c:Tree->Bool)
 (d:∀s x u,f s=.ok (x,u)->0<u/\u<=s.length/\b x=s.take u/\c x=true):
 ∀(m:Nat) (a:yL) (ks:List Tree),dU f m a=.ok ks->(ks.map b).flatten=a/\ks.all c=true/\ks.length<=m
 | 0,a,ks,h=>by
  unfold dU at h
  by_cases h0:a.length=0
  ·rw[QX h0] at h;cases h
   exact⟨(Rm.1 h0).symm,rfl,QU _⟩
  ·rw[QW h0] at h;cases h
 |m+1,a,ks,h=>by
  unfold dU at h
  by_cases h0:a.length=0
  ·rw[QX h0] at h;cases h
   exact⟨(Rm.1 h0).symm,rfl,Ri _⟩
  ·rw[QW h0] at h
   simp only at h
   cases hk:f a with
   |error e=>rw[hk] at h;cases h
   |ok ku=>
    obtain⟨k,u⟩:=ku
    rw[hk] at h
    simp only at h
    cases hr:dU f m (a.drop u) with
    |error e=>rw[hr] at h;cases h
    |ok ks'=>
     rw[hr] at h
     cases h
     obtain⟨h1,h2,h3,h4⟩:=d _ _ _ hk
     obtain⟨i1,i2,i3⟩:=AZ f b c d m _ _ hr
     refine⟨?_,?_,by simp;omega⟩
     ·rw[List.map_cons,List.flatten_cons,h3,i1,Su]
     ·rw[List.all_cons,h4,i2];rfl
theorem AU:∀(d:Nat) (s) (x:Tree) (u:Nat),dd d s=.ok (x,u)->0<u/\u<=s.length/\bm d x=s.take u/\bK d x=true:=by
 intro d;induction d with
 |zero=>
  intro s x u h;unfold dd at h;cases hh:eR s with
  |error e=>rw[hh] at h;cases h
  |ok lfn=>
   obtain⟨l,f,n⟩:=lfn;rw[hh] at h;simp only at h;obtain⟨k,i⟩:=ze s l f n hh;cases l with
   |true=>simp at h
   |false=>
    rw[QX rfl] at h;split at h
    ·cases h
    ·rename_i hnb
     cases h
     rcases i with⟨_,rfl,rfl,j⟩|⟨m,c,g⟩
     ·refine⟨by omega,by omega,?_,rfl⟩;show dg _=_;have a:fB ((s.drop 0).take 1)=true:=by
       rw[zl s k];unfold fB;simp only[List.drop_zero,List.take_succ_cons,List.take_zero,RC];simp;simpa using j
      unfold dg;rw[QX a];simp
     ·refine⟨by omega,c,?_,rfl⟩;show dg _=_;have a:¬fB ((s.drop f).take n)=true:=fun a=>hnb ⟨by omega,a⟩
      have b:((s.drop f).take n).length=n:=by rw[Rs,Q8];omega
      unfold dg;rw[QW a,b,<-(show cX (if false=true then 192 else 128) n=cX 128 n from rfl),<-g,List.take_add]
 |succ d ih=>
  intro s x u h;unfold dd at h;cases hh:eR s with
  |error e=>rw[hh] at h;cases h
  |ok lfn=>
   obtain⟨l,f,n⟩:=lfn;rw[hh] at h;simp only at h;obtain⟨k,i⟩:=ze s l f n hh;cases l with
   |true=>
    simp only[Bool.true_eq_false,Ry] at h;rcases i with⟨b,_⟩|⟨m,c,g⟩
    ·cases b
    cases hk:dU (dd d) 64 ((s.drop f).take n) with
    |error e=>rw[hk] at h;cases h
    |ok ks=>
     rw[hk] at h;cases h
     obtain⟨i1,i2,i3⟩:=AZ (dd d) (bm d) (bK d) (fun s x u h=>ih s x u h) 64 _ _ hk;have b:((s.drop f).take n).length=n:=by rw[Rs,Q8];omega
     refine⟨by omega,c,?_,?_⟩
     ·show gG _=_;rw[i1];unfold gG;rw[b,<-(show cX (if true=true then 192 else 128) n=cX 192 n from rfl),<-g,List.take_add]
     ·show(decide (ks.length<=64) && ks.all (bK d))=true;rw[i2,Ra i3];rfl
   |false=>
    rw[QX rfl] at h;split at h
    ·cases h
    ·rename_i hnb
     cases h
     rcases i with⟨_,rfl,rfl,j⟩|⟨m,c,g⟩
     ·refine⟨by omega,by omega,?_,rfl⟩;show dg _=_;have a:fB ((s.drop 0).take 1)=true:=by
       rw[zl s k];unfold fB;simp only[List.drop_zero,List.take_succ_cons,List.take_zero,RC];simp;simpa using j
      unfold dg;rw[QX a];simp
     ·refine⟨by omega,c,?_,rfl⟩;show dg _=_;have a:¬fB ((s.drop f).take n)=true:=fun a=>hnb ⟨by omega,a⟩
      have b:((s.drop f).take n).length=n:=by rw[Rs,Q8];omega
      unfold dg;rw[QW a,b,<-(show cX (if false=true then 192 else 128) n=cX 128 n from rfl),<-g,List.take_add]
def fu(l:Bool):Nat:=if l then 192 else 128
theorem EK(l:Bool)(n:Nat)(rest:yL)(g:n<256 ^ 8)(p:n<=rest.length):eR (cX (fu l) n++rest)=.ok (l,(cX (fu l) n).length,n):=by
 have f:∀b:Nat,fu l<=b->(l=false->b<192)->(if 192<=b then 192 else 128)=fu l/\decide (192<=b)=l:=by
  intro b h1 h2;cases l with
  |false=>have:=h2 rfl;rw[QW (by omega)];exact⟨rfl,Q9 (by omega)⟩
  |true=>have c:192<=b:=h1;rw[QX c];exact⟨rfl,Ra c⟩
 have o:fu l<=192:=by cases l<;>decide
 have m:128<=fu l:=by cases l<;>decide
 have d:l=false->fu l=128:=by intro h;rw[h];rfl
 by_cases h55:n<=55
 ·have e:cX (fu l) n=[UInt8.ofNat (fu l+n)]:=by unfold cX;rw[QX h55]
  have a:(UInt8.ofNat (fu l+n)).toNat=fu l+n:=by rw[RH];omega
  obtain⟨k1,k2⟩:=f (fu l+n) (by omega) (fun h=>by rw[d h];omega);rw[e];unfold eR;simp only[List.singleton_append,RC,a,k1,k2,Ro];rw[QW (by omega),QW (by omega),QX (by omega),show fu l+n - fu l=n by omega];unfold jQ;rw[QW (by simp;omega)];rfl
 ·have k:0<(cT 8 n).length:=FN 8 n (by omega) (by omega);have h8:=vR 8 n;have e:cX (fu l) n=UInt8.ofNat (fu l+55+(cT 8 n).length)::cT 8 n:=by unfold cX;rw[QW h55]
  have a:(UInt8.ofNat (fu l+55+(cT 8 n).length)).toNat=fu l+55+(cT 8 n).length:=by rw[RH];omega
  obtain⟨k1,k2⟩:=f (fu l+55+(cT 8 n).length) (by omega) (fun h=>by rw[d h];omega);have i:=Gy 8 n g;have j:=FP 8 n (by omega) g;rw[e];generalize hD:cT 8 n=D at*;have e1:fu l+55+D.length - fu l=55+D.length:=by omega
  have e2:55+D.length - 55=D.length:=by omega
  have e3:1+(55+D.length) - 55=1+D.length:=by omega
  unfold eR;simp only[List.cons_append,RC,a,k1,k2,Ro,List.drop_succ_cons,List.drop_zero,e1,e2,e3,List.take_left,i];rw[QW (by omega),QW (by omega),QW (by omega),QW (by simp),QW]
  ·unfold jQ;rw[QW (by simp;omega),Nat.add_comm 1]
  ·rintro (h|h)
   ·apply j;rw[List.getD_cons_succ,Q3,RA k,<-Q3] at h;exact h
   ·omega
theorem AS(t):0<(dg t).length:=by
 unfold dg;split
 ·rename_i h;unfold fB at h;simp at h;omega
 ·rw[Q4];have:=zb 128 t.length;omega
theorem AT(d:Nat)(t r:yL)(k:t.length<256 ^ 8):dd d (dg t++r)=.ok (ay t,(dg t).length):=by
 by_cases a:fB t=true
 ·have e:dg t=t:=by unfold dg;rw[QX a]
  have f:=a;unfold fB at f;rw[Sh,SD,SD] at f;obtain⟨j,g⟩:=f;rw[e];match t,j with
  | [c],_=>
   have b:eR ([c]++r)=.ok (false,0,1):=by
    unfold eR;simp only[List.singleton_append,RC,Ro];simp only[RC] at g;rw[QW (by omega),QX g]
   unfold dd;rw[b];simp
 ·have e:dg t=cX 128 t.length++t:=by unfold dg;rw[QW a]
  have b:=EK false t.length (t++r) k (by simp);have i:fu false=128:=rfl;rw[i] at b;rw[e,Rn];unfold dd;rw[b];simp only;rw[QX trivial,List.drop_left,List.take_left,QW (fun h=>a h.2),Q4]
theorem sZ(d:Nat)(x:Tree)(h:bK d x=true):(∃t,x=ay t)\/(∃e ks,d=e+1/\x=bH ks/\ks.length<=64/\ks.all (bK e)=true):=by
 unfold bK at h;split at h
 ·exact .inl ⟨_,rfl⟩
 ·rw[Sh,SD] at h;exact .inr ⟨_,_,rfl,rfl,h.1,h.2⟩
 ·cases h
theorem ir(d:Nat)(t):bm d (ay t)=dg t:=by unfold ay;simp only[bm]
theorem kL(d:Nat)(ks:List Tree):bm (d+1) (bH ks)=gG (ks.map (bm d)).flatten:=by unfold bH;simp only[bm]
theorem Pm(d:Nat)(x:Tree)(h:bK d x=true):0<(bm d x).length:=by
 rcases sZ d x h with⟨t,rfl⟩|⟨e,ks,rfl,rfl,_,_⟩
 ·rw[ir];exact AS t
 ·rw[kL];unfold gG;rw[Q4];have:=zb 192 (ks.map (bm e)).flatten.length;omega
theorem Jb(f:yL->Except Nat (Tree×Nat))(a:Tree->yL)
 (ks:List Tree):∀(m:Nat),ks.length<=m->(∀x,x∈ks->0<(a x).length/\∀r,f (a x++r)=.ok (x,(a x).length))->dU f m (ks.map a).flatten=.ok ks:=by
 induction ks with
 |nil=>intro m _ _;unfold dU;rw[QX (by simp)]
 |cons k ks ih=>
  intro m c b;obtain⟨g,d⟩:=b k (by simp);cases m with
  |zero=>simp at c
  |succ m=>
   have hi:=ih m (by simp at c;omega) (fun x e=>b x (by simp[e]));unfold dU;rw[List.map_cons,List.flatten_cons,QW (by rw[Q4];omega)];simp only;rw[d];simp only;rw[List.drop_left,hi]
theorem Li(l:List yL):∀c,c∈l->c.length<=l.flatten.length:=by
 induction l with
 |nil=>intro c h;cases h
 |cons a l ih=>
  intro c h;rw[List.flatten_cons,Q4];rcases Rh.1 h with rfl|h
  ·omega
  ·have:=ih c h;omega
theorem IX:∀(d:Nat) (x:Tree) (r),bK d x=true->(bm d x).length<256 ^ 8->dd d (bm d x++r)=.ok (x,(bm d x).length):=by
 intro d;induction d with
 |zero=>
  intro x r b a;rcases sZ 0 x b with⟨t,rfl⟩|⟨e,ks,j,_⟩
  ·rw[ir] at a;rw[ir];refine AT 0 t r ?_;unfold dg at a;split at a
   ·exact a
   ·rw[Q4] at a;omega
  ·omega
 |succ d ih=>
  intro x r b a;rcases sZ (d+1) x b with⟨t,rfl⟩|⟨e,ks,j,rfl,h64,h⟩
  ·rw[ir] at a;rw[ir];refine AT (d+1) t r ?_;unfold dg at a;split at a
   ·exact a
   ·rw[Q4] at a;omega
  ·obtain rfl:e=d:=by omega
   rw[kL] at a;rw[kL];have i:(ks.map (bm e)).flatten.length<256 ^ 8:=by unfold gG at a;rw[Q4] at a;omega
   have l:=Jb (dd e) (bm e) ks 64 h64 (fun x g=>by
    have c:=Sp.1 h x g;refine⟨Pm e x c,fun r=>ih x r c ?_⟩;have:=Li (ks.map (bm e)) (bm e x) (List.mem_map_of_mem g);omega)
   generalize hB:(ks.map (bm e)).flatten=body at*;have f:=EK true body.length (body++r) i (by simp);have k:fu true=192:=rfl;rw[k] at f;unfold gG;rw[Rn];unfold dd;rw[f];simp only[Bool.true_eq_false,Ry];rw[List.drop_left,List.take_left,l];simp only[Q4]
theorem O1(x:Tree)(h:bK 6 x=true)(a:(bm 6 x).length<=4096):fL (bm 6 x)=.ok x:=by
 have:=IX 6 x [] h (by omega);rw[Rz] at this;unfold fL;rw[QW (by omega),this];simp
theorem zF(s)(x:Tree)(h:fL s=.ok x):bm 6 x=s/\bK 6 x=true/\s.length<=4096:=by
 unfold fL at h;by_cases h1:4096<s.length
 ·rw[QX h1] at h;cases h
 rw[QW h1] at h;cases ht:dd 6 s with
 |error e=>rw[ht] at h;cases h
 |ok xu=>
  obtain⟨y,u⟩:=xu;rw[ht] at h;simp only at h;obtain⟨_,h2,h3,h4⟩:=AU 6 s y u ht;by_cases h5:u<s.length
  ·rw[QX h5] at h;cases h
  ·rw[QW h5] at h;cases h;refine⟨?_,h4,by omega⟩;rw[h3,RI (by omega)]
theorem pG(c:UInt8):bits .and .u8 (c.toNat:Int) 15=((lo c).toNat:Int):=by
 have:=u8_and_nat c.toNat 15 c.toNat_lt (by omega);rw[nat_mask4] at this;rw[qL];exact this
theorem tj(c:UInt8):(c.toNat:Int) / 16=((hi c).toNat:Int):=by rw[vK];omega
theorem GA(m:Nat)(h:m<256):bits .and .u8 (m:Int) 1=((m % 2:Nat):Int):=by
 have:=u8_and_nat m 1 h (by omega);rw[nat_mask1] at this;exact this
theorem Qx(m:Nat)(h:m<4):bits .and .u8 (m:Int) 2=((m / 2*2:Nat):Int):=by
 have:=u8_and_nat m 2 (by omega) (by omega);rw[show(2:Nat)=2 ^ 1 from rfl,nat_bit] at this;have e:m / 2 ^ 1 % 2*2 ^ 1=m / 2*2:=by omega
 rw[e] at this;exact this
theorem Iv(s:yB)(n:s.size<=maxLen)(a:4096<s.size\/¬jz s.data.toList)(w:World):
 Calls yP 160 #[sV s] w fun e w'=>e=rV (tV #[sV ByteArray.empty,bV false,iV .i64 (if 4096<s.size then 1 else 7)])/\w'=w:=by
 unfold maxLen at n;by_cases h1:4096<s.size
 ·rw[QX h1];have o:(4096:Int)<(s.size:Int):=by omega
  clear a;go_enter func160,ntmps160
  go_wp2_with fail
  go_ret3
  exact⟨rfl,rfl⟩
 ·rw[QW h1];have a:¬jz s.data.toList:=by rcases a with h|h;exact absurd h h1;exact h
  by_cases h0:s.size=0
  ·have f:((s.size:Int) == 0)=true:=beq_iff_eq.2 (by omega);clear a h0;go_enter func160,ntmps160
   go_wp2_with fail
   go_ret3
   exact⟨rfl,rfl⟩
  ·have f:((s.size:Int) == 0)=false:=RW.2 (by omega);have k:0<s.size:=by omega
   have e0:s.data.toList.getD 0 0=s[0]:=by rw[Q3,QV (by simpa using k)];rfl
   have d:s.data.toList≠[]:=by
    intro h;have b:s.data.toList.length=s.size:=by simp
    rw[h] at b;have:(0:Nat)=s.size:=b;omega
   unfold jz at a;rw[e0] at a;have q:=tj s[0];have p:=pG s[0];have r:=yZ s[0];have b:=sJ s[0];generalize hcm:(hi s[0]).toNat=m at*;generalize hcl:(lo s[0]).toNat=l at*;clear hcm hcl e0;have h2:=GA m (by omega);by_cases h3:3<m
   ·have g:(3:Int)<(m:Int):=by omega
    clear a;go_enter func160,ntmps160
    go_wp2_with fail
    all_goals (go_ret3;exact⟨rfl,rfl⟩)
   ·have i:m % 2=0/\l≠0:=by
     by_cases c:m % 2=0
     ·refine⟨c,fun j=>a ⟨d,by omega,fun _=>j⟩⟩
     ·exact absurd ⟨d,by omega,fun h=>absurd h c⟩ a
    have g:decide ((3:Int)<(m:Int))=false:=by simp;omega
    have h4:(((m % 2:Nat):Int) != 0)=false:=by simp;omega
    have h5:((l:Int) != 0)=true:=by simp;omega
    rw[i.1] at h2;clear a;go_enter func160,ntmps160
    go_wp2_with fail
    all_goals (go_ret3;exact⟨rfl,rfl⟩)
theorem x7(w:World)(a b):∀j u,[a,b][j]? =some u->(w.alloc (.cells #[a,b] 5)).cell? ((⟨w.heap.size,0,none⟩:Addr).add j)=some u:=by
 intro j u c;match j,c with
 | 0,c=>simp at c;subst c;simp[Addr.add]
 | 1,c=>simp at c;subst c;simp[Addr.add]
 | (j+2),c=>simp at c
theorem tY(s:yB)(hs:s.size<=4096)(hf:jz s.data.toList)(w:World):
 Calls yP 160 #[sV s] w fun e w'=>e=rV (tV #[sV (str (bd s.data.toList)),bV (ft s.data.toList),iV .i64 0])/\yW w w':=by
 obtain⟨i0,A4,A7,A8,A9⟩:=Sf pt;have B5:=yu 0 (2*(s.size:Int)) (by omega) (by omega) (by omega);have U:s.data.toList.length=s.size:=by simp
 have B:=aa U;obtain⟨C7,C6,T⟩:=hf;have hp:0<s.size:=by
  rcases Nat.eq_zero_or_pos s.size with h|h
  ·rw[h] at U;exact absurd (Rm.1 U) C7
  ·exact h
 have e0:s.data.toList.getD 0 0=s[0]:=by rw[Q3,QV (by simpa using hp)];rfl
 rw[e0] at C6 T;have hd:=tj s[0];have ha:=pG s[0];have V:=sJ s[0];have C:Hid (bd s.data.toList=(if(hi s[0]).toNat % 2=1 then [lo s[0]] else [])++bZ (s.data.toList.drop 1)):=by unfold bd;rw[e0];rfl
 have B0:Hid (ft s.data.toList=decide (2<=(hi s[0]).toNat % 4)):=by unfold ft;rw[e0];rfl
 generalize hcm:(hi s[0]).toNat=m at*;clear hcm e0 U;have D0:decide ((4096:Int)<(s.size:Int))=false:=by simp;omega
 have C9:((s.size:Int) == 0)=false:=RW.2 (by omega);have D1:decide ((3:Int)<(m:Int))=false:=by simp;omega
 have h2:=GA m (by omega);have h22:=Qx m (by omega);have B3:(2*(s.size:Int)).toNat=2*s.size:=by omega
 by_cases ho:m % 2=1
 ·rw[ho] at h2;rw[QX ho] at C;clear T;go_enter func160,ntmps160
  go_upto_region 12 with fail
  have b:=uR w w.heap.size (2*s.size) (QU _) (by unfold maxLen;omega);have f:=(Q1 w.heap.size w).alloc (QU _) (.cells (madeCells #[iV .u8 0] (2*s.size)) 5);generalize hW:w.alloc (.cells (madeCells #[iV .u8 0] (2*s.size)) 5)=W1 at*;generalize hV:Value.slice (qA w.heap.size) 0 (2*s.size)=V1 at*;have l:=aa b;have a:=aa f;clear hW hV b f B5 B3;go_wp2_with (at_builtin;refine RG _ rfl (.tmp 40) (.tmp 42) 143 rfl w.heap.size 5 i0 (iV .u8 0) 1 1 underlying143 A4 A7 A8 A9 rfl (by decide) V1 0 (bI []) rfl (l.out.alloc _) ⟨W1.heap.size,0,none⟩ 1 1 [iV .u8 ((lo s[0]).toNat:Int)] rfl rfl (So _ _ _) ?c2 (by omega) ?c3 ?c4 ?c5 _ rfl ?c6)
  case c2=>intro u t;simp at t;subst t;rfl
  case c3=>unfold maxLen;omega
  case c4=>omega
  case c5=>have:=a.out.size;simp;omega
  intro g1 F W2 B6 B2 B9 C5;have B1:yW w W2:=(a.out.alloc a.out.size _).grown B2 (by have:=a.out.size;simp;omega) (fun k Q=>(l.out.lt k Q).1);have E:=aa B6;have D:=aa B1;clear B6 B2 B9 C5 B1 l a;go_wp2_with fail
  go_loopg [8,9] s.size (fun n v r wr=>∃j g cap:Nat,n=s.size - j/\j+1<=s.size/\r=iV .i64 ((j+1:Nat):Int)/\v=lV (qA g) (1+2*j) cap/\
   wr.ownsRow w.heap.size 5 1 (lV (qA g) (1+2*j) cap) (1+2*j) (bI ([lo s[0]]++bZ ((s.data.toList.drop 1).take j)))/\yW w wr)
  case atStart=>exact⟨0,g1,F,by omega,by omega,rfl,rfl,E.out,D.out⟩
  case round=>
   obtain⟨j,g,cap,L,hj,rfl,rfl,b,f⟩:=hrel;have X:=aa L;clear L E D;obtain⟨p,q⟩:=yX (j+1)
   obtain⟨N,o⟩:=yX (1+2*j)
   have d:=aa q;have x:=aa o;rw[<-q,<-o];rw[<-q] at hj;rw[<-o] at b;clear q o;by_cases C4:p<s.size
   ·have C0:=tj s[p];have B8:=pG s[p];have HS:Hid (bZ ((s.data.toList.drop 1).take (j+1))=bZ ((s.data.toList.drop 1).take j)++[hi s[p],lo s[p]]):=by
     have A:=d.out;have V:j<(s.data.toList.drop 1).length:=by have:=B.out;rw[Q8];omega
     rw[RU V,vM];congr 1;have e0:(s.data.toList.drop 1)[j]=s[p]:=by rw[List.getElem_drop];subst A;simp only[Nat.add_comm 1 j];rfl
     rw[e0];rfl
    have l:=aa b;have a:=aa f;have C1:N<8192:=by have:=d.out;have:=x.out;omega
    have C8:(p:Int)<(s.size:Int):=by omega
    clear b f;generalize hi s[p]=cA at*;generalize lo s[p]=cB at*;generalize hks:bI ([lo s[0]]++bZ ((s.data.toList.drop 1).take j))=ks at*;have Y:=aa hks;clear hks;go_wp2_with fail
    go_region_law (refine step_append_lies _ rfl (.tmp 50) (.tmp 59) 143 rfl w.heap.size 5 i0 (iV .u8 0) 1 1 underlying143 A4 A7 A8 A9 rfl (by decide) (lV (qA g) N cap) N ks (by simp[Act.eval]) (l.out.drew.alloc _) ⟨wr.heap.size,0,none⟩ 2 2 [iV .u8 (cA.toNat:Int),iV .u8 (cB.toNat:Int)] (by simp[Act.eval]) rfl (x7 _ _ _) (by intro u t;simp at t;rcases t with rfl|rfl<;>rfl) (by omega) (by unfold maxLen;omega) (by omega) (by have:=a.out.size;simp;omega) _ rfl ?_;intro g2 G y S M A0 A6)
    all_goals
     have J:yW w y:=(a.out.drew.alloc a.out.size _).grown M (by have:=a.out.size;simp;omega) (fun k Q=>(l.out.lt k Q).1);have Z:=aa S;have W:=aa J;clear S M A0 A6 J;go_wp2_with fail
     go_roundg (s.size - (j+1))
     case measure=>have:=X.out;have:=d.out;omega
     case rel=>
      have I:=x.out;refine⟨j+1,g2,G,rfl,by have:=d.out;omega,by have:=d.out;rw[show j+1+1=p+1 by omega];go_num,by rw[show 1+2*(j+1)=N+2 by omega],?_,W.out⟩;have e:bI ([lo s[0]]++bZ ((s.data.toList.drop 1).take (j+1)))=ks++[iV .u8 (cA.toNat:Int),iV .u8 (cB.toNat:Int)]:=by
       rw[HS.out,<-Y.out];simp[bI]
      rw[e,show 1+2*(j+1)=N+2 by omega];exact Z.out
   ·have a:=aa f;have K:[lo s[0]]++bZ ((s.data.toList.drop 1).take j)=bd s.data.toList:=by
     have A:=d.out;have R:=B.out;rw[C.out,RI (by rw[Q8];omega)]
    have z:(bd s.data.toList).length=N:=by
     have A:=d.out;have R:=B.out;have I:=x.out;rw[C.out,Q4,ow,Q8,R,I];simp;omega
    have A2:=St (P:=yP) wr 143 5 underlying143 underlying5 g 0 N cap ((bd s.data.toList).map (fun c=>(c.toNat:Int))) (by
     rw[Rr,z]) (fun i O=>by
     have:=b.cellAt i (by rw[Nat.mul_one];exact O);rw[R5,this,K];have A5:i<(bd s.data.toList).length:=by rw[z];exact O
     simp[bI,List.getD,QV A5]) 9 underlying9
    rw[nJ] at A2;have B7:¬((p:Int)<(s.size:Int)):=by omega
    have C2:(((m:Int) / 2*2) != 0)=ft s.data.toList:=by
     rw[B0.out];by_cases H:2<=m % 4
     ·rw[Ra H,bne_iff_ne];omega
     ·rw[Q9 H];simp;omega
    generalize hlfU:ft s.data.toList=lf at*;clear b f K z;go_wp2_with fail
    go_ret3
    exact⟨rfl,a.out⟩
 ·have B4:m % 2=0:=by omega
  rw[B4] at h2;rw[QW ho] at C;have C3:=T B4;rw[C3] at ha;clear T;go_enter func160,ntmps160
  go_upto_region 13 with fail
  have b:=uR w w.heap.size (2*s.size) (QU _) (by unfold maxLen;omega);have f:=(Q1 w.heap.size w).alloc (QU _) (.cells (madeCells #[iV .u8 0] (2*s.size)) 5);generalize hW:w.alloc (.cells (madeCells #[iV .u8 0] (2*s.size)) 5)=W1 at*;obtain⟨g1,A3⟩:=yX w.heap.size
  obtain⟨F,A1⟩:∃c,c=2*s.size:=⟨_,rfl⟩
  have E:Hid (W1.ownsRow w.heap.size 5 1 (lV (qA g1) 0 F) 0 (bI [])):=by rw[A3,A1];exact b
  have D:=aa f;rw[<-A1,<-A3];clear hW b f B5 B3 A3 A1;go_wp2_with fail
  go_loopg [8,9] s.size (fun n v r wr=>∃j g cap:Nat,n=s.size - j/\j+1<=s.size/\r=iV .i64 ((j+1:Nat):Int)/\v=lV (qA g) (0+2*j) cap/\
   wr.ownsRow w.heap.size 5 1 (lV (qA g) (0+2*j) cap) (0+2*j) (bI ([]++bZ ((s.data.toList.drop 1).take j)))/\yW w wr)
  case atStart=>exact⟨0,g1,F,by omega,by omega,rfl,rfl,E.out,D.out⟩
  case round=>
   obtain⟨j,g,cap,L,hj,rfl,rfl,b,f⟩:=hrel;have X:=aa L;clear L E D;obtain⟨p,q⟩:=yX (j+1)
   obtain⟨N,o⟩:=yX (0+2*j)
   have d:=aa q;have x:=aa o;rw[<-q,<-o];rw[<-q] at hj;rw[<-o] at b;clear q o;by_cases C4:p<s.size
   ·have C0:=tj s[p];have B8:=pG s[p];have HS:Hid (bZ ((s.data.toList.drop 1).take (j+1))=bZ ((s.data.toList.drop 1).take j)++[hi s[p],lo s[p]]):=by
     have A:=d.out;have V:j<(s.data.toList.drop 1).length:=by have:=B.out;rw[Q8];omega
     rw[RU V,vM];congr 1;have e0:(s.data.toList.drop 1)[j]=s[p]:=by rw[List.getElem_drop];subst A;simp only[Nat.add_comm 1 j];rfl
     rw[e0];rfl
    have l:=aa b;have a:=aa f;have C1:N<8192:=by have:=d.out;have:=x.out;omega
    have C8:(p:Int)<(s.size:Int):=by omega
    clear b f;generalize hi s[p]=cA at*;generalize lo s[p]=cB at*;generalize hks:bI ([]++bZ ((s.data.toList.drop 1).take j))=ks at*;have Y:=aa hks;clear hks;go_wp2_with fail
    go_region_law (refine step_append_lies _ rfl (.tmp 50) (.tmp 59) 143 rfl w.heap.size 5 i0 (iV .u8 0) 1 1 underlying143 A4 A7 A8 A9 rfl (by decide) (lV (qA g) N cap) N ks (by simp[Act.eval]) (l.out.drew.alloc _) ⟨wr.heap.size,0,none⟩ 2 2 [iV .u8 (cA.toNat:Int),iV .u8 (cB.toNat:Int)] (by simp[Act.eval]) rfl (x7 _ _ _) (by intro u t;simp at t;rcases t with rfl|rfl<;>rfl) (by omega) (by unfold maxLen;omega) (by omega) (by have:=a.out.size;simp;omega) _ rfl ?_;intro g2 G y S M A0 A6)
    all_goals
     have J:yW w y:=(a.out.drew.alloc a.out.size _).grown M (by have:=a.out.size;simp;omega) (fun k Q=>(l.out.lt k Q).1);have Z:=aa S;have W:=aa J;clear S M A0 A6 J;go_wp2_with fail
     go_roundg (s.size - (j+1))
     case measure=>have:=X.out;have:=d.out;omega
     case rel=>
      have I:=x.out;refine⟨j+1,g2,G,rfl,by have:=d.out;omega,by have:=d.out;rw[show j+1+1=p+1 by omega];go_num,by rw[show 0+2*(j+1)=N+2 by omega],?_,W.out⟩;have e:bI ([]++bZ ((s.data.toList.drop 1).take (j+1)))=ks++[iV .u8 (cA.toNat:Int),iV .u8 (cB.toNat:Int)]:=by
       rw[HS.out,<-Y.out];simp[bI]
      rw[e,show 0+2*(j+1)=N+2 by omega];exact Z.out
   ·have a:=aa f;have K:[]++bZ ((s.data.toList.drop 1).take j)=bd s.data.toList:=by
     have A:=d.out;have R:=B.out;rw[C.out,RI (by rw[Q8];omega)]
    have z:(bd s.data.toList).length=N:=by
     have A:=d.out;have R:=B.out;have I:=x.out;rw[C.out,Q4,ow,Q8,R,I];simp;omega
    have A2:=St (P:=yP) wr 143 5 underlying143 underlying5 g 0 N cap ((bd s.data.toList).map (fun c=>(c.toNat:Int))) (by
     rw[Rr,z]) (fun i O=>by
     have:=b.cellAt i (by rw[Nat.mul_one];exact O);rw[R5,this,K];have A5:i<(bd s.data.toList).length:=by rw[z];exact O
     simp[bI,List.getD,QV A5]) 9 underlying9
    rw[nJ] at A2;have B7:¬((p:Int)<(s.size:Int)):=by omega
    have C2:(((m:Int) / 2*2) != 0)=ft s.data.toList:=by
     rw[B0.out];by_cases H:2<=m % 4
     ·rw[Ra H,bne_iff_ne];omega
     ·rw[Q9 H];simp;omega
    generalize hlfU:ft s.data.toList=lf at*;clear b f K z;go_wp2_with fail
    go_ret3
    exact⟨rfl,a.out⟩
theorem jc(s:yB):str s.data.toList=s:=by unfold str;simp
theorem dV(l):(str l).data.toList=l:=by unfold str;simp
theorem aH(l):(str l).size=l.length:=by unfold str;simp[ByteArray.size]
theorem gH(q:yB):(q.toList.isEmpty=true)=(q.size=0):=by
 rw[Lib.toList_data q,List.isEmpty_iff];have a:q.data.toList.length=q.size:=by simp
 rw[<-a,Rm]
theorem gT(q:yB):(q.toList.isEmpty=false)=¬(q.size=0):=by
 rw[<-gH,Bool.not_eq_true]
theorem vU(W:World)(x:Int):(convert 143 9 (lV (qA W.heap.size) 1 1)).run yP (W.alloc (.cells #[iV .u8 x] 5))=.ok (sV (strOfNums [x])) (W.alloc (.cells #[iV .u8 x] 5)):=
 St (P:=yP) _ 143 5 underlying143 underlying5 W.heap.size 0 1 1 [x] rfl (fun i hi=>by
  have:i=0:=by omega
  subst this
  simp) 9 underlying9
theorem sx(n:Nat)(h:n<256):strOfNums [(n:Int)]=str [UInt8.ofNat n]:=by
 have e:([(n:Int)]:List Int)=[UInt8.ofNat n].map (fun c=>(c.toNat:Int)):=by
  simp only[List.map_cons,List.map_nil,RH];congr 1;omega
 rw[e,nJ]
theorem qb(a b):str a++str b=str (a++b):=by
 have h:(str a++str b).data.toList=(str (a++b)).data.toList:=by simp[dV]
 rw[<-jc (str a++str b),h,jc]
theorem we(s:yB)(w:World):
 Calls yP 144 #[sV s] w fun e w'=>e=rV (bV (fB s.data.toList))/\w'=w:=by
 have b:s.data.toList.length=s.size:=by simp
 by_cases h1:s.size=1
 ·have d:((s.size:Int) == 1)=true:=beq_iff_eq.2 (by omega);have f:0<s.size:=by omega
  have e0:s.data.toList.getD 0 0=s[0]:=by rw[Q3,QV (by simpa using f)];rfl
  have a:fB s.data.toList=decide (((s[0]).toNat:Int)<128):=by
   unfold fB;rw[b,e0,Ra h1,Bool.true_and];by_cases h:(s[0]).toNat<128
   ·rw[Ra h,Ra (by omega)]
   ·rw[Q9 h,Q9 (by omega)]
  have c:=aa a;clear a b e0 h1;go_enter func144,ntmps144
  go_wp2
  go_ret
  exact⟨by rw[c.out];rfl,rfl⟩
 ·have d:((s.size:Int) == 1)=false:=RW.2 (by omega);have a:fB s.data.toList=false:=by
   unfold fB;rw[b,Q9 h1];rfl
  have c:=aa a;clear a b h1;go_enter func144,ntmps144
  go_wp2
  go_ret
  exact⟨by rw[c.out];rfl,rfl⟩
theorem PG(n:Nat)(v:n<140737488355329)(w:World):
 Calls yP 148 #[iV .i64 n] w fun e w'=>e=rV (sV (str (cT 8 n)))/\yW w w':=by
 have t:=fun W x=>vU W x
 go_enter func148,ntmps148
 go_wp2_with fail
 go_loopg [0,3] n (fun g a o wr=>∃(m f:Nat) (b:yB),g=m/\m<=n/\a=iV .i64 m/\o=sV b/\Hid (cT 8 n=cT f m++b.data.toList/\m<256 ^ f/\f<=8/\b.size+f=8)/\yW w wr)
 case atStart=>exact⟨n,8,ByteArray.empty,rfl,QU _,rfl,rfl,⟨by simp,by omega,QU _,rfl⟩,Q1 _ _⟩
 case round=>
  obtain⟨m,f,b,j,u,rfl,rfl,d,h⟩:=hrel;have p:=aa j;have c:=aa h;have z:b.size<=8:=by have:=d.out.2.2.2;omega
  clear j h;by_cases h0:0<m
  ·have A:IntKind.u8.wrap ((m:Int) % 256)=((m % 256:Nat):Int):=by rw[SB];omega
   have s:(0:Int)<(m:Int):=by omega
   have k:=sx (m % 256) (by omega);have y:(strOfNums [(m:Int) % 256]).size=1:=by rw[strOfNums_size];rfl
   have q:=aa k;clear k;go_wp2_with fail
   go_roundg (m / 256)
   case measure=>have:=p.out;omega
   case rel=>
    obtain⟨d1,d2,d3,d4⟩:=d.out;have e:strOfNums [(m:Int) % 256]++b=str (UInt8.ofNat (m % 256)::b.data.toList):=by
     have e1:((m:Int) % 256)=((m % 256:Nat):Int):=by omega
     rw[e1,q.out];conv=>lhs;rw[<-jc b]
     rw[qb];rfl
    cases f with
    |zero=>simp at d2;omega
    |succ f=>
     refine⟨m / 256,f,strOfNums [(m:Int) % 256]++b,rfl,by omega,by go_num,rfl,⟨?_,by rw[Nat.pow_succ] at d2;omega,by omega,?_⟩,c.out.alloc c.out.size _⟩
     ·rw[d1,e,dV];conv=>lhs;unfold cT
      rw[QW (by omega),Rn];rfl
     ·rw[e,aH];simp;omega
  ·have r:m=0:=by omega
   subst r;have i:str (cT 8 n)=b:=by rw[d.out.1,vQ,SF,jc]
   have l:=aa i;clear i;go_wp2_with fail
   go_ret
   exact⟨by rw[l.out];rfl,c.out⟩
theorem FR(n:Nat):(cT 8 n).length<=8:=vR 8 n
theorem zc(a n:Nat):(cX a n).length<=9:=by
 unfold cX;split
 ·simp
 ·have:=FR n;simp;omega
theorem EM(a n:Nat)(m:a<=192)(i:n<140737488355329)(w:World):
 Calls yP 162 #[iV .i64 a,iV .i64 n] w fun e w'=>e=rV (sV (str (cX a n)))/\yW w w':=by
 have k:=fun W x=>vU W x
 by_cases h:n<=55
 ·have g:decide ((n:Int)<=55)=true:=by simp;omega
  have j:IntKind.u8.wrap ((a:Int)+(n:Int))=((a+n:Nat):Int):=by rw[SB];omega
  have b:str (cX a n)=strOfNums [((a+n:Nat):Int)]:=by
   unfold cX;rw[QX h,sx _ (by omega)]
  have c:=aa b;clear b;go_enter func162,ntmps162
  go_wp2_with fail
  go_ret
  refine⟨by rw[c.out];rfl,(Q1 _ _).alloc (QU _) _⟩
 ·have g:decide ((n:Int)<=55)=false:=by simp;omega
  have l:=FR n;have p:(str (cT 8 n)).size=(cT 8 n).length:=aH _;have b:str (cX a n)=strOfNums [((a+55+(cT 8 n).length:Nat):Int)]++str (cT 8 n):=by
   unfold cX;rw[QW h,sx _ (by omega),qb];rfl
  have c:=aa b;clear b;go_enter func162,ntmps162
  go_wp2_with fail
  refine(PG n i _).mono ?_;rintro e w1 ⟨rfl,d⟩;have f:=aa d;clear d;generalize str (cT 8 n)=D at*;generalize hL:(cT 8 n).length=L at*;have j:IntKind.u8.wrap ((a:Int)+55+(L:Int))=((a+55+L:Nat):Int):=by rw[SB];omega
  have o:∀x:Int,(strOfNums [x]).size=1:=fun x=>by rw[strOfNums_size];rfl
  go_wp2_with fail
  go_ret
  exact⟨by rw[c.out];rfl,f.out.alloc f.out.size _⟩
def lH(a:Nat)(l:yL):Bool:=decide ((cX a l.length).length+l.length<=4096)
theorem EG(a:Nat)(s:yB)(i:a<=192)(j:s.size<140737488355329)(w:World):
 Calls yP 158 #[iV .i64 a,sV s] w fun e w'=>e=rV (tV #[sV (if lH a s.data.toList then str (cX a s.size++s.data.toList) else ByteArray.empty),bV (lH a s.data.toList)])/\yW w w':=by
 have d:s.data.toList.length=s.size:=by simp
 have m:=zc a s.size;have n:(str (cX a s.size)).size=(cX a s.size).length:=aH _;have g:Hid (str (cX a s.size++s.data.toList)=str (cX a s.size)++s):=by
  conv=>rhs;rw[<-jc s]
  exact(qb _ _).symm
 by_cases h:(cX a s.size).length+s.size<=4096
 ·have c:lH a s.data.toList=true:=by unfold lH;rw[d];exact Ra h
  rw[c,QX rfl,g.out];have l:decide ((4096:Int)<((cX a s.size).length:Int)+(s.size:Int))=false:=by simp;omega
  clear d g c;go_enter func158,ntmps158
  go_wp2_with fail
  refine(EM a s.size i j _).mono ?_;rintro e w1 ⟨rfl,b⟩;have f:=aa b;clear b;generalize hD:str (cX a s.size)=D at*;have k:=aa hD;clear hD;generalize (cX a s.size).length=L at*;go_wp2_with fail
  go_ret2
  exact⟨by rw[k.out];rfl,f.out⟩
 ·have c:lH a s.data.toList=false:=by unfold lH;rw[d];exact Q9 h
  rw[c];have l:decide ((4096:Int)<((cX a s.size).length:Int)+(s.size:Int))=true:=by simp;omega
  clear d g c;go_enter func158,ntmps158
  go_wp2_with fail
  refine(EM a s.size i j _).mono ?_;rintro e w1 ⟨rfl,b⟩;have f:=aa b;clear b;generalize str (cX a s.size)=D at*;generalize (cX a s.size).length=L at*;go_wp2_with fail
  go_ret2
  exact⟨rfl,f.out⟩
structure gC(w:World)(S:Nat->Prop)(k:Value)(n:Nat)(xs:List Value):Prop where
 len:xs.length=3*n
 oa:(n=0/\∃a c,k=lV a 0 c)\/∃b o c,k=lV (some ⟨b,o,none⟩) n c/\S b/\∀j,j<3*n->w.cell? ⟨b,o+j,none⟩=xs[j]?
def tN(k:Value):Prop:=∃a n c,k=lV a n c
def aY:Nat->World->(Nat->Prop)->List Value->Tree->Prop
 | 0,_,_,cs,x=>∃t k,cs=[bV false,sV t,k]/\x=ay t.data.toList/\t.size<140737488355329/\tN k
 |d+1,w,S,cs,x=>(∃t k,cs=[bV false,sV t,k]/\x=ay t.data.toList/\t.size<140737488355329/\tN k)\/
  (∃t k ks xs,cs=[bV true,sV t,k]/\x=bH ks/\gC w S k ks.length xs/\ks.length<140737488355329/\∀i,i<ks.length->aY d w S ((xs.drop (3*i)).take 3) (ks.getD i (ay [])))
theorem mi(d:Nat)(w S)(t:yB)(k)(h:t.size<140737488355329)(a:tN k:=by exact⟨_,_,_,rfl⟩):aY d w S [bV false,sV t,k] (ay t.data.toList):=by
 cases d with
 |zero=>exact⟨t,k,rfl,rfl,h,a⟩
 |succ d=>exact .inl ⟨t,k,rfl,rfl,h,a⟩
theorem vG(d:Nat)(w S)(t:yB)(k)(ks:List Tree)(a:List Value)(h:gC w S k ks.length a)(b:ks.length<140737488355329)(c:∀i,i<ks.length->aY d w S ((a.drop (3*i)).take 3) (ks.getD i (ay []))):
 aY (d+1) w S [bV true,sV t,k] (bH ks):=.inr ⟨t,k,ks,a,rfl,rfl,h,b,c⟩
theorem gC.move{w w':World}{S S' k n d}(h:gC w S k n d)(f:∀b,S b->b<w.heap.size->S' b/\w'.heap[b]? =w.heap[b]?):gC w' S' k n d:=by
 refine⟨h.len,?_⟩;rcases h.oa with h0|⟨b,o,c,rfl,g,e⟩
 ·exact .inl h0
 ·by_cases m:n=0
  ·subst m;exact .inl ⟨rfl,_,_,rfl⟩
  ·have h0:=e 0 (by omega);have p:d[0]? =some (d[0]'(by rw[h.len];omega)):=QV _;rw[p] at h0;have l:b<w.heap.size:=Rj w _ h0;obtain⟨s1,s2⟩:=f b g l;exact .inr ⟨b,o,c,rfl,s1,fun j i=>(Rd (w:=w) (a:=⟨b,o+j,none⟩) s2).trans (e j i)⟩
theorem aY.move{w w':World}{S S'}(a:∀b,S b->b<w.heap.size->S' b/\w'.heap[b]? =w.heap[b]?):∀(d:Nat) (cs:List Value) (x:Tree),aY d w S cs x->aY d w' S' cs x:=by
 intro d;induction d with
 |zero=>intro cs x h;exact h
 |succ d ih=>
  intro cs x h;rcases h with h|⟨t,k,ks,g,rfl,rfl,f,c,e⟩
  ·exact .inl h
  ·exact .inr ⟨t,k,ks,g,rfl,rfl,f.move a,c,fun i hi=>ih _ _ (e i hi)⟩
theorem aY.below{w w' S d cs x}(h:aY d w S cs x)(k:yW w w'):aY d w' S cs x:=
 aY.move (fun b a c=>⟨a,k.block b c⟩) d cs x h
theorem gC.below{w w' S k n a}(h:gC w S k n a)(b:yW w w'):gC w' S k n a:=
 h.move (fun c d e=>⟨d,b.block c e⟩)
def fg(c:yL):Bool:=decide (c.length<=4096)
def gQ(c:yL):yB:=if fg c then str c else ByteArray.empty
theorem Fx(l:Bool)(t):lH (fu l) t=fg (cX (fu l) t.length++t):=by unfold lH fg;rw[Q4]
theorem su(c)(h:fg c=true):gQ c=str c:=by unfold gQ;rw[h];rfl
def iq(d:Nat)(ks:List Tree)(i:Nat):yL:=((ks.take i).map (bm d)).flatten
theorem Pf(d:Nat)(ks:List Tree)(i:Nat)(h:i<ks.length):iq d ks (i+1)=iq d ks i++bm d (ks.getD i (ay [])):=by
 unfold iq;have e:ks.getD i (ay [])=ks[i]:=by simp[List.getD,QV h]
 rw[RU h,e,R9,List.flatten_append];congr 1;simp only[List.map_cons,List.map_nil,List.flatten_cons,List.flatten_nil,Rz]
theorem Ph(d:Nat)(ks:List Tree)(i:Nat)(h:ks.length<=i):iq d ks i=(ks.map (bm d)).flatten:=by unfold iq;rw[RI h]
theorem Pg(d:Nat)(ks:List Tree)(i:Nat):(iq d ks i).length<=((ks.map (bm d)).flatten).length:=by
 have e:(ks.map (bm d)).flatten=iq d ks i++((ks.drop i).map (bm d)).flatten:=by
  unfold iq;rw[<-List.flatten_append,<-R9,Su]
 rw[e,Q4];omega
def kq(l:Bool)(f t:Nat):Value:=gV #[bV l,iV .i64 f,iV .i64 t]
theorem uu(s:yB)(l:Bool)(f n:Nat)(d:s.size<=4096)(a:f<=s.size)(c:s.size - f<n)(w:World):
 Calls yP 155 #[sV s,bV l,iV .i64 f,iV .u64 n] w fun e w'=>e=rV (tV #[kq false 0 0,iV .i64 5])/\yW w w':=by
 have g:IntKind.u64.wrap ((s.size:Int) - (f:Int))=(s.size:Int) - (f:Int):=by rw[IntKind.wrap_u64];omega
 have b:decide ((s.size:Int) - (f:Int)<(n:Int))=true:=by simp;omega
 go_enter func155,ntmps155
 go_wp2
 exact Rf (v:=tV #[gV #[bV false,iV .i64 0,iV .i64 0],iV .i64 5]) (by simp[results,results155,go_sem]) rfl ⟨rfl,(Q1 _ _).alloc (QU _) _⟩
theorem ur(s:yB)(l:Bool)(f n:Nat)(h:s.size<=4096)(b:f<=s.size)(d:¬s.size - f<n)(w:World):
 Calls yP 155 #[sV s,bV l,iV .i64 f,iV .u64 n] w fun e w'=>e=rV (tV #[kq l f (f+n),iV .i64 0])/\yW w w':=by
 have i:IntKind.u64.wrap ((s.size:Int) - (f:Int))=(s.size:Int) - (f:Int):=by rw[IntKind.wrap_u64];omega
 have c:decide ((s.size:Int) - (f:Int)<(n:Int))=false:=by simp;omega
 have g:n<=4096:=by omega
 have j:IntKind.i64.wrap (n:Int)=(n:Int):=by rw[RE];omega
 have a:Hid (((f+n:Nat):Int)=(f:Int)+(n:Int)):=by exact Int.natCast_add f n
 go_enter func155,ntmps155
 go_wp2
 exact Rf (v:=tV #[gV #[bV l,iV .i64 f,iV .i64 ((f:Int)+(n:Int))],iV .i64 0]) (by simp[results,results155,go_sem]) rfl ⟨by unfold kq;rw[a.out],(Q1 _ _).alloc (QU _) _⟩
theorem LK(m c:Nat)(a:m*256<18446744073709551616)(b:c<256):bits .or .u64 (IntKind.u64.wrap ((m:Int)*256)) (c:Int)=((m*256+c:Nat):Int):=by
 have e:IntKind.u64.wrap ((m:Int)*256)=((m*256:Nat):Int):=by rw[IntKind.wrap_u64];omega
 rw[e,u64_or_nat _ _ a (by omega),nat_join 8 (m*256) c (by omega) (by omega)]
theorem Qn(s:yB)(k:Nat)(h:k<s.size):be (s.data.toList.take (k+1))=be (s.data.toList.take k)*256+(s[k]).toNat:=by
 have e:s.data.toList.take (k+1)=s.data.toList.take k++[s[k]]:=by
  rw[RU (by simpa using h)];rfl
 rw[e,zP]
theorem KH(k:Nat)(h:k<=7):256 ^ k<=72057594037927936:=by
 have:256 ^ k<=256 ^ 7:=Nat.pow_le_pow_right (by omega) h;exact this
def fs(s:yL)(n:Nat):Nat:=if s.length<n then 5 else if(s.getD 0 0).toNat=0\/be (s.take n)<=55 then 7 else 0
def lj(s:yL)(n:Nat):Nat:=if fs s n=0 then be (s.take n) else 0
theorem DV(s:yB)(n:Nat)(O:s.size<=4096)(h1:1<=n)(h8:n<=8)(w:World):
 Calls yP 156 #[sV s,iV .i64 n] w fun e w'=>e=rV (tV #[iV .u64 (lj s.data.toList n),iV .i64 (fs s.data.toList n)])/\w'=w:=by
 have f:s.data.toList.length=s.size:=by simp
 by_cases v:s.size<n
 ·have a:fs s.data.toList n=5:=by unfold fs;rw[f,QX v]
  have h:lj s.data.toList n=0:=by unfold lj;rw[a];rfl
  have b:Hid (fs s.data.toList n=5/\lj s.data.toList n=0):=⟨a,h⟩
  have F:decide ((s.size:Int)<(n:Int))=true:=by simp;omega
  clear a h f;go_enter func156,ntmps156
  go_wp2_with fail
  go_ret2
  exact⟨by rw[b.out.1,b.out.2];rfl,rfl⟩
 ·have F:decide ((s.size:Int)<(n:Int))=false:=by simp;omega
  have G:0<s.size:=by omega
  have j:=aa f;clear f;go_enter func156,ntmps156
  go_wp2_with fail
  go_loopg [6,7] n (fun g z r wr=>wr=w/\∃k:Nat,g=n - k/\k<=n/\r=iV .i64 k/\z=iV .u64 (be (s.data.toList.take k)))
  case atStart=>exact⟨rfl,0,rfl,by omega,rfl,rfl⟩
  case round=>
   obtain⟨I,k,t,L,rfl,rfl⟩:=hrel;subst I;have x:=aa t;clear t;by_cases N:k<n
   ·have E:k<s.size:=by omega
    have A:=aa (Qn s k E);have o:=Qp (s.data.toList.take k);have H:=KH k (by omega);have u:(s.data.toList.take k).length=k:=by rw[Rs,j.out];omega
    rw[u] at o;have C:be (s.data.toList.take k)<72057594037927936:=by omega
    clear o H u;generalize be (s.data.toList.take k)=m at*;have p:(s[k]).toNat<256:=(s[k]).toNat_lt;have h:=LK m (s[k]).toNat (by omega) p;have K:IntKind.u64.wrap ((s[k]).toNat:Int)=((s[k]).toNat:Int):=by rw[IntKind.wrap_u64];omega
    obtain⟨M,l⟩:=yX (m*256+(s[k]).toNat)
    rw[<-l] at h;have y:=aa l;clear l C p;have D:(k:Int)<(n:Int):=by omega
    go_wp2_with fail
    go_roundg (n - (k+1))
    case measure=>have:=x.out;omega
    case rel=>exact⟨rfl,k+1,rfl,by omega,by go_num,by rw[A.out,<-y.out]⟩
   ·have:k=n:=by omega
    subst this;have e0:s.data.toList.getD 0 0=s[0]:=by rw[Q3,QV (by rw[j.out];exact G)];rfl
    have q:fs s.data.toList k=if(s[0]).toNat=0\/be (s.data.toList.take k)<=55 then 7 else 0:=by
     unfold fs;rw[j.out,QW v,e0]
    have D:¬((k:Int)<(k:Int)):=by omega
    have c:=aa q;have d:Hid (lj s.data.toList k=if fs s.data.toList k=0 then be (s.data.toList.take k) else 0):=rfl;clear q e0;generalize be (s.data.toList.take k)=m at*;by_cases i:(s[0]).toNat=0
    ·have J:(((s[0]).toNat:Int) == 0)=true:=beq_iff_eq.2 (by omega);have a:fs s.data.toList k=7:=by rw[c.out,QX (.inl i)]
     have b:Hid (fs s.data.toList k=7/\lj s.data.toList k=0):=⟨a,by rw[d.out,a];rfl⟩
     clear a c d i;go_wp2_with fail
     go_ret2
     exact⟨by rw[b.out.1,b.out.2];rfl,rfl⟩
    ·have J:(((s[0]).toNat:Int) == 0)=false:=RW.2 (by omega);by_cases h55:m<=55
     ·have B:decide ((m:Int)<=55)=true:=by simp;omega
      have a:fs s.data.toList k=7:=by rw[c.out,QX (.inr h55)]
      have b:Hid (fs s.data.toList k=7/\lj s.data.toList k=0):=⟨a,by rw[d.out,a];rfl⟩
      clear a c d i;go_wp2_with fail
      go_ret2
      exact⟨by rw[b.out.1,b.out.2];rfl,rfl⟩
     ·have B:decide ((m:Int)<=55)=false:=by simp;omega
      have a:fs s.data.toList k=0:=by rw[c.out,QW (by omega)]
      have b:Hid (fs s.data.toList k=0/\lj s.data.toList k=m):=⟨a,by rw[d.out,a];rfl⟩
      clear a c d i;go_wp2_with fail
      go_ret2
      exact⟨by rw[b.out.1,b.out.2];rfl,rfl⟩
def OF:Except Nat (Bool×Nat×Nat)->Value
 | .error _=>kq false 0 0
 | .ok (l,f,n)=>kq l f (f+n)
def OE:Except Nat (Bool×Nat×Nat)->Nat
 | .error e=>e
 | .ok _=>0
theorem rf{W w1:World}(a:yW W w1):(∀b o,b<W.heap.size->w1.cell? ⟨b,o,none⟩=W.cell? ⟨b,o,none⟩)/\(∀b o,b<W.heap.size->w1.frozen? ⟨b,o,none⟩=W.frozen? ⟨b,o,none⟩):=
 ⟨fun b o h=>a.cell (p:=⟨b,o,none⟩) h,fun b o h=>a.frozen (p:=⟨b,o,none⟩) h⟩
theorem fV{w w1:World}{x y z T}(a:Below (w.alloc (.cells #[x,y,z] T)).heap.size (w.alloc (.cells #[x,y,z] T)) w1):
 w1.cell? ⟨w.heap.size,0,none⟩=some x/\w1.cell? ⟨w.heap.size,1,none⟩=some y/\w1.cell? ⟨w.heap.size,2,none⟩=some z/\w1.frozen? ⟨w.heap.size,0,none⟩=false/\w1.frozen? ⟨w.heap.size,1,none⟩=false/\w1.frozen? ⟨w.heap.size,2,none⟩=false:=by
 obtain⟨h1,h2⟩:=rf a;refine⟨?_,?_,?_,?_,?_,?_⟩
 ·rw[h1 _ _ (by simp)];simp
 ·rw[h1 _ _ (by simp)];simp
 ·rw[h1 _ _ (by simp)];simp
 ·rw[h2 _ _ (by simp)];simp
 ·rw[h2 _ _ (by simp)];simp
 ·rw[h2 _ _ (by simp)];simp
theorem FJ(s:yB):(s.extract 1 s.size).data.toList=s.data.toList.drop 1:=by
 rw[Lib.extract_data,RI (by simp)]
theorem EJ(s:yL)(h:s.length=0):eR s=.error 5:=by unfold eR;rw[QX h]
theorem EL(s:yL)(h:s.length≠0)(c:Nat)(a:(s.getD 0 0).toNat=c)(h1:c<128):eR s=.ok (false,0,1):=by
 unfold eR;rw[QW h,a,QX h1]
theorem zd(s:yL)(h:s.length≠0)(c base:Nat)(b:(s.getD 0 0).toNat=c)(h1:¬c<128)(a:base=if 192<=c then 192 else 128)(h2:c - base<=55):eR s=jQ s (decide (192<=c)) 1 (c - base):=by
 unfold eR;rw[QW h,b,QW h1,<-a,QX h2]
theorem zf(s:yL)(h:s.length≠0)(c base:Nat)(e:(s.getD 0 0).toNat=c)(h1:¬c<128)(d:base=if 192<=c then 192 else 128)(h2:¬c - base<=55):
 eR s=if fs (s.drop 1) (c - base - 55)=0 then jQ s (decide (192<=c)) (1+(c - base) - 55) (lj (s.drop 1) (c - base - 55)) else .error (fs (s.drop 1) (c - base - 55)):=by
 have e1:(s.drop 1).getD 0 0=s.getD 1 0:=by rw[Q3,Sw,Q3]
 have a:fs (s.drop 1) (c - base - 55)=if s.length - 1<c - base - 55 then 5 else if(s.getD 1 0).toNat=0\/be ((s.drop 1).take (c - base - 55))<=55 then 7 else 0:=by
  unfold fs;rw[Q8,e1]
 have b:lj (s.drop 1) (c - base - 55)=if fs (s.drop 1) (c - base - 55)=0 then be ((s.drop 1).take (c - base - 55)) else 0:=rfl;unfold eR;rw[QW h,e,QW h1,<-d,QW h2];by_cases h3:s.length - 1<c - base - 55
 ·rw[QX h3];rw[QX h3] at a;rw[a];rfl
 ·rw[QW h3];rw[QW h3] at a;by_cases h4:(s.getD 1 0).toNat=0\/be ((s.drop 1).take (c - base - 55))<=55
  ·rw[QX h4];rw[QX h4] at a;rw[a];rfl
  ·rw[QW h4];rw[QW h4] at a;rw[b,a,QX rfl,QX rfl]
theorem OB(s:yB)(A:s.size<=4096)(w:World):
 Calls yP 143 #[sV s] w fun e w'=>e=rV (tV #[OF (eR s.data.toList),iV .i64 (OE (eR s.data.toList))])/\yW w w':=by
 have d:s.data.toList.length=s.size:=by simp
 by_cases h0:s.size=0
 ·rw[EJ _ (by rw[d];exact h0)];have H:((s.size:Int) == 0)=true:=beq_iff_eq.2 (by omega);clear d h0;go_enter func143,ntmps143
  go_wp2_with fail
  exact Rf (v:=tV #[gV #[bV false,iV .i64 0,iV .i64 0],iV .i64 5]) (by simp[results,results143,go_sem]) rfl ⟨rfl,(Q1 _ _).alloc (QU _) _⟩
 have H:((s.size:Int) == 0)=false:=RW.2 (by omega);have D:0<s.size:=by omega
 have i:s.data.toList.length≠0:=by rw[d];exact h0
 obtain⟨c,G⟩:∃c:Nat,(s[0]).toNat=c:=⟨_,rfl⟩
 have R:c<256:=by rw[<-G];exact(s[0]).toNat_lt
 have g:(s.data.toList.getD 0 0).toNat=c:=by rw[Q3,QV (by rw[d];exact D)];exact G
 by_cases h1:c<128
 ·rw[EL _ i c g h1];have I:decide ((c:Int)<128)=true:=by simp;omega
  clear d i g;go_enter func143,ntmps143
  go_wp2_with fail
  exact Rf (v:=tV #[gV #[bV false,iV .i64 0,iV .i64 1],iV .i64 0]) (by simp[results,results143,go_sem]) rfl ⟨rfl,(Q1 _ _).alloc (QU _) _⟩
 have I:decide ((c:Int)<128)=false:=by simp;omega
 have O:(decide ((192:Int)<=(c:Int))=true/\192=(if 192<=c then 192 else 128)/\decide (192<=c)=true/\∃n:Nat,n=c - 192/\(c:Int) - 192=(n:Int)/\n<=63)\/(decide ((192:Int)<=(c:Int))=false/\128=(if 192<=c then 192 else 128)/\decide (192<=c)=false/\∃n:Nat,n=c - 128/\(c:Int) - 128=(n:Int)/\n<=63):=by
  by_cases h2:192<=c
  ·exact Or.inl ⟨by simp;omega,(QX h2).symm,Ra h2,_,rfl,by omega,by omega⟩
  ·exact Or.inr ⟨by simp;omega,(QW h2).symm,Q9 h2,_,rfl,by omega,by omega⟩
 rcases O with⟨J,j,k,n,l,M,L⟩|⟨J,j,k,n,l,M,L⟩;all_goals
  have T:IntKind.u64.wrap (n:Int)=(n:Int):=by rw[IntKind.wrap_u64];omega
  by_cases h55:n<=55
  ·have K:decide ((n:Int)<=55)=true:=by simp;omega
   have a:=zd s.data.toList i c _ g h1 j (by omega);rw[k,<-l] at a;unfold jQ at a;rw[d] at a;by_cases f:s.size - 1<n
   ·rw[QX f] at a;rw[a];have o:=aa f;clear d i g a j k l f;go_enter func143,ntmps143
    go_wp2_with fail
    refine(uu s _ 1 n A D o.out _).mono ?_;rintro e w1 ⟨rfl,b⟩;obtain⟨k0,k1,k2,f0,f1,f2⟩:=fV b;have m:=aa (((Q1 _ _).alloc (QU _) _).trans (b.mono (by simp)));clear b;unfold kq;go_wp2_with fail
    exact Rf (v:=tV #[gV #[bV false,iV .i64 0,iV .i64 0],iV .i64 5]) (by simp[results,results143,go_sem,k0,k1,k2]) rfl ⟨rfl,((m.out.setCell (QU _) _).setCell (QU _) _).setCell (QU _) _⟩
   ·rw[QW f] at a;rw[a];have o:=aa f;clear d i g a j k l f;go_enter func143,ntmps143
    go_wp2_with fail
    refine(ur s _ 1 n A D o.out _).mono ?_;rintro e w1 ⟨rfl,b⟩;obtain⟨k0,k1,k2,f0,f1,f2⟩:=fV b;have m:=aa (((Q1 _ _).alloc (QU _) _).trans (b.mono (by simp)));clear b;unfold kq;go_wp2_with fail
    exact Rf (v:=tV #[gV #[bV _,iV .i64 ((1:Nat):Int),iV .i64 ((1+n:Nat):Int)],iV .i64 0]) (by simp[results,results143,go_sem,k0,k1,k2]) rfl ⟨rfl,((m.out.setCell (QU _) _).setCell (QU _) _).setCell (QU _) _⟩
  ·have K:decide ((n:Int)<=55)=false:=by simp;omega
   obtain⟨q,z⟩:=yX (n - 55)
   have U:(n:Int) - 55=(q:Int):=by omega
   have N:1<=q:=by omega
   have P:q<=8:=by omega
   have S:1+(n:Int) - 55=((1+q:Nat):Int):=by omega
   have a:=zf s.data.toList i c _ g h1 j (by omega);rw[k,<-l,<-z,show 1+n - 55=1+q by omega] at a;have u:(s.extract 1 s.size).size<=4096:=by simp only[ByteArray.size_extract];omega
   have p:=DV (s.extract 1 s.size) q u N P;rw[FJ] at p;have C:=aa p;have x:fs (s.data.toList.drop 1) q=0->1+q<=s.size:=by
    intro t;unfold fs at t;rw[Q8,d] at t;by_cases h:s.size - 1<q
    ·rw[QX h] at t;cases t
    ·omega
   generalize fs (s.data.toList.drop 1) q=E at*;generalize lj (s.data.toList.drop 1) q=V at*;by_cases F:E=0
   ·subst F;rw[QX rfl] at a;unfold jQ at a;rw[d] at a;have y:=x rfl;by_cases f:s.size - (1+q)<V
    ·rw[QX f] at a;rw[a];have o:=aa f;have B:=aa y;clear d i g a j k l f p z x y u;go_enter func143,ntmps143
     go_wp2_with fail
     refine(C.out _).mono ?_;rintro e w0 ⟨rfl,r⟩;subst r;go_wp2_with fail
     refine(uu s _ (1+q) V A B.out o.out _).mono ?_;rintro e w1 ⟨rfl,b⟩;obtain⟨k0,k1,k2,f0,f1,f2⟩:=fV b;have m:=aa (((Q1 _ _).alloc (QU _) _).trans (b.mono (by simp)));clear b;unfold kq;go_wp2_with fail
     exact Rf (v:=tV #[gV #[bV false,iV .i64 0,iV .i64 0],iV .i64 5]) (by simp[results,results143,go_sem,k0,k1,k2]) rfl ⟨rfl,((m.out.setCell (QU _) _).setCell (QU _) _).setCell (QU _) _⟩
    ·rw[QW f] at a;rw[a];have o:=aa f;have B:=aa y;clear d i g a j k l f p z x y u;go_enter func143,ntmps143
     go_wp2_with fail
     refine(C.out _).mono ?_;rintro e w0 ⟨rfl,r⟩;subst r;go_wp2_with fail
     refine(ur s _ (1+q) V A B.out o.out _).mono ?_;rintro e w1 ⟨rfl,b⟩;obtain⟨k0,k1,k2,f0,f1,f2⟩:=fV b;have m:=aa (((Q1 _ _).alloc (QU _) _).trans (b.mono (by simp)));clear b;unfold kq;go_wp2_with fail
     exact Rf (v:=tV #[gV #[bV _,iV .i64 ((1+q:Nat):Int),iV .i64 ((1+q+V:Nat):Int)],iV .i64 0]) (by simp[results,results143,go_sem,k0,k1,k2]) rfl ⟨rfl,((m.out.setCell (QU _) _).setCell (QU _) _).setCell (QU _) _⟩
   ·rw[QW F] at a;rw[a];have Q:((E:Int) != 0)=true:=by simp;omega
    clear d i g a j k l p z x u;go_enter func143,ntmps143
    go_wp2_with fail
    refine(C.out _).mono ?_;rintro e w0 ⟨rfl,r⟩;subst r;go_wp2_with fail
    exact Rf (v:=tV #[gV #[bV false,iV .i64 0,iV .i64 0],iV .i64 (E:Int)]) (by simp[results,results143,go_sem]) rfl ⟨rfl,(Q1 _ _).alloc (QU _) _⟩
def aF:yL->yL->Nat
 |x::a,y::b=>if x=y then aF a b+1 else 0
 | _,_=>0
theorem g9:∀a b,aF a b<=a.length/\aF a b<=b.length
 | [],_=>⟨Ri _,Ri _⟩
 | _::_,[]=>⟨Ri _,Ri _⟩
 |x::a,y::b=>by
  have:=g9 a b
  simp only[aF]
  split
  ·simp;omega
  ·simp
theorem JB(a b:yL)(k:Nat)(c:k<a.length)(d:k<b.length)(h:a[k]=b[k]):aF (a.drop k) (b.drop k)=aF (a.drop (k+1)) (b.drop (k+1))+1:=by
 rw[RF c,RF d];simp only[aF,h,RJ]
theorem JA(a b:yL)(k:Nat)(c:k<a.length)(d:k<b.length)(h:a[k]≠b[k]):aF (a.drop k) (b.drop k)=0:=by
 rw[RF c,RF d];simp only[aF,h,Ry]
theorem JD(a b:yL)(k:Nat)(c:a.length<=k):aF (a.drop k) (b.drop k)=0:=by
 rw[List.drop_eq_nil_of_le c];simp[aF]
theorem JC(a b:yL)(k:Nat)(c:b.length<=k):aF (a.drop k) (b.drop k)=0:=by
 rw[List.drop_eq_nil_of_le c];cases a.drop k<;>simp[aF]
theorem rW(a b:yB)(u:a.size<=maxLen)(v:b.size<=maxLen)(w:World):
 Calls yP 135 #[sV a,sV b] w fun e w'=>e=rV (iV .i64 (aF a.data.toList b.data.toList))/\∃n,w'=w.drewN n:=by
 unfold maxLen at u v;obtain⟨N,i⟩:=yX (aF a.data.toList b.data.toList)
 rw[<-i];have q:=aa i;clear i;go_enter func135,ntmps135
 go_wp2_with fail
 go_loopg [5] a.size (fun g r wr=>∃m k:Nat,wr=w.drewN m/\g=a.size - k/\k<=a.size/\k<=b.size/\r=iV .i64 k/\Hid (N=aF (a.data.toList.drop k) (b.data.toList.drop k)+k))
 case atStart=>exact⟨0,0,rfl,rfl,by omega,by omega,rfl,q.out⟩
 case round=>
  obtain⟨m,k,rfl,j,A,B,rfl,f⟩:=hrel;have p:=aa j;clear j;by_cases l:k<a.size
  ·by_cases o:k<b.size
   ·have t:(k:Int)<(a.size:Int):=by omega
    have z:(k:Int)<(b.size:Int):=by omega
    by_cases c:a[k]=b[k]
    ·have s:Hid (N=aF (a.data.toList.drop (k+1)) (b.data.toList.drop (k+1))+(k+1)):=by
      show _=_;rw[f.out,JB _ _ k (by simpa using l) (by simpa using o) (by simpa [ByteArray.getElem_eq_getElem_data] using c)];omega
     have x:(((a[k]).toNat:Int) == ((b[k]).toNat:Int))=true:=by rw[c];simp
     clear c;go_wp2_with fail
     go_quiet (fail)
     go_wp2_with fail
     go_roundg (a.size - (k+1))
     case measure=>have:=p.out;omega
     case rel=>exact⟨_,k+1,rfl,rfl,by omega,by omega,by go_num,s.out⟩
    ·have d:Hid (N=k):=by
      show _=_;rw[f.out,JA _ _ k (by simpa using l) (by simpa using o) (by simpa [ByteArray.getElem_eq_getElem_data] using c)];omega
     have x:(((a[k]).toNat:Int) == ((b[k]).toNat:Int))=false:=by
      rw[RW];intro h;exact c (UInt8.toNat_inj.1 (by omega))
     clear c;go_wp2_with fail
     go_quiet (fail)
     go_wp2_with fail
     go_ret
     exact⟨by show Ending.returned (Value.int .i64 (k:Int))=_;rw[d.out],_,World.drewN_drewN ..⟩
   ·have d:Hid (N=k):=by
     show _=_;rw[f.out,JC _ _ k (by simp;omega)];omega
    have t:(k:Int)<(a.size:Int):=by omega
    have y:decide ((k:Int)<(b.size:Int))=false:=by simp;omega
    go_wp2_with fail
    go_quiet (fail)
    go_wp2_with fail
    go_ret
    exact⟨by show Ending.returned (Value.int .i64 (k:Int))=_;rw[d.out],_,World.drewN_drewN ..⟩
  ·have d:Hid (N=k):=by
    show _=_;rw[f.out,JD _ _ k (by simp;omega)];omega
   have y:decide ((k:Int)<(a.size:Int))=false:=by simp;omega
   go_wp2_with fail
   go_quiet (fail)
   go_wp2_with fail
   go_ret
   exact⟨by show Ending.returned (Value.int .i64 (k:Int))=_;rw[d.out],_,World.drewN_drewN ..⟩
theorem Ct(s:yB)(hs:s.size<=4096)(w:World):
 Calls yP 111 #[sV s] w fun e w'=>e=rV (sV (str (bZ s.data.toList)))/\yW w w':=by
 obtain⟨i0,T,A1,A2,A3⟩:=Sf pt;have A0:=yu 0 (2*(s.size:Int)) (by omega) (by omega) (by omega);have G:s.data.toList.length=s.size:=by simp
 have h:=aa G;have U:(2*(s.size:Int)).toNat=2*s.size:=by omega
 clear G;go_enter func111,ntmps111
 go_upto_region 2 with fail
 have a:=uR w w.heap.size (2*s.size) (QU _) (by unfold maxLen;omega);have b:=(Q1 w.heap.size w).alloc (QU _) (.cells (madeCells #[iV .u8 0] (2*s.size)) 5);generalize hW:w.alloc (.cells (madeCells #[iV .u8 0] (2*s.size)) 5)=W1 at*;obtain⟨g1,p⟩:=yX w.heap.size
 obtain⟨z,o⟩:∃c,c=2*s.size:=⟨_,rfl⟩
 have x:Hid (W1.ownsRow w.heap.size 5 1 (lV (qA g1) 0 z) 0 (bI [])):=by rw[p,o];exact a
 have t:=aa b;rw[<-o,<-p];clear hW a b A0 U p o;go_wp2_with fail
 go_loopg [3,4] s.size (fun n v r wr=>∃j f cap:Nat,n=s.size - j/\j<=s.size/\r=iV .i64 (j:Int)/\v=lV (qA f) (2*j) cap/\
  wr.ownsRow w.heap.size 5 1 (lV (qA f) (2*j) cap) (2*j) (bI (bZ (s.data.toList.take j)))/\yW w wr)
 case atStart=>exact⟨0,g1,z,by omega,by omega,rfl,rfl,x.out,t.out⟩
 case round=>
  obtain⟨j,f,cap,D,hj,rfl,rfl,a,b⟩:=hrel;have K:=aa D;clear D x t;obtain⟨N,g⟩:=yX (2*j)
  have l:=aa g;rw[<-g];rw[<-g] at a;clear g;by_cases A8:j<s.size
  ·have A6:=tj s[j];have A5:=pG s[j];have O:Hid (bZ (s.data.toList.take (j+1))=bZ (s.data.toList.take j)++[hi s[j],lo s[j]]):=by
    have Y:j<s.data.toList.length:=by have:=h.out;omega
    rw[RU Y,vM];congr 1
   have y:=aa a;have d:=aa b;have A7:N<8192:=by have:=l.out;omega
   have A9:(j:Int)<(s.size:Int):=by omega
   clear a b;generalize hi s[j]=cA at*;generalize lo s[j]=cB at*;generalize hks:bI (bZ (s.data.toList.take j))=ks at*;have L:=aa hks;clear hks;go_wp2_with fail
   go_region_law (refine step_append_lies _ rfl (.tmp 15) (.tmp 24) 143 rfl w.heap.size 5 i0 (iV .u8 0) 1 1 underlying143 T A1 A2 A3 rfl (by decide) (lV (qA f) N cap) N ks (by simp[Act.eval]) (y.out.drew.alloc _) ⟨wr.heap.size,0,none⟩ 2 2 [iV .u8 (cA.toNat:Int),iV .u8 (cB.toNat:Int)] (by simp[Act.eval]) rfl (x7 _ _ _) (by intro u I;simp at I;rcases I with rfl|rfl<;>rfl) (by omega) (by unfold maxLen;omega) (by omega) (by have:=d.out.size;simp;omega) _ rfl ?_;intro g2 A m H E R Z)
   all_goals
    have B:yW w m:=(d.out.drew.alloc d.out.size _).grown E (by have:=d.out.size;simp;omega) (fun k V=>(y.out.lt k V).1);have M:=aa H;have J:=aa B;clear H E R Z B;go_wp2_with fail
    go_roundg (s.size - (j+1))
    case measure=>have:=K.out;omega
    case rel=>
     have Q:=l.out;refine⟨j+1,g2,A,rfl,by omega,by go_num,by rw[show 2*(j+1)=N+2 by omega],?_,J.out⟩;have e:bI (bZ (s.data.toList.take (j+1)))=ks++[iV .u8 (cA.toNat:Int),iV .u8 (cB.toNat:Int)]:=by
      rw[O.out,<-L.out];simp[bI]
     rw[e,show 2*(j+1)=N+2 by omega];exact M.out
  ·have d:=aa b;have C:bZ (s.data.toList.take j)=bZ s.data.toList:=by
    rw[RI (by have:=h.out;omega)]
   have q:(bZ s.data.toList).length=N:=by
    have W:=h.out;have Q:=l.out;rw[ow,W];omega
   have S:=St (P:=yP) wr 143 5 underlying143 underlying5 f 0 N cap ((bZ s.data.toList).map (fun c=>(c.toNat:Int))) (by
    rw[Rr,q]) (fun i F=>by
    have:=a.cellAt i (by rw[Nat.mul_one];exact F);rw[R5,this,C];have X:i<(bZ s.data.toList).length:=by rw[q];exact F
    simp[bI,List.getD,QV X]) 9 underlying9
   rw[nJ] at S;have A4:¬((j:Int)<(s.size:Int)):=by omega
   clear a b C q;go_wp2_with fail
   go_ret
   exact⟨rfl,d.out⟩
end Go.Proofs.YtiimkkahmpmhdaaGreatDoor
