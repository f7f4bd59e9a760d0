import Derived.Test.YthpclfdpbmehgaaGreatDoorHd
open Go.Proofs.Tryz
open Go.Proofs.Tryz renaming prog→yP
open Go.Value renaming string→sV,pointer→pV,int→iV,slice→lV,bool→bV,tuple→tV,agg→gV
open Go.Ending renaming returned→rV
namespace Go.Proofs.YthpclfdpbmehgaaGreatDoor
open Go.RowKit
set_option maxRecDepth 100000
set_option maxHeartbeats 0
set_option linter.all false
def hi(c:UInt8):UInt8:=UInt8.ofNat (c.toNat / 16)
def lo(c:UInt8):UInt8:=UInt8.ofNat (c.toNat % 16)
def je(a b:UInt8):UInt8:=UInt8.ofNat (16*a.toNat+b.toNat)
def xw(c:UInt8):(hi c).toNat=c.toNat / 16:=by
 have:=c.toNat_lt;unfold hi;rw[U3];omega
def rQ(c:UInt8):(lo c).toNat=c.toNat % 16:=by
 have:=c.toNat_lt;unfold lo;rw[U3];omega
def ur(a b:UInt8)(c:a.toNat<16)(d:b.toNat<16):(je a b).toNat=16*a.toNat+b.toNat:=by
 unfold je;rw[U3];omega
def AG(c:UInt8):(hi c).toNat<16:=by have:=c.toNat_lt;rw[xw];omega
def um(c:UInt8):(lo c).toNat<16:=by rw[rQ];omega
def l9{a b:UInt8}(h:a.toNat=b.toNat):a=b:=UInt8.toNat_inj.1 h
def GQ(c:UInt8):je (hi c) (lo c)=c:=by
 apply l9;rw[ur _ _ (AG c) (um c),xw,rQ];omega
def AH(a b:UInt8)(c:a.toNat<16)(d:b.toNat<16):hi (je a b)=a:=by
 apply l9;rw[xw,ur a b c d];omega
def Ae(a b:UInt8)(c:a.toNat<16)(d:b.toNat<16):lo (je a b)=b:=by
 apply l9;rw[rQ,ur a b c d];omega
def gT:yL->yL
 |a::b::r=>je a b::gT r
 | _=>[]
def ch:yL->yL
 | []=>[]
 |c::r=>hi c::lo c::ch r
def aw(l:yL):Prop:=∀x,x∈l->x.toNat<16
def py:∀l:yL,(ch l).length=2*l.length
 | []=>rfl
 |c::r=>by simp only[ch,UJ,py r];omega
def xx:∀l:yL,aw (ch l)
 | []=>fun x h=>by cases h
 |c::r=>fun x h=>by
  simp only[ch,UC] at h
  rcases h with rfl|rfl|h
  ·exact AG c
  ·exact um c
  ·exact xx r x h
def xy:∀l m:yL,ch (l++m)=ch l++ch m
 | [],m=>rfl
 |c::r,m=>by simp only[List.cons_append,ch,xy r m]
def tR:∀l:yL,gT (ch l)=l
 | []=>rfl
 |c::r=>by simp only[ch,gT,GQ,tR r]
def EY:∀l m:yL,l.length % 2=0->gT (l++m)=gT l++gT m
 | [],m,_=>rfl
 | [a],m,h=>by simp at h
 |a::b::r,m,h=>by
  have:=EY r m (by simp at h;omega)
  simp only[List.cons_append,gT,this]
def AR:∀l:yL,l.length % 2=0->aw l->ch (gT l)=l
 | [],_,_=>rfl
 | [a],h,_=>by simp at h
 |a::b::r,h,n=>by
  have c:=n a (by simp)
  have d:=n b (by simp)
  have:=AR r (by simp at h;omega) (fun x e=>n x (by simp[e]))
  simp only[gT,ch,AH a b c d,Ae a b c d,this]
def zz:∀l:yL,(gT l).length=l.length / 2
 | []=>rfl
 | [a]=>by simp[gT]
 |a::b::r=>by simp only[gT,UJ,zz r];omega
def LG(l:yL)(j:Nat)(h:j+1<l.length):l.take (j+2)=l.take j++[l[j],l[j+1]]:=by
 show l.take ((j+1)+1)=_;rw[Vb (show j+1<l.length from h),Vb (show j<l.length by omega),UI];rfl
def jd(b a:Bool):Nat:=(if a then 2 else 0)+(if b then 1 else 0)
def cR(l:yL)(a:Bool):yL:=
 if l.length % 2=1 then je (UInt8.ofNat (jd true a)) (l.getD 0 0)::gT (l.drop 1) else je (UInt8.ofNat (jd false a)) 0::gT l
def bm(t:yL):yL:=(if(hi (t.getD 0 0)).toNat % 2=1 then [lo (t.getD 0 0)] else [])++ch (t.drop 1)
def fT(t:yL):Bool:=decide (2<=(hi (t.getD 0 0)).toNat % 4)
def jT(t:yL):Prop:=t≠[]/\(hi (t.getD 0 0)).toNat<=3/\((hi (t.getD 0 0)).toNat % 2=0->(lo (t.getD 0 0)).toNat=0)
def rD(l)(a:Bool):(cR l a).length=l.length / 2+1:=by
 unfold cR;split
 ·simp only[UJ,zz,Uu];omega
 ·simp only[UJ,zz]
def oa(b a:Bool):(UInt8.ofNat (jd b a)).toNat=jd b a:=by cases b<;>cases a<;>rfl
def wS(b a:Bool):(UInt8.ofNat (jd b a)).toNat<16:=by cases b<;>cases a<;>decide
def PA(l)(h:aw l)(i:Nat):(l.getD i 0).toNat<16:=by
 rcases Nat.lt_or_ge i l.length with hi|hi
 ·have e:l.getD i 0=l[i]:=by simp[List.getD,Uh hi]
  rw[e];exact h _ (Vc hi)
 ·have e:l.getD i 0=0:=by simp[List.getD,U9 hi]
  rw[e];decide
def Fa(l)(b:Bool)(h:aw l):jT (cR l b)/\bm (cR l b)=l/\fT (cR l b)=b:=by
 by_cases f:l.length % 2=1
 ·have e:cR l b=je (UInt8.ofNat (jd true b)) (l.getD 0 0)::gT (l.drop 1):=by unfold cR;rw[Uj f]
  have h0:=PA l h 0;have c:hi (je (UInt8.ofNat (jd true b)) (l.getD 0 0))=UInt8.ofNat (jd true b):=AH _ _ (wS _ _) h0;have d:lo (je (UInt8.ofNat (jd true b)) (l.getD 0 0))=l.getD 0 0:=Ae _ _ (wS _ _) h0;rw[e];refine⟨⟨by simp,?_,?_⟩,?_,?_⟩
  ·rw[UX,c,oa];cases b<;>decide
  ·rw[UX,c,oa];cases b<;>simp[jd]
  ·unfold bm;rw[UX,c,oa,d,List.drop_succ_cons,List.drop_zero,AR _ (by simp;omega) (fun x g=>h x (List.mem_of_mem_drop g))];rw[Uj (by cases b<;>rfl)];cases l with
   |nil=>simp at f
   |cons a r=>rfl
  ·unfold fT;rw[UX,c,oa];cases b<;>rfl
 ·have e:cR l b=je (UInt8.ofNat (jd false b)) 0::gT l:=by unfold cR;rw[Ui f]
  have h0:(0:UInt8).toNat<16:=by decide
  have c:hi (je (UInt8.ofNat (jd false b)) 0)=UInt8.ofNat (jd false b):=AH _ _ (wS _ _) h0;have d:lo (je (UInt8.ofNat (jd false b)) 0)=0:=Ae _ _ (wS _ _) h0;rw[e];refine⟨⟨by simp,?_,?_⟩,?_,?_⟩
  ·rw[UX,c,oa];cases b<;>decide
  ·rw[UX,d];intro _;rfl
  ·unfold bm;rw[UX,c,oa,List.drop_succ_cons,List.drop_zero,AR _ (by omega) h];rw[Ui (by cases b<;>decide)];rfl
  ·unfold fT;rw[UX,c,oa];cases b<;>rfl
def Oe(t):aw (bm t):=by
 intro x a;unfold bm at a;rcases UA.1 a with h|h
 ·split at h
  ·simp only[Uo] at h;subst h;exact um _
  ·cases h
 ·exact xx _ x h
def Oi(t)(_h:t≠[]):(bm t).length=(if(hi (t.getD 0 0)).toNat % 2=1 then 1 else 0)+2*(t.length - 1):=by
 unfold bm;rw[Uq,py,Uu];split<;>simp
def Il(t)(h:jT t):cR (bm t) (fT t)=t:=by
 let⟨i,h3,f⟩:=h;cases t with
 |nil=>exact absurd rfl i
 |cons c r=>
  simp only[UX] at h3 f;have d:=Oi (c::r) (by simp);simp only[UX,UJ] at d;have b:=GQ c;unfold cR;by_cases a:(hi c).toNat % 2=1
  ·rw[Uj a] at d;rw[Uj (by omega)];have e:bm (c::r)=lo c::ch r:=by unfold bm;simp only[UX,Uj a,List.drop_succ_cons,List.drop_zero,List.singleton_append]
   rw[e];simp only[UX,List.drop_succ_cons,List.drop_zero,tR];congr 1;have:UInt8.ofNat (jd true (fT (c::r)))=hi c:=by
    apply l9;rw[oa];unfold fT jd;simp only[UX,U5];by_cases h2:2<=(hi c).toNat % 4
    ·simp only[h2,decide_true,U5];omega
    ·simp only[h2,decide_false];simp;omega
   rw[this,b]
  ·rw[Ui a] at d;rw[Ui (by omega)];have e:bm (c::r)=ch r:=by unfold bm;simp only[UX,Ui a,List.drop_succ_cons,List.drop_zero,VL]
   rw[e,tR];congr 1;have g:lo c=0:=l9 (f (by omega));have:UInt8.ofNat (jd false (fT (c::r)))=hi c:=by
    apply l9;rw[oa];unfold fT jd;simp only[UX];by_cases h2:2<=(hi c).toNat % 4
    ·simp only[h2,decide_true,U5];simp;omega
    ·simp only[h2,decide_false];simp;omega
   rw[this];rw[g] at b;exact b
def qg(l:yL):Bool:=l.all (fun c=>decide (c.toNat<16))
def zO{l}(h:qg l=true):aw l:=fun x a=>by
 have:=Vy.1 h x a
 simpa using this
def Fy{l}(h:aw l):qg l=true:=Vy.2 fun x a=>by simpa using h x a
def PB{l:yL}(k:Nat)(a:k<l.length)(h:15<(l[k]).toNat):qg l=false:=by
 cases hb:qg l with
 |false=>rfl
 |true=>
  have:=zO hb _ (Vc a);omega
def TM(s:yB)(hs:s.size<=maxLen)(w:World):
 yC 156 #[sV s] w fun e w'=>e=rV (bV (qg s.data.toList))/\w'=w:=by
 unfold maxLen at hs;go_enter func156,ntmps156
 go_wp2
 go_loopg [3] s.size (fun g r wr=>wr=w/\∃k:Nat,g=s.size - k/\k<=s.size/\r=i6 k/\yH (∀j,(h:j<s.size)->j<k->(s[j]).toNat<16))
 case atStart=>exact⟨rfl,0,rfl,by omega,rfl,fun j _ h=>by omega⟩
 case round=>
  obtain⟨rfl,k,d,u,rfl,b⟩:=hrel;have l:=aa d;clear d;by_cases p:k<s.size
  ·by_cases n:15<(s[k]).toNat
   ·have o:(15:Int)<((s[k]).toNat:Int):=by omega
    have c:qg s.data.toList=false:=PB k (by simpa using p) n;have i:=aa c;clear c;go_wp2
    go_ret
    exact⟨by rw[i.o];rfl,rfl⟩
   ·have o:¬(15:Int)<((s[k]).toNat:Int):=by omega
    go_wp2
    go_roundg (s.size - (k+1))
    case measure=>have:=l.o;omega
    case rel=>exact⟨rfl,k+1,rfl,by omega,by go_num,fun j a t=>by
     by_cases e:j=k
     ·subst e;omega
     ·exact b.o j a (by omega)⟩
  ·have f:qg s.data.toList=true:=Fy fun x q=>by
    obtain⟨j,a,rfl⟩:=List.getElem_of_mem q;exact b.o j (by simpa using a) (by have:j<s.size:=(by simpa using a);omega)
   have m:=aa f;clear f;go_wp2
   go_ret
   exact⟨by rw[m.o];rfl,rfl⟩
def rX:(yP.info? 5).map (fun i=>(i.zero,i.size,i.bytes))=some (some (iV .u8 0),1,1):=by kernel_rfl
def b9(l:yL):List Value:=l.map (fun c=>Value.int .u8 (c.toNat:Int))
def ae(l:yL):yB:=⟨l.toArray⟩
def zZ(n c:Int)(h0:0<=n)(a:n<=c)(f:c<=281474976710656)(w:World):
 (Instr.makeSlice 34 (i6 n) (i6 c)).run yP w=.ok (lV (qA w.heap.size) n.toNat c.toNat) (w.alloc (.cells (madeCells #[iV .u8 0] c.toNat) 5)):=by
 let⟨i0,hi,b,d,e⟩:=Vp rX;have:=run_make (P:=yP) w 34 5 i0 (iV .u8 0) underlying34 hi b .i64 .i64 n c h0 a (by rw[e];omega) (by omega);rw[d,Nat.mul_one] at this;exact this
def wF(w:World)(base c:Nat)(a:base<=w.heap.size)(b:c<=maxLen):(w.alloc (.cells (madeCells #[iV .u8 0] c) 5)).ownsRow base 5 1 (lV (qA w.heap.size) 0 c) 0 (b9 []):=
 ⟨rfl,.inr ⟨w.heap.size,c,_,rfl,a,UG _ _,by omega,b,by rw[size_madeCells,Nat.mul_one],by simp[b9]⟩⟩
def oN(l:yL):strOfNums (l.map (fun c=>(c.toNat:Int)))=ae l:=by
 unfold strOfNums ae;congr 1;rw[List.map_map];congr 1;conv=>rhs;rw[<-List.map_id l]
 apply Vz;intro c _;simp
def Fk(a b:Nat)(c:a<16)(d:b<16):bits .or .u8 (IntKind.u8.wrap ((a:Int)*16)) (b:Int)=((16*a+b:Nat):Int):=by
 have e:IntKind.u8.wrap ((a:Int)*16)=((16*a:Nat):Int):=by rw[VI];omega
 rw[e,u8_or_nat _ _ (by omega) (by omega),nat_join 4 (16*a) b (by omega) (by omega)]
def AN(l:yL)(q:Nat):UInt8:=if q=1 then l.getD 0 0 else 0
def Qn(a:Bool):Nat:=if a then 2 else 0
def Fb(s:yB)(d:Bool)(hs:s.size<8192)(hN:aw s.data.toList)(w:World):
 yC 146 #[sV s,bV d] w fun e w'=>e=rV (tV #[sV (ae (cR s.data.toList d)),i6 0])/\yW w w':=by
 have hm:s.size<=maxLen:=by unfold maxLen;omega
 obtain⟨i0,A5,A7,A8,A9⟩:=Vp rX;have C4:=zZ 0 ((s.size:Int) / 2+1) (by omega) (by omega) (by omega);have hn:=Fy hN;have I:=aa hn;obtain⟨q,hq⟩:=yX (s.size % 2)
 have D4:q<2:=by omega
 obtain⟨c,hc⟩:=yX (AN s.data.toList q)
 obtain⟨L,Q⟩:=yX (Qn d)
 have B5:L<=2:=by cases d<;>rw[Q]<;>decide
 obtain⟨F,Z⟩:=yX (L+q)
 have V:=aa Z;have B4:F<=3:=by omega
 have x:=aa hq.symm;have H:=aa hc;have W:=aa Q;have E:s.data.toList.length=s.size:=by simp
 have t:=aa E;have B9:((s.size:Int) / 2+1).toNat=s.size / 2+1:=by omega
 clear E hn hN hq hc Q Z;go_enter func146,ntmps146
 go_wp2_with fail
 refine(TM s hm _).mono ?_;rw[I.o];rintro e w1 ⟨rfl,hw⟩;have C7:=hw.symm;subst C7;clear hm hw;go_upto_if 16 with fail
 go_cut [6] (fun v U=>v=iV .u8 (L:Int)/\U=w)
 case first=>
  have e:=W.o;cases d
  ·obtain rfl:L=0:=e;go_wp2
   go_meet
   exact⟨rfl,rfl⟩
  ·obtain rfl:L=2:=e;go_wp2
   go_meet
   exact⟨rfl,rfl⟩
 case rest=>
 obtain⟨rfl,C⟩:=hcut;have T:=C.symm;subst T;clear C;go_upto_if 20 with fail
 go_cut [6,7,8] (fun v6 v7 v8 U=>v6=iV .u8 (F:Int)/\v7=i6 (q:Int)/\v8=iV .u8 (c.toNat:Int)/\U=w)
 case first=>
  have e:=H.o;have o:=x.o;have Y:=V.o;by_cases h1:q=1
  ·subst h1;have h0:0<s.size:=by omega
   have C5:((s.size:Int) % 2 == 1)=true:=beq_iff_eq.2 (by omega);have iw:IntKind.u8.wrap ((L:Int)+1)=(L:Int)+1:=by rw[VI];omega
   have e2:c=s[0]:=by rw[e,AN,Uj rfl,Up,Uh (by rw[t.o];exact h0)];rfl
   clear e o;go_wp2
   go_meet
   exact⟨by rw[Y];go_num,rfl,by rw[e2],rfl⟩
  ·obtain rfl:q=0:=by omega
   have C5:((s.size:Int) % 2 == 1)=false:=Vd.2 (by omega);have e2:c=0:=by rw[e];rfl
   clear e o;go_wp2
   go_meet
   exact⟨by rw[Y];rfl,rfl,by rw[e2];rfl,rfl⟩
 case rest=>
 obtain⟨rfl,rfl,rfl,C⟩:=hcut;have T:=C.symm;subst T;clear C;go_upto_region 15 with fail
 have l:=wF w w.heap.size (s.size / 2+1) (Ug _) (by unfold maxLen;omega);have g:=(Un w.heap.size w).alloc (Ug _) (.cells (madeCells #[iV .u8 0] (s.size / 2+1)) 5);generalize hW:w.alloc (.cells (madeCells #[iV .u8 0] (s.size / 2+1)) 5)=W1 at*;generalize hV:Value.slice (qA w.heap.size) 0 (s.size / 2+1)=V1 at*;have y:=aa l;have a:=aa g;clear hW hV l g C4 B9;have N:c.toNat<16:=by
  rw[H.o,AN];split
  ·rw[Up];cases h:s.data.toList[0]? with
   |none=>decide
   |some u=>exact zO I.o u (UQ h)
  ·decide
 obtain⟨B,O⟩:=yX (je (UInt8.ofNat F) c)
 have e4:(UInt8.ofNat F).toNat=F:=by rw[U3];omega
 have C6:bits .or .u8 ((F:Int)*16 % 256) (c.toNat:Int)=(B.toNat:Int):=by
  have e5:(F:Int)*16 % 256=IntKind.u8.wrap ((F:Int)*16):=by rw[VI]
  rw[e5,O,ur _ _ (by omega) N,e4,Fk F c.toNat (by omega) N]
 have HB:=aa O;clear N O e4 B5 B4;go_wp2_with (at_builtin;refine U0 _ rfl (.tmp 30) (.tmp 35) 34 rfl w.heap.size 5 i0 (iV .u8 0) 1 1 underlying34 A5 A7 A8 A9 rfl (by decide) V1 0 (b9 []) rfl (y.o.alloc _) ⟨W1.heap.size,0,none⟩ 1 1 [iV .u8 (B.toNat:Int)] rfl rfl (Vx _ _ _) ?c2 (by omega) ?c3 ?c4 ?c5 _ rfl ?c6)
 case c2=>intro u A;simp at A;subst A;rfl
 case c3=>unfold maxLen;omega
 case c4=>omega
 case c5=>have:=a.o.size;simp;omega
 case c6=>
  intro g1 M D G A3 B6 C2;have G:=G;have A0:yW w D:=(a.o.alloc a.o.size _).grown A3 (by have:=a.o.size;simp;omega) (fun k R=>(y.o.lt k R).1);have B2:=aa G;have B0:=aa A0;clear G A3 B6 C2 A0 C6;go_wp2
  go_loopg [7,9] (s.size / 2) (fun n r v wr=>∃j m cap:Nat,n=s.size / 2 - j/\q+2*j<=s.size/\r=i6 ((q+2*j:Nat):Int)/\v=lV (qA m) (j+1) cap/\
   wr.ownsRow w.heap.size 5 1 (lV (qA m) (j+1) cap) (j+1) (b9 (B::gT ((s.data.toList.drop q).take (2*j))))/\yW w wr)
  case atStart=>exact⟨0,g1,M,by omega,by have:=x.o;omega,rfl,rfl,B2.o,B0.o⟩
  case round=>
   obtain⟨j,m,cap,hg,hj,rfl,rfl,l,g⟩:=hrel;have HG:=aa hg;clear hg;obtain⟨p,b⟩:=yX (q+2*j)
   have f:=aa b;rw[<-b];rw[<-b] at hj;clear b;by_cases C1:p+1<s.size
   ·have S:=zO I.o;have n0:(s[p]).toNat<16:=S _ (by rw[<-Array.mem_def];exact Array.getElem_mem (by simpa using(by omega:p<s.size)));have n1:(s[p+1]).toNat<16:=S _ (by rw[<-Array.mem_def];exact Array.getElem_mem (by simpa using C1));have hv:bits .or .u8 (IntKind.u8.wrap (((s[p]).toNat:Int)*16)) ((s[p+1]).toNat:Int)=((je s[p] s[p+1]).toNat:Int):=by
     rw[Fk _ _ n0 n1,ur _ _ n0 n1]
    have HS:yH (gT ((s.data.toList.drop q).take (2*(j+1)))=gT ((s.data.toList.drop q).take (2*j))++[je s[p] s[p+1]]):=by
     have b:=f.o;have C0:2*j+1<(s.data.toList.drop q).length:=by have:=t.o;rw[Uu];omega
     have e:2*(j+1)=2*j+2:=by omega
     rw[e,LG _ _ C0,EY _ _ (by rw[UN];omega)];congr 1;have e0:(s.data.toList.drop q)[2*j]=s[p]:=by rw[List.getElem_drop];subst b;rfl
     have e1:(s.data.toList.drop q)[2*j+1]=s[p+1]:=by rw[List.getElem_drop];subst b;rfl
     rw[e0,e1];rfl
    have y:=aa l;have a:=aa g;have C9:j<4096:=by have:=f.o;omega
    have D0:p<s.size:=by omega
    have D1:(p:Int)<(s.size:Int):=by omega
    have D2:(p:Int)+1<(s.size:Int):=by omega
    have D3:(0:Int)<=(p:Int)+1:=by omega
    have iw:IntKind.i64.wrap ((p:Int)+1)=(p:Int)+1:=by rw[UY];omega
    clear S n0 n1 l g;generalize hJ:je s[p] s[p+1]=J at*;generalize hks:b9 (B::gT ((s.data.toList.drop q).take (2*j)))=ks at*;have HK:=aa hks;clear hks;go_wp2
    go_region_law (refine step_append_lies _ rfl (.tmp 44) (.tmp 54) 34 rfl w.heap.size 5 i0 (iV .u8 0) 1 1 underlying34 A5 A7 A8 A9 rfl (by decide) (lV (qA m) (j+1) cap) (j+1) ks (by simp[Act.eval]) (y.o.drew.alloc _) ⟨wr.heap.size,0,none⟩ 1 1 [iV .u8 (J.toNat:Int)] (by simp[Act.eval]) rfl (Vx _ _ _) (by intro u A;simp at A;subst A;rfl) (by omega) (by unfold maxLen;omega) (by omega) (by have:=a.o.size;simp;omega) _ rfl ?_;intro g2 X K A6 A4 B7 C3)
    all_goals
     have A1:yW w K:=(a.o.drew.alloc a.o.size _).grown A4 (by have:=a.o.size;simp;omega) (fun k R=>(y.o.lt k R).1);have B3:=aa A6;have B1:=aa A1;clear A6 A4 B7 C3 A1;go_wp2
     go_roundg (s.size / 2 - (j+1))
     case measure=>have:=HG.o;have:=f.o;omega
     case rel=>
      refine⟨j+1,g2,X,rfl,by have:=f.o;omega,by have:=f.o;rw[show q+2*(j+1)=p+2 by omega];go_num,rfl,?_,B1.o⟩;have e:b9 (B::gT ((s.data.toList.drop q).take (2*(j+1))))=ks++[iV .u8 (J.toNat:Int)]:=by
       rw[HS.o,<-HK.o];simp[b9]
      rw[e];exact B3.o
   ·have a:=aa g;have A2:B::gT ((s.data.toList.drop q).take (2*j))=cR s.data.toList d:=by
     have b:=f.o;have o:=x.o;have z:=t.o;unfold cR;rw[U4 (by rw[Uu];omega),HB.o,V.o,z,o,H.o,W.o];have:q=0\/q=1:=by omega
     rcases this with rfl|rfl<;>cases d<;>rfl
    have B8:=VA (P:=yP) wr 34 5 underlying34 underlying5 m 0 (j+1) cap ((cR s.data.toList d).map (fun c=>(c.toNat:Int))) (by
     rw[UM,rD];have b:=f.o;have z:=t.o;have o:=x.o;rw[z];omega) (fun i hi=>by
     have:=l.cellAt i (by rw[Nat.mul_one];exact hi);rw[Vj,this,A2];have E:i<(cR s.data.toList d).length:=by rw[rD];have b:=f.o;have z:=t.o;have o:=x.o;rw[z];omega
     simp[b9,List.getD,Uh E]) 9 underlying9
    rw[oN] at B8;have C8:¬((p:Int)+1<(s.size:Int)):=by omega
    clear l g A2;go_wp2
    go_ret2
    exact⟨rfl,a.o⟩
def qK(c:UInt8):bits .and .u8 (c.toNat:Int) 15=((lo c).toNat:Int):=by
 have:=u8_and_nat c.toNat 15 c.toNat_lt (by omega);rw[nat_mask4] at this;rw[rQ];exact this
def uJ(c:UInt8):(c.toNat:Int) / 16=((hi c).toNat:Int):=by rw[xw];omega
def JC(m:Nat)(h:m<256):bits .and .u8 (m:Int) 1=((m % 2:Nat):Int):=by
 have:=u8_and_nat m 1 h (by omega);rw[nat_mask1] at this;exact this
def TL(m:Nat)(h:m<4):bits .and .u8 (m:Int) 2=((m / 2*2:Nat):Int):=by
 have:=u8_and_nat m 2 (by omega) (by omega);rw[show(2:Nat)=2 ^ 1 from rfl,nat_bit] at this;have e:m / 2 ^ 1 % 2*2 ^ 1=m / 2*2:=by omega
 rw[e] at this;exact this
def Lk(s:yB)(hs:s.size<=maxLen)(a:4096<s.size\/¬jT s.data.toList)(w:World):
 yC 161 #[sV s] w fun e w'=>e=rV (tV #[sV ByteArray.empty,bV false,i6 (if 4096<s.size then 1 else 7)])/\w'=w:=by
 unfold maxLen at hs;by_cases h1:4096<s.size
 ·rw[Uj h1];have n:(4096:Int)<(s.size:Int):=by omega
  clear a;go_enter func161,ntmps161
  go_wp2
  go_ret3
  exact⟨rfl,rfl⟩
 ·rw[Ui h1];have a:¬jT s.data.toList:=by rcases a with h|h;exact absurd h h1;exact h
  by_cases h0:s.size=0
  ·have f:((s.size:Int) == 0)=true:=beq_iff_eq.2 (by omega);clear a h0;go_enter func161,ntmps161
   go_wp2
   go_ret3
   exact⟨rfl,rfl⟩
  ·have f:((s.size:Int) == 0)=false:=Vd.2 (by omega);have k:0<s.size:=by omega
   have e0:s.data.toList.getD 0 0=s[0]:=by rw[Up,Uh (by simpa using k)];rfl
   have d:s.data.toList≠[]:=by
    intro h;have b:s.data.toList.length=s.size:=by simp
    rw[h] at b;have:(0:Nat)=s.size:=b;omega
   unfold jT at a;rw[e0] at a;have p:=uJ s[0];have o:=qK s[0];have q:=AG s[0];have b:=um s[0];generalize hcm:(hi s[0]).toNat=m at*;generalize hcl:(lo s[0]).toNat=l at*;clear hcm hcl e0;have h2:=JC m (by omega);by_cases h3:3<m
   ·have g:(3:Int)<(m:Int):=by omega
    clear a;go_enter func161,ntmps161
    go_wp2
    all_goals (go_ret3;exact⟨rfl,rfl⟩)
   ·have i:m % 2=0/\l≠0:=by
     by_cases c:m % 2=0
     ·refine⟨c,fun j=>a ⟨d,by omega,fun _=>j⟩⟩
     ·exact absurd ⟨d,by omega,fun h=>absurd h c⟩ a
    have g:decide ((3:Int)<(m:Int))=false:=by simp;omega
    have h4:(((m % 2:Nat):Int) != 0)=false:=by simp;omega
    have h5:((l:Int) != 0)=true:=by simp;omega
    rw[i.1] at h2;clear a;go_enter func161,ntmps161
    go_wp2
    all_goals (go_ret3;exact⟨rfl,rfl⟩)
def zA(w:World)(a b):∀j u,[a,b][j]? =some u->(w.alloc (.cells #[a,b] 5)).cell? ((⟨w.heap.size,0,none⟩:Addr).add j)=some u:=by
 intro j u c;match j,c with
 | 0,c=>simp at c;subst c;simp[Addr.add]
 | 1,c=>simp at c;subst c;simp[Addr.add]
 | (j+2),c=>simp at c
def vz(s:yB)(hs:s.size<=4096)(hf:jT s.data.toList)(w:World):
 yC 161 #[sV s] w fun e w'=>e=rV (tV #[sV (ae (bm s.data.toList)),bV (fT s.data.toList),i6 0])/\yW w w':=by
 obtain⟨i0,A4,A7,A8,A9⟩:=Vp rX;have B5:=zZ 0 (2*(s.size:Int)) (by omega) (by omega) (by omega);have S:s.data.toList.length=s.size:=by simp
 have B:=aa S;obtain⟨C7,C6,R⟩:=hf;have hp:0<s.size:=by
  rcases Nat.eq_zero_or_pos s.size with h|h
  ·rw[h] at S;exact absurd (UH.1 S) C7
  ·exact h
 have e0:s.data.toList.getD 0 0=s[0]:=by rw[Up,Uh (by simpa using hp)];rfl
 rw[e0] at C6 R;have hd:=uJ s[0];have ha:=qK s[0];have T:=um s[0];have C:yH (bm s.data.toList=(if(hi s[0]).toNat % 2=1 then [lo s[0]] else [])++ch (s.data.toList.drop 1)):=by unfold bm;rw[e0];rfl
 have B0:yH (fT s.data.toList=decide (2<=(hi s[0]).toNat % 4)):=by unfold fT;rw[e0];rfl
 generalize hcm:(hi s[0]).toNat=m at*;clear hcm e0 S;have D0:decide ((4096:Int)<(s.size:Int))=false:=by simp;omega
 have C9:((s.size:Int) == 0)=false:=Vd.2 (by omega);have D1:decide ((3:Int)<(m:Int))=false:=by simp;omega
 have h2:=JC m (by omega);have h22:=TL m (by omega);have B3:(2*(s.size:Int)).toNat=2*s.size:=by omega
 by_cases ho:m % 2=1
 ·rw[ho] at h2;rw[Uj ho] at C;clear R;go_enter func161,ntmps161
  go_upto_region 12 with fail
  have b:=wF w w.heap.size (2*s.size) (Ug _) (by unfold maxLen;omega);have f:=(Un w.heap.size w).alloc (Ug _) (.cells (madeCells #[iV .u8 0] (2*s.size)) 5);generalize hW:w.alloc (.cells (madeCells #[iV .u8 0] (2*s.size)) 5)=W1 at*;generalize hV:Value.slice (qA w.heap.size) 0 (2*s.size)=V1 at*;have q:=aa b;have a:=aa f;clear hW hV b f B5 B3;go_wp2_with (at_builtin;refine U0 _ rfl (.tmp 40) (.tmp 42) 34 rfl w.heap.size 5 i0 (iV .u8 0) 1 1 underlying34 A4 A7 A8 A9 rfl (by decide) V1 0 (b9 []) rfl (q.o.alloc _) ⟨W1.heap.size,0,none⟩ 1 1 [iV .u8 ((lo s[0]).toNat:Int)] rfl rfl (Vx _ _ _) ?c2 (by omega) ?c3 ?c4 ?c5 _ rfl ?c6)
  case c2=>intro u t;simp at t;subst t;rfl
  case c3=>unfold maxLen;omega
  case c4=>omega
  case c5=>have:=a.o.size;simp;omega
  intro g1 D W2 B6 B2 B9 C5;have B1:yW w W2:=(a.o.alloc a.o.size _).grown B2 (by have:=a.o.size;simp;omega) (fun k M=>(q.o.lt k M).1);have Y:=aa B6;have U:=aa B1;clear B6 B2 B9 C5 B1;go_wp2
  go_loopg [8,9] s.size (fun n v r wr=>∃j g cap:Nat,n=s.size - j/\j+1<=s.size/\r=i6 ((j+1:Nat):Int)/\v=lV (qA g) (1+2*j) cap/\
   wr.ownsRow w.heap.size 5 1 (lV (qA g) (1+2*j) cap) (1+2*j) (b9 ([lo s[0]]++ch ((s.data.toList.drop 1).take j)))/\yW w wr)
  case atStart=>exact⟨0,g1,D,by omega,by omega,rfl,rfl,Y.o,U.o⟩
  case round=>
   obtain⟨j,g,cap,J,hj,rfl,rfl,b,f⟩:=hrel;have W:=aa J;clear J;obtain⟨p,o⟩:=yX (j+1)
   obtain⟨N,l⟩:=yX (1+2*j)
   have d:=aa o;have x:=aa l;rw[<-o,<-l];rw[<-o] at hj;rw[<-l] at b;clear o l;by_cases C4:p<s.size
   ·have C0:=uJ s[p];have B8:=qK s[p];have HS:yH (ch ((s.data.toList.drop 1).take (j+1))=ch ((s.data.toList.drop 1).take j)++[hi s[p],lo s[p]]):=by
     have A:=d.o;have T:j<(s.data.toList.drop 1).length:=by have:=B.o;rw[Uu];omega
     rw[Vb T,xy];congr 1;have e0:(s.data.toList.drop 1)[j]=s[p]:=by rw[List.getElem_drop];subst A;simp only[Nat.add_comm 1 j];rfl
     rw[e0];rfl
    have q:=aa b;have a:=aa f;have C1:N<8192:=by have:=d.o;have:=x.o;omega
    have C8:(p:Int)<(s.size:Int):=by omega
    clear b f;generalize hi s[p]=cA at*;generalize lo s[p]=cB at*;generalize hks:b9 ([lo s[0]]++ch ((s.data.toList.drop 1).take j))=ks at*;have X:=aa hks;clear hks;go_wp2
    go_region_law (refine step_append_lies _ rfl (.tmp 50) (.tmp 59) 34 rfl w.heap.size 5 i0 (iV .u8 0) 1 1 underlying34 A4 A7 A8 A9 rfl (by decide) (lV (qA g) N cap) N ks (by simp[Act.eval]) (q.o.drew.alloc _) ⟨wr.heap.size,0,none⟩ 2 2 [iV .u8 (cA.toNat:Int),iV .u8 (cB.toNat:Int)] (by simp[Act.eval]) rfl (zA _ _ _) (by intro u t;simp at t;rcases t with rfl|rfl<;>rfl) (by omega) (by unfold maxLen;omega) (by omega) (by have:=a.o.size;simp;omega) _ rfl ?_;intro g2 E y Q K A0 A6)
    all_goals
     have H:yW w y:=(a.o.drew.alloc a.o.size _).grown K (by have:=a.o.size;simp;omega) (fun k M=>(q.o.lt k M).1);have Z:=aa Q;have V:=aa H;clear Q K A0 A6 H;go_wp2
     go_roundg (s.size - (j+1))
     case measure=>have:=W.o;have:=d.o;omega
     case rel=>
      have G:=x.o;refine⟨j+1,g2,E,rfl,by have:=d.o;omega,by have:=d.o;rw[show j+1+1=p+1 by omega];go_num,by rw[show 1+2*(j+1)=N+2 by omega],?_,V.o⟩;have e:b9 ([lo s[0]]++ch ((s.data.toList.drop 1).take (j+1)))=ks++[iV .u8 (cA.toNat:Int),iV .u8 (cB.toNat:Int)]:=by
       rw[HS.o,<-X.o];simp[b9]
      rw[e,show 1+2*(j+1)=N+2 by omega];exact Z.o
   ·have a:=aa f;have I:[lo s[0]]++ch ((s.data.toList.drop 1).take j)=bm s.data.toList:=by
     have A:=d.o;have O:=B.o;rw[C.o,U4 (by rw[Uu];omega)]
    have z:(bm s.data.toList).length=N:=by
     have A:=d.o;have O:=B.o;have G:=x.o;rw[C.o,Uq,py,Uu,O,G];simp;omega
    have A2:=VA (P:=yP) wr 34 5 underlying34 underlying5 g 0 N cap ((bm s.data.toList).map (fun c=>(c.toNat:Int))) (by
     rw[UM,z]) (fun i L=>by
     have:=b.cellAt i (by rw[Nat.mul_one];exact L);rw[Vj,this,I];have A5:i<(bm s.data.toList).length:=by rw[z];exact L
     simp[b9,List.getD,Uh A5]) 9 underlying9
    rw[oN] at A2;have B7:¬((p:Int)<(s.size:Int)):=by omega
    have C2:(((m:Int) / 2*2) != 0)=fT s.data.toList:=by
     rw[B0.o];by_cases F:2<=m % 4
     ·rw[Uw F,bne_iff_ne];omega
     ·rw[Uv F];simp;omega
    generalize hlfU:fT s.data.toList=lf at*;clear b f I z;go_wp2
    go_ret3
    exact⟨rfl,a.o⟩
 ·have B4:m % 2=0:=by omega
  rw[B4] at h2;rw[Ui ho] at C;have C3:=R B4;rw[C3] at ha;clear R;go_enter func161,ntmps161
  go_upto_region 13 with fail
  have b:=wF w w.heap.size (2*s.size) (Ug _) (by unfold maxLen;omega);have f:=(Un w.heap.size w).alloc (Ug _) (.cells (madeCells #[iV .u8 0] (2*s.size)) 5);generalize hW:w.alloc (.cells (madeCells #[iV .u8 0] (2*s.size)) 5)=W1 at*;obtain⟨g1,A3⟩:=yX w.heap.size
  obtain⟨D,A1⟩:∃c,c=2*s.size:=⟨_,rfl⟩
  have Y:yH (W1.ownsRow w.heap.size 5 1 (lV (qA g1) 0 D) 0 (b9 [])):=by rw[A3,A1];exact b
  have U:=aa f;rw[<-A1,<-A3];clear hW b f B5 B3 A3 A1;go_wp2
  go_loopg [8,9] s.size (fun n v r wr=>∃j g cap:Nat,n=s.size - j/\j+1<=s.size/\r=i6 ((j+1:Nat):Int)/\v=lV (qA g) (0+2*j) cap/\
   wr.ownsRow w.heap.size 5 1 (lV (qA g) (0+2*j) cap) (0+2*j) (b9 ([]++ch ((s.data.toList.drop 1).take j)))/\yW w wr)
  case atStart=>exact⟨0,g1,D,by omega,by omega,rfl,rfl,Y.o,U.o⟩
  case round=>
   obtain⟨j,g,cap,J,hj,rfl,rfl,b,f⟩:=hrel;have W:=aa J;clear J;obtain⟨p,o⟩:=yX (j+1)
   obtain⟨N,l⟩:=yX (0+2*j)
   have d:=aa o;have x:=aa l;rw[<-o,<-l];rw[<-o] at hj;rw[<-l] at b;clear o l;by_cases C4:p<s.size
   ·have C0:=uJ s[p];have B8:=qK s[p];have HS:yH (ch ((s.data.toList.drop 1).take (j+1))=ch ((s.data.toList.drop 1).take j)++[hi s[p],lo s[p]]):=by
     have A:=d.o;have T:j<(s.data.toList.drop 1).length:=by have:=B.o;rw[Uu];omega
     rw[Vb T,xy];congr 1;have e0:(s.data.toList.drop 1)[j]=s[p]:=by rw[List.getElem_drop];subst A;simp only[Nat.add_comm 1 j];rfl
     rw[e0];rfl
    have q:=aa b;have a:=aa f;have C1:N<8192:=by have:=d.o;have:=x.o;omega
    have C8:(p:Int)<(s.size:Int):=by omega
    clear b f;generalize hi s[p]=cA at*;generalize lo s[p]=cB at*;generalize hks:b9 ([]++ch ((s.data.toList.drop 1).take j))=ks at*;have X:=aa hks;clear hks;go_wp2
    go_region_law (refine step_append_lies _ rfl (.tmp 50) (.tmp 59) 34 rfl w.heap.size 5 i0 (iV .u8 0) 1 1 underlying34 A4 A7 A8 A9 rfl (by decide) (lV (qA g) N cap) N ks (by simp[Act.eval]) (q.o.drew.alloc _) ⟨wr.heap.size,0,none⟩ 2 2 [iV .u8 (cA.toNat:Int),iV .u8 (cB.toNat:Int)] (by simp[Act.eval]) rfl (zA _ _ _) (by intro u t;simp at t;rcases t with rfl|rfl<;>rfl) (by omega) (by unfold maxLen;omega) (by omega) (by have:=a.o.size;simp;omega) _ rfl ?_;intro g2 E y Q K A0 A6)
    all_goals
     have H:yW w y:=(a.o.drew.alloc a.o.size _).grown K (by have:=a.o.size;simp;omega) (fun k M=>(q.o.lt k M).1);have Z:=aa Q;have V:=aa H;clear Q K A0 A6 H;go_wp2
     go_roundg (s.size - (j+1))
     case measure=>have:=W.o;have:=d.o;omega
     case rel=>
      have G:=x.o;refine⟨j+1,g2,E,rfl,by have:=d.o;omega,by have:=d.o;rw[show j+1+1=p+1 by omega];go_num,by rw[show 0+2*(j+1)=N+2 by omega],?_,V.o⟩;have e:b9 ([]++ch ((s.data.toList.drop 1).take (j+1)))=ks++[iV .u8 (cA.toNat:Int),iV .u8 (cB.toNat:Int)]:=by
       rw[HS.o,<-X.o];simp[b9]
      rw[e,show 0+2*(j+1)=N+2 by omega];exact Z.o
   ·have a:=aa f;have I:[]++ch ((s.data.toList.drop 1).take j)=bm s.data.toList:=by
     have A:=d.o;have O:=B.o;rw[C.o,U4 (by rw[Uu];omega)]
    have z:(bm s.data.toList).length=N:=by
     have A:=d.o;have O:=B.o;have G:=x.o;rw[C.o,Uq,py,Uu,O,G];simp;omega
    have A2:=VA (P:=yP) wr 34 5 underlying34 underlying5 g 0 N cap ((bm s.data.toList).map (fun c=>(c.toNat:Int))) (by
     rw[UM,z]) (fun i L=>by
     have:=b.cellAt i (by rw[Nat.mul_one];exact L);rw[Vj,this,I];have A5:i<(bm s.data.toList).length:=by rw[z];exact L
     simp[b9,List.getD,Uh A5]) 9 underlying9
    rw[oN] at A2;have B7:¬((p:Int)<(s.size:Int)):=by omega
    have C2:(((m:Int) / 2*2) != 0)=fT s.data.toList:=by
     rw[B0.o];by_cases F:2<=m % 4
     ·rw[Uw F,bne_iff_ne];omega
     ·rw[Uv F];simp;omega
    generalize hlfU:fT s.data.toList=lf at*;clear b f I z;go_wp2
    go_ret3
    exact⟨rfl,a.o⟩
def gA(s:yB):ae s.data.toList=s:=by unfold ae;simp
def eU(l):(ae l).data.toList=l:=by unfold ae;simp
def aN(l):(ae l).size=l.length:=by unfold ae;simp[ByteArray.size]
def g7(q:yB):(q.toList.isEmpty=true)=(q.size=0):=by
 rw[Lib.toList_data q,List.isEmpty_iff];have a:q.data.toList.length=q.size:=by simp
 rw[<-a,UH]
def iv(q:yB):(q.toList.isEmpty=false)=¬(q.size=0):=by
 rw[<-g7,Bool.not_eq_true]
abbrev Tree:=DataW Unit
def ak(l:yL):Tree:=.lit (.string l)
def bJ(ks:List Tree):Tree:=.slice ks []
def bS:Nat->Nat->yL
 | 0,_=>[]
 |f+1,n=>if n=0 then [] else bS f (n / 256)++[UInt8.ofNat (n % 256)]
def be(l:yL):Nat:=l.foldl (fun a c=>a*256+c.toNat) 0
def uK:∀f,bS f 0=[]
 | 0=>rfl
 |f+1=>by simp[bS]
def BC(l)(c:UInt8):be (l++[c])=be l*256+c.toNat:=by simp[be]
def BD:∀f n,n<256 ^ f->be (bS f n)=n
 | 0,n,h=>by simp at h;subst h;rfl
 |f+1,n,h=>by
  unfold bS
  by_cases h0:n=0
  ·rw[Uj h0,h0];rfl
  ·rw[Ui h0,BC,BD f (n / 256) (by rw[Nat.pow_succ] at h;omega),U3]
   omega
def qE:∀f n,(bS f n).length<=f
 | 0,_=>by simp[bS]
 |f+1,n=>by
  unfold bS
  split
  ·simp
  ·rw[Uq];have:=qE f (n / 256);simp;omega
def Bm(f n:Nat)(a:0<f)(h:0<n):0<(bS f n).length:=by
 cases f with
 |zero=>omega
 |succ f=>unfold bS;rw[Ui (by omega)];simp
def Bn:∀f n,0<n->n<256 ^ f->((bS f n).getD 0 0).toNat≠0
 | 0,n,h,h2=>by simp at h2;omega
 |f+1,n,h,h2=>by
  unfold bS
  rw[Ui (by omega)]
  by_cases b:n / 256=0
  ·rw[b,uK]
   show(UInt8.ofNat (n % 256)).toNat≠0
   rw[U3];omega
  ·have c:=Bn f (n / 256) (by omega) (by rw[Nat.pow_succ] at h2;omega)
   have a:0<(bS f (n / 256)).length:=by
    cases f with
    |zero=>simp at h2;omega
    |succ f=>exact Bm _ _ (by omega) (by omega)
   rw[Up,UW a,<-Up];exact c
def Tz(l)(h:l≠[])(h0:(l.getD 0 0).toNat≠0):0<be l:=by
 have key:∀(l:yL) (a:Nat),a<=l.foldl (fun a c=>a*256+c.toNat) a:=by
  intro l;induction l with
  |nil=>intro a;exact Ug _
  |cons c r ih=>intro a;exact Ut (by omega) (ih (a*256+c.toNat))
 cases l with
 |nil=>exact absurd rfl h
 |cons c r=>
  have:=key r (0*256+c.toNat);simp only[UX] at h0;have e:be (c::r)=r.foldl (fun a c=>a*256+c.toNat) (0*256+c.toNat):=rfl;rw[e];omega
def TA(l):be l<256 ^ l.length:=by
 have key:∀(l:yL) (a:Nat),l.foldl (fun a c=>a*256+c.toNat) a<(a+1)*256 ^ l.length:=by
  intro l;induction l with
  |nil=>intro a;simp
  |cons c r ih=>
   intro a;have h1:=ih (a*256+c.toNat);have h2:=c.toNat_lt;have h3:(a*256+c.toNat+1)*256 ^ r.length<=((a+1)*256)*256 ^ r.length:=Nat.mul_le_mul_right _ (by omega);simp only[List.foldl_cons,UJ,Nat.pow_succ];rw[Nat.mul_assoc] at h3;rw[Nat.mul_comm (256 ^ r.length) 256];exact Us h1 h3
 have:=key l 0;rw[Vj,Nat.one_mul] at this;exact this
def Bo:∀(f:Nat) (l:yL),l.length<=f->(l≠[]->(l.getD 0 0).toNat≠0)->bS f (be l)=l
 | 0,l,h,_=>by
  have:l=[]:=UH.1 (by omega)
  subst this;rfl
 |f+1,l,h,h0=>by
  rcases List.eq_nil_or_concat l with rfl|⟨m,c,rfl⟩
  ·exact uK _
  ·rw[List.concat_eq_append] at*
   have e:=c.toNat_lt
   have a:m≠[]->(m.getD 0 0).toNat≠0:=by
    intro a;have:=h0 (by simp);rwa [Up,UW (Vt.2 a),<-Up] at this
   have d:=Bo f m (by simp at h;omega) a;have b:be (m++[c])≠0:=by
    have:=Tz (m++[c]) (by simp) (h0 (by simp));omega
   unfold bS;rw[Ui b,BC];have e1:(be m*256+c.toNat) / 256=be m:=by omega
   have e2:UInt8.ofNat ((be m*256+c.toNat) % 256)=c:=by apply l9;rw[U3];omega
   rw[e1,e2,d]
def cV(a n:Nat):yL:=if n<=55 then [UInt8.ofNat (a+n)] else UInt8.ofNat (a+55+(bS 8 n).length)::bS 8 n
def fN(t:yL):Bool:=decide (t.length=1) && decide ((t.getD 0 0).toNat<128)
def cL(t:yL):yL:=if fN t=true then t else cV 128 t.length++t
def gZ(a:yL):yL:=cV 192 a.length++a
def bu:Nat->Tree->yL
 | _,.lit (.string t)=>cL t
 |d+1,.slice ks _=>gZ (ks.map (bu d)).flatten
 | _,_=>[]
def bN:Nat->Tree->Bool
 | _,.lit (.string _)=>true
 |d+1,.slice ks []=>decide (ks.length<=64) && ks.all (bN d)
 | _,_=>false
def lJ(s:yL)(b:Bool)(a n:Nat):Except Nat (Bool×Nat×Nat):=if s.length - a<n then .error 5 else .ok (b,a,n)
def fE(s:yL):Except Nat (Bool×Nat×Nat):=
 if s.length=0 then .error 5 else
 if(s.getD 0 0).toNat<128 then .ok (false,0,1) else
 if(s.getD 0 0).toNat - (if 192<=(s.getD 0 0).toNat then 192 else 128)<=55 then lJ s (decide (192<=(s.getD 0 0).toNat)) 1 ((s.getD 0 0).toNat - (if 192<=(s.getD 0 0).toNat then 192 else 128)) else
 if s.length - 1<(s.getD 0 0).toNat - (if 192<=(s.getD 0 0).toNat then 192 else 128) - 55 then .error 5 else
 if(s.getD 1 0).toNat=0\/be ((s.drop 1).take ((s.getD 0 0).toNat - (if 192<=(s.getD 0 0).toNat then 192 else 128) - 55))<=55 then .error 7 else
 lJ s (decide (192<=(s.getD 0 0).toNat)) (1+((s.getD 0 0).toNat - (if 192<=(s.getD 0 0).toNat then 192 else 128)) - 55) (be ((s.drop 1).take ((s.getD 0 0).toNat - (if 192<=(s.getD 0 0).toNat then 192 else 128) - 55)))
def eR(f:yL->Except Nat (Tree×Nat)):Nat->yL->Except Nat (List Tree)
 |m,body=>if body.length=0 then .ok [] else
  match m with
  | 0=>.error 8
  |m+1=>match f body with
   | .error e=>.error e
   | .ok (k,u)=>match eR f m (body.drop u) with
    | .error e=>.error e
    | .ok ks=>.ok (k::ks)
def dr:Nat->yL->Except Nat (Tree×Nat)
 |d,s=>match fE s with
  | .error e=>.error e
  | .ok (list,from_,n)=>
   if list=false then(if 0<from_/\fN ((s.drop from_).take n)=true then .error 7 else .ok (ak ((s.drop from_).take n),from_+n))
   else match d with
    | 0=>.error 8
    |d+1=>match eR (dr d) 64 ((s.drop from_).take n) with
     | .error e=>.error e
     | .ok ks=>.ok (bJ ks,from_+n)
def dC(s:yL):Except Nat Tree:=
 if 4096<s.length then .error 1 else
 match dr 6 s with
 | .error e=>.error e
 | .ok (x,u)=>if u<s.length then .error 6 else .ok x
def AS(s:yL)(h:s.length≠0):s=s.getD 0 0::s.drop 1:=by
 cases s with
 |nil=>simp at h
 |cons c r=>rfl
def AJ(a n:Nat):0<(cV a n).length:=by unfold cV;split<;>simp
def DE{s l l' f n a b}(h:lJ s l f n=.ok (l',a,b)):l'=l/\a=f/\b=n/\¬s.length - f<n:=by
 unfold lJ at h;split at h
 ·cases h
 ·cases h;exact⟨rfl,rfl,rfl,‹_›⟩
def AL(s)(l:Bool)(f n:Nat)(h:fE s=.ok (l,f,n)):
 s.length≠0/\((l=false/\f=0/\n=1/\(s.getD 0 0).toNat<128)\/(1<=f/\f+n<=s.length/\s.take f=cV (if l then 192 else 128) n)):=by
 unfold fE at h;by_cases h0:s.length=0
 ·rw[Uj h0] at h;cases h
 rw[Ui h0] at h;refine⟨h0,?_⟩;have a:=AS s h0;have j:=(s.getD 0 0).toNat_lt;by_cases h1:(s.getD 0 0).toNat<128
 ·rw[Uj h1] at h;cases h
  exact .inl ⟨rfl,rfl,rfl,h1⟩
 rw[Ui h1] at h;right;generalize hbase:(if 192<=(s.getD 0 0).toNat then 192 else 128)=base at h;have b:(if(decide (192<=(s.getD 0 0).toNat))=true then 192 else 128)=base:=by rw[<-hbase];simp
 have o:base<=(s.getD 0 0).toNat:=by rw[<-hbase];split<;>omega
 by_cases h2:(s.getD 0 0).toNat - base<=55
 ·rw[Uj h2] at h;obtain⟨rfl,rfl,rfl,h3⟩:=DE h;refine⟨by omega,by omega,?_⟩;rw[b];unfold cV;rw[Uj h2,a];show [s.getD 0 0]=_;congr 1;apply l9;rw[U3];have e:((s.getD 0 0)::s.drop 1).getD 0 0=s.getD 0 0:=rfl;rw[e];omega
 rw[Ui h2] at h;by_cases h3:s.length - 1<(s.getD 0 0).toNat - base - 55
 ·rw[Uj h3] at h;cases h
 rw[Ui h3] at h;have q:(s.getD 0 0).toNat - base - 55<=8:=by rw[<-hbase];split<;>omega
 have i:1+((s.getD 0 0).toNat - base) - 55=1+((s.getD 0 0).toNat - base - 55):=by omega
 rw[i] at h;have m:(s.getD 0 0).toNat=base+55+((s.getD 0 0).toNat - base - 55):=by omega
 have p:1<=(s.getD 0 0).toNat - base - 55:=by omega
 generalize hk:(s.getD 0 0).toNat - base - 55=k at*;have g:((s.drop 1).take k).length=k:=by rw[UN,Uu];omega
 by_cases h4:(s.getD 1 0).toNat=0\/be ((s.drop 1).take k)<=55
 ·rw[Uj h4] at h;cases h
 rw[Ui h4] at h;obtain⟨rfl,rfl,rfl,h5⟩:=DE h;refine⟨by omega,by omega,?_⟩;rw[b];have d:bS 8 (be ((s.drop 1).take k))=(s.drop 1).take k:=Bo 8 _ (by omega) (fun _=>by
  intro c;apply h4;left;have e:((s.drop 1).take k).getD 0 0=s.getD 1 0:=by
   rw[Up,Vv,Uj (by omega),VE,Up]
  rw[e] at c;exact c)
 unfold cV;rw[Ui (by omega),d,g];conv=>lhs;rw[a]
 rw[Nat.add_comm 1 k,List.take_succ_cons];congr 1;apply l9;rw[U3];omega
def Di(f:yL->Except Nat (Tree×Nat))(b:Tree->yL)(c:Tree->Bool)
 (d:∀s x u,f s=.ok (x,u)->0<u/\u<=s.length/\b x=s.take u/\c x=true):
 ∀(m:Nat) (a:yL) (ks:List Tree),eR f m a=.ok ks->(ks.map b).flatten=a/\ks.all c=true/\ks.length<=m
 | 0,a,ks,h=>by
  unfold eR at h
  by_cases h0:a.length=0
  ·rw[Uj h0] at h;cases h
   exact⟨(UH.1 h0).symm,rfl,Ug _⟩
  ·rw[Ui h0] at h;cases h
 |m+1,a,ks,h=>by
  unfold eR at h
  by_cases h0:a.length=0
  ·rw[Uj h0] at h;cases h
   exact⟨(UH.1 h0).symm,rfl,UD _⟩
  ·rw[Ui h0] at h
   simp only at h
   cases hk:f a with
   |error e=>rw[hk] at h;cases h
   |ok ku=>
    let⟨k,u⟩:=ku
    rw[hk] at h
    simp only at h
    cases hr:eR f m (a.drop u) with
    |error e=>rw[hr] at h;cases h
    |ok ks'=>
     rw[hr] at h
     cases h
     let⟨h1,h2,h3,h4⟩:=d _ _ _ hk
     let⟨i1,i2,i3⟩:=Di f b c d m _ _ hr
     refine⟨?_,?_,by simp;omega⟩
     ·rw[List.map_cons,List.flatten_cons,h3,i1,VB]
     ·rw[List.all_cons,h4,i2];rfl
def Dd:∀(d:Nat) (s) (x:Tree) (u:Nat),dr d s=.ok (x,u)->0<u/\u<=s.length/\bu d x=s.take u/\bN d x=true:=by
 intro d;induction d with
 |zero=>
  intro s x u h;unfold dr at h;cases hh:fE s with
  |error e=>rw[hh] at h;cases h
  |ok lfn=>
   let⟨l,f,n⟩:=lfn;rw[hh] at h;simp only at h;let⟨k,i⟩:=AL s l f n hh;cases l with
   |true=>simp at h
   |false=>
    rw[Uj rfl] at h;split at h
    ·cases h
    ·rename_i hnb
     cases h
     rcases i with⟨_,rfl,rfl,j⟩|⟨m,c,g⟩
     ·refine⟨by omega,by omega,?_,rfl⟩;show cL _=_;have a:fN ((s.drop 0).take 1)=true:=by
       rw[AS s k];unfold fN;simp only[List.drop_zero,List.take_succ_cons,List.take_zero,UX];simp;simpa using j
      unfold cL;rw[Uj a];simp
     ·refine⟨by omega,c,?_,rfl⟩;show cL _=_;have a:¬fN ((s.drop f).take n)=true:=fun a=>hnb ⟨by omega,a⟩
      have b:((s.drop f).take n).length=n:=by rw[UN,Uu];omega
      unfold cL;rw[Ui a,b,<-(show cV (if false=true then 192 else 128) n=cV 128 n from rfl),<-g,List.take_add]
 |succ d ih=>
  intro s x u h;unfold dr at h;cases hh:fE s with
  |error e=>rw[hh] at h;cases h
  |ok lfn=>
   let⟨l,f,n⟩:=lfn;rw[hh] at h;simp only at h;let⟨k,i⟩:=AL s l f n hh;cases l with
   |true=>
    simp only[Bool.true_eq_false,UT] at h;rcases i with⟨b,_⟩|⟨m,c,g⟩
    ·cases b
    cases hk:eR (dr d) 64 ((s.drop f).take n) with
    |error e=>rw[hk] at h;cases h
    |ok ks=>
     rw[hk] at h;cases h
     let⟨i1,i2,i3⟩:=Di (dr d) (bu d) (bN d) (fun s x u h=>ih s x u h) 64 _ _ hk;have b:((s.drop f).take n).length=n:=by rw[UN,Uu];omega
     refine⟨by omega,c,?_,?_⟩
     ·show gZ _=_;rw[i1];unfold gZ;rw[b,<-(show cV (if true=true then 192 else 128) n=cV 192 n from rfl),<-g,List.take_add]
     ·show(decide (ks.length<=64) && ks.all (bN d))=true;rw[i2,Uw i3];rfl
   |false=>
    rw[Uj rfl] at h;split at h
    ·cases h
    ·rename_i hnb
     cases h
     rcases i with⟨_,rfl,rfl,j⟩|⟨m,c,g⟩
     ·refine⟨by omega,by omega,?_,rfl⟩;show cL _=_;have a:fN ((s.drop 0).take 1)=true:=by
       rw[AS s k];unfold fN;simp only[List.drop_zero,List.take_succ_cons,List.take_zero,UX];simp;simpa using j
      unfold cL;rw[Uj a];simp
     ·refine⟨by omega,c,?_,rfl⟩;show cL _=_;have a:¬fN ((s.drop f).take n)=true:=fun a=>hnb ⟨by omega,a⟩
      have b:((s.drop f).take n).length=n:=by rw[UN,Uu];omega
      unfold cL;rw[Ui a,b,<-(show cV (if false=true then 192 else 128) n=cV 128 n from rfl),<-g,List.take_add]
def fU(l:Bool):Nat:=if l then 192 else 128
def Hm(l:Bool)(n:Nat)(rest:yL)(g:n<256 ^ 8)(p:n<=rest.length):fE (cV (fU l) n++rest)=.ok (l,(cV (fU l) n).length,n):=by
 have f:∀b:Nat,fU l<=b->(l=false->b<192)->(if 192<=b then 192 else 128)=fU l/\decide (192<=b)=l:=by
  intro b h1 h2;cases l with
  |false=>have:=h2 rfl;rw[Ui (by omega)];exact⟨rfl,Uv (by omega)⟩
  |true=>have c:192<=b:=h1;rw[Uj c];exact⟨rfl,Uw c⟩
 have o:fU l<=192:=by cases l<;>decide
 have m:128<=fU l:=by cases l<;>decide
 have d:l=false->fU l=128:=by intro h;rw[h];rfl
 by_cases h55:n<=55
 ·have e:cV (fU l) n=[UInt8.ofNat (fU l+n)]:=by unfold cV;rw[Uj h55]
  have a:(UInt8.ofNat (fU l+n)).toNat=fU l+n:=by rw[U3];omega
  let⟨k1,k2⟩:=f (fU l+n) (by omega) (fun h=>by rw[d h];omega);rw[e];unfold fE;simp only[List.singleton_append,UX,a,k1,k2,UJ];rw[Ui (by omega),Ui (by omega),Uj (by omega),show fU l+n - fU l=n by omega];unfold lJ;rw[Ui (by simp;omega)];rfl
 ·have k:0<(bS 8 n).length:=Bm 8 n (by omega) (by omega);have h8:=qE 8 n;have e:cV (fU l) n=UInt8.ofNat (fU l+55+(bS 8 n).length)::bS 8 n:=by unfold cV;rw[Ui h55]
  have a:(UInt8.ofNat (fU l+55+(bS 8 n).length)).toNat=fU l+55+(bS 8 n).length:=by rw[U3];omega
  let⟨k1,k2⟩:=f (fU l+55+(bS 8 n).length) (by omega) (fun h=>by rw[d h];omega);have i:=BD 8 n g;have j:=Bn 8 n (by omega) g;rw[e];generalize hD:bS 8 n=D at*;have e1:fU l+55+D.length - fU l=55+D.length:=by omega
  have e2:55+D.length - 55=D.length:=by omega
  have e3:1+(55+D.length) - 55=1+D.length:=by omega
  unfold fE;simp only[List.cons_append,UX,a,k1,k2,UJ,List.drop_succ_cons,List.drop_zero,e1,e2,e3,List.take_left,i];rw[Ui (by omega),Ui (by omega),Ui (by omega),Ui (by simp),Ui]
  ·unfold lJ;rw[Ui (by simp;omega),Nat.add_comm 1]
  ·rintro (h|h)
   ·apply j;rw[List.getD_cons_succ,Up,UW k,<-Up] at h;exact h
   ·omega
def Da(t):0<(cL t).length:=by
 unfold cL;split
 ·rename_i h;unfold fN at h;simp at h;omega
 ·rw[Uq];have:=AJ 128 t.length;omega
def Dc(d:Nat)(t r:yL)(k:t.length<256 ^ 8):dr d (cL t++r)=.ok (ak t,(cL t).length):=by
 by_cases a:fN t=true
 ·have e:cL t=t:=by unfold cL;rw[Uj a]
  have f:=a;unfold fN at f;rw[Vr,VJ,VJ] at f;let⟨j,g⟩:=f;rw[e];match t,j with
  | [c],_=>
   have b:fE ([c]++r)=.ok (false,0,1):=by
    unfold fE;simp only[List.singleton_append,UX,UJ];simp only[UX] at g;rw[Ui (by omega),Uj g]
   unfold dr;rw[b];simp
 ·have e:cL t=cV 128 t.length++t:=by unfold cL;rw[Ui a]
  have b:=Hm false t.length (t++r) k (by simp);have i:fU false=128:=rfl;rw[i] at b;rw[e,UI];unfold dr;rw[b];simp only;rw[Uj trivial,List.drop_left,List.take_left,Ui (fun h=>a h.2),Uq]
def uE(d:Nat)(x:Tree)(h:bN d x=true):(∃t,x=ak t)\/(∃e ks,d=e+1/\x=bJ ks/\ks.length<=64/\ks.all (bN e)=true):=by
 unfold bN at h;split at h
 ·exact .inl ⟨_,rfl⟩
 ·rw[Vr,VJ] at h;exact .inr ⟨_,_,rfl,rfl,h.1,h.2⟩
 ·cases h
def ij(d:Nat)(t):bu d (ak t)=cL t:=by unfold ak;simp only[bu]
def kI(d:Nat)(ks:List Tree):bu (d+1) (bJ ks)=gZ (ks.map (bu d)).flatten:=by unfold bJ;simp only[bu]
def SG(d:Nat)(x:Tree)(h:bN d x=true):0<(bu d x).length:=by
 rcases uE d x h with⟨t,rfl⟩|⟨e,ks,rfl,rfl,_,_⟩
 ·rw[ij];exact Da t
 ·rw[kI];unfold gZ;rw[Uq];have:=AJ 192 (ks.map (bu e)).flatten.length;omega
def LM(f:yL->Except Nat (Tree×Nat))(a:Tree->yL)
 (ks:List Tree):∀(m:Nat),ks.length<=m->(∀x,x∈ks->0<(a x).length/\∀r,f (a x++r)=.ok (x,(a x).length))->eR f m (ks.map a).flatten=.ok ks:=by
 induction ks with
 |nil=>intro m _ _;unfold eR;rw[Uj (by simp)]
 |cons k ks ih=>
  intro m c b;let⟨g,d⟩:=b k (by simp);cases m with
  |zero=>simp at c
  |succ m=>
   have hi:=ih m (by simp at c;omega) (fun x e=>b x (by simp[e]));unfold eR;rw[List.map_cons,List.flatten_cons,Ui (by rw[Uq];omega)];simp only;rw[d];simp only;rw[List.drop_left,hi]
def Ov(l:List yL):∀c,c∈l->c.length<=l.flatten.length:=by
 induction l with
 |nil=>intro c h;cases h
 |cons a l ih=>
  intro c h;rw[List.flatten_cons,Uq];rcases UC.1 h with rfl|h
  ·omega
  ·have:=ih c h;omega
def LI:∀(d:Nat) (x:Tree) (r),bN d x=true->(bu d x).length<256 ^ 8->dr d (bu d x++r)=.ok (x,(bu d x).length):=by
 intro d;induction d with
 |zero=>
  intro x r b a;rcases uE 0 x b with⟨t,rfl⟩|⟨e,ks,j,_⟩
  ·rw[ij] at a;rw[ij];refine Dc 0 t r ?_;unfold cL at a;split at a
   ·exact a
   ·rw[Uq] at a;omega
  ·omega
 |succ d ih=>
  intro x r b a;rcases uE (d+1) x b with⟨t,rfl⟩|⟨e,ks,j,rfl,h64,h⟩
  ·rw[ij] at a;rw[ij];refine Dc (d+1) t r ?_;unfold cL at a;split at a
   ·exact a
   ·rw[Uq] at a;omega
  ·obtain rfl:e=d:=by omega
   rw[kI] at a;rw[kI];have i:(ks.map (bu e)).flatten.length<256 ^ 8:=by unfold gZ at a;rw[Uq] at a;omega
   have l:=LM (dr e) (bu e) ks 64 h64 (fun x g=>by
    have c:=Vy.1 h x g;refine⟨SG e x c,fun r=>ih x r c ?_⟩;have:=Ov (ks.map (bu e)) (bu e x) (List.mem_map_of_mem g);omega)
   generalize hB:(ks.map (bu e)).flatten=body at*;have f:=Hm true body.length (body++r) i (by simp);have k:fU true=192:=rfl;rw[k] at f;unfold gZ;rw[UI];unfold dr;rw[f];simp only[Bool.true_eq_false,UT];rw[List.drop_left,List.take_left,l];simp only[Uq]
def IX(x:Tree)(h:bN 6 x=true)(a:(bu 6 x).length<=4096):dC (bu 6 x)=.ok x:=by
 have:=LI 6 x [] h (by omega);rw[UU] at this;unfold dC;rw[Ui (by omega),this];simp
def Br(s)(x:Tree)(h:dC s=.ok x):bu 6 x=s/\bN 6 x=true/\s.length<=4096:=by
 unfold dC at h;by_cases h1:4096<s.length
 ·rw[Uj h1] at h;cases h
 rw[Ui h1] at h;cases ht:dr 6 s with
 |error e=>rw[ht] at h;cases h
 |ok xu=>
  let⟨y,u⟩:=xu;rw[ht] at h;simp only at h;let⟨_,h2,h3,h4⟩:=Dd 6 s y u ht;by_cases h5:u<s.length
  ·rw[Uj h5] at h;cases h
  ·rw[Ui h5] at h;cases h;refine⟨?_,h4,by omega⟩;rw[h3,U4 (by omega)]
def xF(W:World)(x:Int):(convert 34 9 (lV (qA W.heap.size) 1 1)).run yP (W.alloc (.cells #[iV .u8 x] 5))=.ok (sV (strOfNums [x])) (W.alloc (.cells #[iV .u8 x] 5)):=
 VA (P:=yP) _ 34 5 underlying34 underlying5 W.heap.size 0 1 1 [x] rfl (fun i hi=>by
  have:i=0:=by omega
  subst this
  simp) 9 underlying9
def tU(n:Nat)(h:n<256):strOfNums [(n:Int)]=ae [UInt8.ofNat n]:=by
 have e:([(n:Int)]:List Int)=[UInt8.ofNat n].map (fun c=>(c.toNat:Int)):=by
  simp only[List.map_cons,List.map_nil,U3];congr 1;omega
 rw[e,oN]
def rh(a b):ae a++ae b=ae (a++b):=by
 have h:(ae a++ae b).data.toList=(ae (a++b)).data.toList:=by simp[eU]
 rw[<-gA (ae a++ae b),h,gA]
def xM(s:yB)(w:World):
 yC 141 #[sV s] w fun e w'=>e=rV (bV (fN s.data.toList))/\w'=w:=by
 have b:s.data.toList.length=s.size:=by simp
 by_cases h1:s.size=1
 ·have d:((s.size:Int) == 1)=true:=beq_iff_eq.2 (by omega);have f:0<s.size:=by omega
  have e0:s.data.toList.getD 0 0=s[0]:=by rw[Up,Uh (by simpa using f)];rfl
  have a:fN s.data.toList=decide (((s[0]).toNat:Int)<128):=by
   unfold fN;rw[b,e0,Uw h1,Bool.true_and];by_cases h:(s[0]).toNat<128
   ·rw[Uw h,Uw (by omega)]
   ·rw[Uv h,Uv (by omega)]
  have c:=aa a;clear a b e0 h1;go_enter func141,ntmps141
  go_wp2
  go_ret
  exact⟨by rw[c.o];rfl,rfl⟩
 ·have d:((s.size:Int) == 1)=false:=Vd.2 (by omega);have a:fN s.data.toList=false:=by
   unfold fN;rw[b,Uv h1];rfl
  have c:=aa a;clear a b h1;go_enter func141,ntmps141
  go_wp2
  go_ret
  exact⟨by rw[c.o];rfl,rfl⟩
def S8(n:Nat)(v:n<140737488355329)(w:World):
 yC 62 #[i6 n] w fun e w'=>e=rV (sV (ae (bS 8 n)))/\yW w w':=by
 have t:=fun W x=>xF W x
 go_enter func62,ntmps62
 go_wp2
 go_loopg [0,3] n (fun g a o wr=>∃(m f:Nat) (b:yB),g=m/\m<=n/\a=i6 m/\o=sV b/\yH (bS 8 n=bS f m++b.data.toList/\m<256 ^ f/\f<=8/\b.size+f=8)/\yW w wr)
 case atStart=>exact⟨n,8,ByteArray.empty,rfl,Ug _,rfl,rfl,⟨by simp,by omega,Ug _,rfl⟩,Un _ _⟩
 case round=>
  obtain⟨m,f,b,j,u,rfl,rfl,d,h⟩:=hrel;have p:=aa j;have c:=aa h;have z:b.size<=8:=by have:=d.o.2.2.2;omega
  clear j h;by_cases h0:0<m
  ·have A:IntKind.u8.wrap ((m:Int) % 256)=((m % 256:Nat):Int):=by rw[VI];omega
   have s:(0:Int)<(m:Int):=by omega
   have k:=tU (m % 256) (by omega);have y:(strOfNums [(m:Int) % 256]).size=1:=by rw[strOfNums_size];rfl
   have q:=aa k;clear k;go_wp2
   go_roundg (m / 256)
   case measure=>have:=p.o;omega
   case rel=>
    obtain⟨d1,d2,d3,d4⟩:=d.o;have e:strOfNums [(m:Int) % 256]++b=ae (UInt8.ofNat (m % 256)::b.data.toList):=by
     have e1:((m:Int) % 256)=((m % 256:Nat):Int):=by omega
     rw[e1,q.o];conv=>lhs;rw[<-gA b]
     rw[rh];rfl
    cases f with
    |zero=>simp at d2;omega
    |succ f=>
     refine⟨m / 256,f,strOfNums [(m:Int) % 256]++b,rfl,by omega,by go_num,rfl,⟨?_,by rw[Nat.pow_succ] at d2;omega,by omega,?_⟩,c.o.alloc c.o.size _⟩
     ·rw[d1,e,eU];conv=>lhs;unfold bS
      rw[Ui (by omega),UI];rfl
     ·rw[e,aN];simp;omega
  ·have r:m=0:=by omega
   subst r;have i:ae (bS 8 n)=b:=by rw[d.o.1,uK,VL,gA]
   have l:=aa i;clear i;go_wp2
   go_ret
   exact⟨by rw[l.o];rfl,c.o⟩
def IW(n:Nat):(bS 8 n).length<=8:=qE 8 n
def AK(a n:Nat):(cV a n).length<=9:=by
 unfold cV;split
 ·simp
 ·have:=IW n;simp;omega
def Hp(a n:Nat)(m:a<=192)(i:n<140737488355329)(w:World):
 yC 153 #[i6 a,i6 n] w fun e w'=>e=rV (sV (ae (cV a n)))/\yW w w':=by
 have k:=fun W x=>xF W x
 by_cases h:n<=55
 ·have g:decide ((n:Int)<=55)=true:=by simp;omega
  have j:IntKind.u8.wrap ((a:Int)+(n:Int))=((a+n:Nat):Int):=by rw[VI];omega
  have b:ae (cV a n)=strOfNums [((a+n:Nat):Int)]:=by
   unfold cV;rw[Uj h,tU _ (by omega)]
  have c:=aa b;clear b;go_enter func153,ntmps153
  go_wp2
  go_ret
  refine⟨by rw[c.o];rfl,(Un _ _).alloc (Ug _) _⟩
 ·have g:decide ((n:Int)<=55)=false:=by simp;omega
  have l:=IW n;have p:(ae (bS 8 n)).size=(bS 8 n).length:=aN _;have b:ae (cV a n)=strOfNums [((a+55+(bS 8 n).length:Nat):Int)]++ae (bS 8 n):=by
   unfold cV;rw[Ui h,tU _ (by omega),rh];rfl
  have c:=aa b;clear b;go_enter func153,ntmps153
  go_wp2_with fail
  refine(S8 n i _).mono ?_;rintro e w1 ⟨rfl,d⟩;have f:=aa d;clear d;generalize ae (bS 8 n)=D at*;generalize hL:(bS 8 n).length=L at*;have j:IntKind.u8.wrap ((a:Int)+55+(L:Int))=((a+55+L:Nat):Int):=by rw[VI];omega
  have o:∀x:Int,(strOfNums [x]).size=1:=fun x=>by rw[strOfNums_size];rfl
  go_wp2
  go_ret
  exact⟨by rw[c.o];rfl,f.o.alloc f.o.size _⟩
def mK(a:Nat)(l:yL):Bool:=decide ((cV a l.length).length+l.length<=4096)
def Hj(a:Nat)(s:yB)(g:a<=192)(i:s.size<140737488355329)(w:World):
 yC 142 #[i6 a,sV s] w fun e w'=>e=rV (tV #[sV (if mK a s.data.toList then ae (cV a s.size++s.data.toList) else ByteArray.empty),bV (mK a s.data.toList)])/\yW w w':=by
 have d:s.data.toList.length=s.size:=by simp
 have m:=AK a s.size;have n:(ae (cV a s.size)).size=(cV a s.size).length:=aN _;have k:yH (ae (cV a s.size++s.data.toList)=ae (cV a s.size)++s):=by
  conv=>rhs;rw[<-gA s]
  exact(rh _ _).symm
 by_cases h:(cV a s.size).length+s.size<=4096
 ·have c:mK a s.data.toList=true:=by unfold mK;rw[d];exact Uw h
  rw[c,Uj rfl,k.o];have l:decide ((4096:Int)<((cV a s.size).length:Int)+(s.size:Int))=false:=by simp;omega
  clear d c;go_enter func142,ntmps142
  go_wp2_with fail
  refine(Hp a s.size g i _).mono ?_;rintro e w1 ⟨rfl,b⟩;have f:=aa b;clear b;generalize hD:ae (cV a s.size)=D at*;have j:=aa hD;clear hD;generalize (cV a s.size).length=L at*;go_wp2
  go_ret2
  exact⟨by rw[j.o];rfl,f.o⟩
 ·have c:mK a s.data.toList=false:=by unfold mK;rw[d];exact Uv h
  rw[c];have l:decide ((4096:Int)<((cV a s.size).length:Int)+(s.size:Int))=true:=by simp;omega
  clear d c;go_enter func142,ntmps142
  go_wp2_with fail
  refine(Hp a s.size g i _).mono ?_;rintro e w1 ⟨rfl,b⟩;have f:=aa b;clear b;generalize ae (cV a s.size)=D at*;generalize (cV a s.size).length=L at*;go_wp2
  go_ret2
  exact⟨rfl,f.o⟩
structure ik(w:World)(S:Nat->Prop)(k:Value)(n:Nat)(xs:List Value):Prop where
 len:xs.length=3*n
 pe:(n=0/\∃a c,k=lV a 0 c)\/∃b o c,k=lV (some ⟨b,o,none⟩) n c/\S b/\∀j,j<3*n->w.cell? ⟨b,o+j,none⟩=xs[j]?
def vg(k:Value):Prop:=∃a n c,k=lV a n c
def bg:Nat->World->(Nat->Prop)->List Value->Tree->Prop
 | 0,_,_,cs,x=>∃t k,cs=[bV false,sV t,k]/\x=ak t.data.toList/\t.size<140737488355329/\vg k
 |d+1,w,S,cs,x=>(∃t k,cs=[bV false,sV t,k]/\x=ak t.data.toList/\t.size<140737488355329/\vg k)\/
  (∃t k ks xs,cs=[bV true,sV t,k]/\x=bJ ks/\ik w S k ks.length xs/\ks.length<140737488355329/\∀i,i<ks.length->bg d w S ((xs.drop (3*i)).take 3) (ks.getD i (ak [])))
def nw(d:Nat)(w S)(t:yB)(k)(h:t.size<140737488355329)(a:vg k:=by exact⟨_,_,_,rfl⟩):bg d w S [bV false,sV t,k] (ak t.data.toList):=by
 cases d with
 |zero=>exact⟨t,k,rfl,rfl,h,a⟩
 |succ d=>exact .inl ⟨t,k,rfl,rfl,h,a⟩
def xm(d:Nat)(w S)(t:yB)(k)(ks:List Tree)(a:List Value)(h:ik w S k ks.length a)(b:ks.length<140737488355329)(c:∀i,i<ks.length->bg d w S ((a.drop (3*i)).take 3) (ks.getD i (ak []))):
 bg (d+1) w S [bV true,sV t,k] (bJ ks):=.inr ⟨t,k,ks,a,rfl,rfl,h,b,c⟩
def ik.move{w w':World}{S S' k n d}(h:ik w S k n d)(f:∀b,S b->b<w.heap.size->S' b/\w'.heap[b]? =w.heap[b]?):ik w' S' k n d:=by
 refine⟨h.len,?_⟩;rcases h.pe with h0|⟨b,o,c,rfl,g,e⟩
 ·exact .inl h0
 ·by_cases m:n=0
  ·subst m;exact .inl ⟨rfl,_,_,rfl⟩
  ·have h0:=e 0 (by omega);have p:d[0]? =some (d[0]'(by rw[h.len];omega)):=Uh _;rw[p] at h0;have l:b<w.heap.size:=UE w _ h0;let⟨s1,s2⟩:=f b g l;exact .inr ⟨b,o,c,rfl,s1,fun j i=>(Uz (w:=w) (a:=⟨b,o+j,none⟩) s2).trans (e j i)⟩
def bg.move{w w':World}{S S'}(a:∀b,S b->b<w.heap.size->S' b/\w'.heap[b]? =w.heap[b]?):∀(d:Nat) (cs:List Value) (x:Tree),bg d w S cs x->bg d w' S' cs x:=by
 intro d;induction d with
 |zero=>intro cs x h;exact h
 |succ d ih=>
  intro cs x h;rcases h with h|⟨t,k,ks,g,rfl,rfl,f,c,e⟩
  ·exact .inl h
  ·exact .inr ⟨t,k,ks,g,rfl,rfl,f.move a,c,fun i hi=>ih _ _ (e i hi)⟩
def bg.below{w w' S d cs x}(h:bg d w S cs x)(k:yW w w'):bg d w' S cs x:=
 bg.move (fun b a c=>⟨a,k.block b c⟩) d cs x h
def ik.below{w w' S k n a}(h:ik w S k n a)(b:yW w w'):ik w' S k n a:=
 h.move (fun c d e=>⟨d,b.block c e⟩)
def fH(c:yL):Bool:=decide (c.length<=4096)
def iE(c:yL):yB:=if fH c then ae c else ByteArray.empty
def IC(l:Bool)(t):mK (fU l) t=fH (cV (fU l) t.length++t):=by unfold mK fH;rw[Uq]
def rG(c)(h:fH c=true):iE c=ae c:=by unfold iE;rw[h];rfl
def jq(d:Nat)(ks:List Tree)(i:Nat):yL:=((ks.take i).map (bu d)).flatten
def Sz(d:Nat)(ks:List Tree)(i:Nat)(h:i<ks.length):jq d ks (i+1)=jq d ks i++bu d (ks.getD i (ak [])):=by
 unfold jq;have e:ks.getD i (ak [])=ks[i]:=by simp[List.getD,Uh h]
 rw[Vb h,e,Vl,List.flatten_append];congr 1;simp only[List.map_cons,List.map_nil,List.flatten_cons,List.flatten_nil,UU]
def SD(d:Nat)(ks:List Tree)(i:Nat)(h:ks.length<=i):jq d ks i=(ks.map (bu d)).flatten:=by unfold jq;rw[U4 h]
def SB(d:Nat)(ks:List Tree)(i:Nat):(jq d ks i).length<=((ks.map (bu d)).flatten).length:=by
 have e:(ks.map (bu d)).flatten=jq d ks i++((ks.drop i).map (bu d)).flatten:=by
  unfold jq;rw[<-List.flatten_append,<-Vl,VB]
 rw[e,Uq];omega
def x8(d:Nat):Prop:=∀(w:World) (S:Nat->Prop) (v0 v1 v2:Value) (x:Tree),bg d w S [v0,v1,v2] x->
 yC 108 #[gV #[v0,v1,v2]] w fun e w'=>e=rV (tV #[sV (iE (bu d x)),bV (fH (bu d x))])/\yW w w'
def Cc(d:Nat):Prop:=∀(w:World) (S:Nat->Prop) (k:Value) (ks:List Tree) (a:List Value),ik w S k ks.length a->ks.length<140737488355329->(∀i,i<ks.length->bg d w S ((a.drop (3*i)).take 3) (ks.getD i (ak [])))->
 yC 140 #[k] w fun e w'=>e=rV (tV #[sV (iE (gZ (ks.map (bu d)).flatten)),bV (fH (gZ (ks.map (bu d)).flatten))])/\yW w w'
def Jg(w:World)(t:yB)(k:Value)(l:t.size<140737488355329):
 yC 108 #[.agg #[.bool false,.string t,k]] w fun e w'=>e=.returned (.tuple #[.string (iE (cL t.data.toList)),.bool (fH (cL t.data.toList))])/\yW w w':=by
 have b:t.data.toList.length=t.size:=by simp
 cases hb:fN t.data.toList with
 |true=>
  have e:cL t.data.toList=t.data.toList:=by unfold cL;rw[Uj hb]
  have a:fH t.data.toList=true:=by
   unfold fN at hb;simp at hb;unfold fH;rw[b];exact Uw (by omega)
  rw[e,rG _ a,gA,a];have c:=aa hb;clear hb e a b;go_enter func108,ntmps108
  go_wp2_with fail
  refine(xM t _).mono ?_;rw[c.o];rintro e w1 ⟨rfl,d⟩;subst d;go_wp2
  go_ret2
  exact⟨rfl,(Un _ _).alloc (Ug _) _⟩
 |false=>
  have e:cL t.data.toList=cV (fU false) t.size++t.data.toList:=by unfold cL;rw[Ui (by rw[hb];decide),b];rfl
  have a:=IC false t.data.toList;rw[b,<-e] at a;have c:=aa hb;have g:(if mK 128 t.data.toList then ae (cV 128 t.size++t.data.toList) else ByteArray.empty)=iE (cL t.data.toList):=by
   unfold iE;rw[<-a,e];rfl
  have j:yH ((if mK 128 t.data.toList then ae (cV 128 t.size++t.data.toList) else ByteArray.empty)=iE (cL t.data.toList)):=g;have i:yH (mK 128 t.data.toList=fH (cL t.data.toList)):=a;clear hb e a b g;go_enter func108,ntmps108
  go_wp2_with fail
  refine(xM t _).mono ?_;rw[c.o];rintro e w1 ⟨rfl,d⟩;subst d;go_wp2_with fail
  refine(Hj 128 t (by omega) l _).mono ?_;rw[j.o,i.o];rintro e w2 ⟨rfl,f⟩;have h:=aa (((Un _ _).alloc (Ug _) _).trans (f.mono (by simp)));clear f;go_wp2
  go_ret2
  exact⟨rfl,h.o⟩
def Jh(d:Nat)(j:Cc d):x8 (d+1):=by
 intro w S v0 v1 v2 x p;rcases p with⟨t,k,a,rfl,o⟩|⟨t,k,ks,q,a,rfl,g,n,f⟩
 ·simp only[VD,and_true] at a;obtain⟨rfl,rfl,rfl⟩:=a;rw[ij];exact Jg w t _ o.1
 ·simp only[VD,and_true] at a;obtain⟨rfl,rfl,rfl⟩:=a;rw[kI];have m:=fun(w:World) (h:yW w w)=>j w
  clear m;go_enter func108,ntmps108
  go_wp2_with fail
  have b:yW w (w.alloc (.cells #[bV true,sV t,v2] 120)):=(Un _ _).alloc (Ug _) _;refine(j _ S v2 ks q (g.below b) n (fun i hi=>(f i hi).below b)).mono ?_;rintro e w1 ⟨rfl,c⟩;have l:=aa (b.trans (c.mono (by simp)));clear c b g f;go_wp2
  go_ret2
  exact⟨rfl,l.o⟩
def Jf:x8 0:=by
 intro w S v0 v1 v2 x ⟨t,k,a,c,b⟩;subst c;simp only[VD,and_true] at a;obtain⟨rfl,rfl,rfl⟩:=a;rw[ij];exact Jg w t _ b.1
def LZ(l):Lib.strCells (ae l)=b9 l:=by
 unfold Lib.strCells b9;simp[eU]
def OJ{w:World}{base e v n b}(h:w.ownsRow base e 1 v n b):∃a cap,v=lV a n cap/\(a=none->n=0):=by
 rcases h.2 with⟨rfl,rfl⟩|⟨g,cap,c,rfl,_⟩
 ·exact⟨none,0,rfl,fun _=>rfl⟩
 ·exact⟨_,cap,rfl,fun h=>by cases h⟩
def Sq{w:World}{base v n l}(h:w.ownsRow base 5 1 v n (b9 l)):(convert 34 9 v).run yP w=.ok (sV (ae l)) w:=by
 have b:l.length=n:=by have:=h.1;simpa [b9] using this
 rcases h.2 with⟨rfl,h0⟩|⟨g,cap,d,rfl,e⟩
 ·have:l=[]:=UH.1 (by omega);subst this;exact run_convert_bytes_nil (P:=yP) w 34 5 underlying34 underlying5 0 0 9 underlying9
 ·rw[<-oN];exact VA (P:=yP) w 34 5 underlying34 underlying5 g 0 n cap (l.map (fun c=>(c.toNat:Int))) (by rw[UM,b]) (fun i hi=>by
   have:=h.cellAt i (by rw[Nat.mul_one];exact hi);rw[Vj,this];have a:i<l.length:=by omega
   simp[b9,List.getD,Uh a]) 9 underlying9
def rE{w w1:World}{base e c v n d}(h:w.ownsRow base e c v n d)(b:yW w w1):w1.ownsRow base e c v n d:=by
 refine⟨h.1,?_⟩;rcases h.2 with h0|⟨g,cap,f,l,i,a,k⟩
 ·exact .inl h0
 ·refine .inr ⟨g,cap,f,l,i,?_,k⟩;have j:g<w.heap.size:=by
   rcases Nat.lt_or_ge g w.heap.size with h|h
   ·exact h
   ·rw[UF h] at a;cases a
  rw[b.block g j];exact a
def OM(w:World)(base:Nat):w.ownsRow base 5 1 (lV none 0 0) 0 (b9 []):=⟨rfl,.inl ⟨rfl,rfl⟩⟩
def Gi(d:Nat)(ih:x8 d):Cc d:=by
 intro w S k ks f V hb y;obtain⟨i0,B6,C0,C1,C2⟩:=Vp rX;obtain⟨D,X,z⟩:∃D X,k=lV D ks.length X:=by
  rcases V.pe with⟨h0,a,c,rfl⟩|⟨b,o,c,rfl,_⟩
  ·exact⟨a,c,by rw[h0]⟩
  ·exact⟨_,c,rfl⟩
 subst z;have HR:=aa V;have HK:=aa y;have HI:=aa ih;obtain⟨n,C⟩:=yX ks.length
 have G:=aa C;obtain⟨T,L⟩:=yX (gZ (ks.map (bu d)).flatten)
 have K:=aa L;rw[<-C,<-L];rw[<-C] at hb;clear V y ih C L;go_enter func140,ntmps140
 go_wp2
 go_loopg [4,5] n (fun g v r wr=>∃(i:Nat) (m:Nat) (a:Option Addr) (cap:Nat),g=n - i/\i<=n/\r=i6 i/\v=lV a m cap/\m<=4096/\wr.ownsRow w.heap.size 5 1 (lV a m cap) m (b9 (jq d ks i))/\yW w wr)
 case atStart=>exact⟨0,0,none,0,rfl,by omega,rfl,rfl,by omega,OM _ _,Un _ _⟩
 case round=>
  obtain⟨i,m,a,cap,hg,hi,rfl,rfl,hm,Q,A3⟩:=hrel;have HG:=aa hg;have HO:=aa Q;have p:=aa A3;have q:(jq d ks i).length=m:=by have:=Q.1;simpa [b9] using this
  have HM:=aa q;clear q;clear hg Q A3;by_cases A5:i<n
  ·have B:=A5;rw[G.o] at B;have W:=HR.o.below p.o;rcases W.pe with⟨h0,_⟩|⟨b,o,c,z,C4,x⟩
   ·omega
   have B7:D=some ⟨b,o,none⟩:=by cases z;rfl
   subst B7;have B9:3*i+2<f.length:=by rw[W.len];omega
   have g0:wr.cell? ⟨b,o+i*3,none⟩=some (f[3*i]'(by omega)):=by rw[<-Uh,<-x (3*i) (by omega),Nat.mul_comm]
   have g1:wr.cell? ⟨b,o+i*3+1,none⟩=some (f[3*i+1]'(by omega)):=by rw[<-Uh,<-x (3*i+1) (by omega),Nat.mul_comm,Nat.add_assoc]
   have g2:wr.cell? ⟨b,o+i*3+2,none⟩=some (f[3*i+2]'(by omega)):=by rw[<-Uh,<-x (3*i+2) (by omega),Nat.mul_comm,Nat.add_assoc]
   have O:=(HK.o i B).below p.o;have e3:(f.drop (3*i)).take 3=[f[3*i]'(by omega),f[3*i+1]'(by omega),f[3*i+2]'(by omega)]:=by
    apply VQ;intro j;rw[Vv];split
    ·rw[VE];match j with
     | 0=>simp[Uh (show 3*i<f.length by omega)]
     | 1=>simp[Uh (show 3*i+1<f.length by omega)]
     | 2=>simp[Uh (show 3*i+2<f.length by omega)]
     |j+3=>omega
    ·rw[U9 (by simp;omega)]
   rw[e3] at O;generalize f[3*i]'(by omega)=v0 at*;generalize f[3*i+1]'(by omega)=v1 at*;generalize f[3*i+2]'(by omega)=v2 at*;have A7:=aa O;clear O e3 B9 x W B z;have A:4096<(jq d ks (i+1)).length->fH T=false/\iE T=ByteArray.empty:=by
    intro h;have h1:=SB d ks (i+1);have h2:fH T=false:=by
     unfold fH;rw[K.o];unfold gZ;rw[Uq];exact Uv (by omega)
    exact⟨h2,by unfold iE;rw[h2];rfl⟩
   have Z:=aa A;have J:=aa (Sz d ks i (by rw[<-G.o];exact A5));clear A;generalize hc:bu d (ks.getD i (ak []))=c at*;go_wp2_with fail
   refine(HI.o _ S v0 v1 v2 _ A7.o).mono ?_;rw[hc];rintro e w1 ⟨rfl,E⟩;have t:=aa (p.o.trans (E.mono p.o.size));have A1:=aa (rE HO.o E);clear E hc g0 g1 g2;cases l:fH c with
   |false=>
    have hl:4096<c.length:=by unfold fH at l;simpa using l
    obtain⟨q1,q2⟩:=Z.o (by rw[J.o,Uq];omega);have H:=aa q1;have I:=aa q2;clear q1 q2 l;go_wp2
    go_ret2
    exact⟨by rw[H.o,I.o];rfl,t.o⟩
   |true=>
    have hl:c.length<=4096:=by unfold fH at l;simpa using l
    have B0:=aa (rG c l);rw[B0.o];clear l;have s:=aN c;go_upto_region 8 with fail
    go_wp2_with (at_builtin;refine Lib.wpList_append_own_string _ rfl (.tmp 24) (.tmp 25) 34 9 rfl w.heap.size 5 i0 underlying34 underlying9 B6 C0 C1 C2 (lV a m cap) m (b9 (jq d ks i)) rfl A1.o (ae c) rfl ?d1 ?d2 ?d3 ?d4)
    case d1=>rw[s];unfold maxLen;omega
    case d2=>rw[s];omega
    case d3=>exact t.o.size
    intro C3 w2 R A4 _;rw[LZ] at R;have U:w2.ownsRow w.heap.size 5 1 C3 (m+c.length) (b9 (jq d ks (i+1))):=by
     have e:b9 (jq d ks (i+1))=b9 (jq d ks i)++b9 c:=by rw[J.o];simp[b9]
     rw[e];exact R
    obtain⟨a2,A2,rfl,_⟩:=OJ U;have A9:=aa U;have u:yH (yW w w2):=t.o.grown A4 t.o.size (fun k y=>(A1.o.lt k y).1);have A8:yH ((jq d ks (i+1)).length=m+c.length):=by
     rw[J.o,Uq,HM.o];rfl
    clear R U A4;obtain⟨M,q⟩:=yX (m+c.length)
    rw[<-q];have A0:=aa q;clear q;by_cases A:4096<M
    ·have B8:decide ((4096:Int)<(M:Int))=true:=by simp;omega
     obtain⟨q1,q2⟩:=Z.o (by rw[A8.o,<-A0.o];exact A);have H:=aa q1;have I:=aa q2;clear q1 q2;go_wp2
     go_ret2
     exact⟨by rw[H.o,I.o];rfl,u.o⟩
    ·have B8:decide ((4096:Int)<(M:Int))=false:=by simp;omega
     go_wp2
     go_roundg (n - (i+1))
     case measure=>have:=HG.o;omega
     case rel=>exact⟨i+1,M,a2,A2,rfl,by omega,by go_num,rfl,by omega,by rw[A0.o];exact A9.o,u.o⟩
  ·have N:jq d ks i=(ks.map (bu d)).flatten:=SD d ks i (by rw[<-G.o];omega);have B5:=Sq HO.o;rw[N] at B5;have P:=HM.o;rw[N] at P;generalize hF:(ks.map (bu d)).flatten=F at*;have s:=aN F;have l:=IC true F;have ho:(if mK 192 (ae F).data.toList then ae (cV 192 (ae F).size++(ae F).data.toList) else ByteArray.empty)=iE T:=by
    rw[eU,s,K.o];unfold iE gZ;rw[<-(show fU true=192 from rfl),<-l]
   have B3:=aa ho;have A6:yH (mK 192 (ae F).data.toList=fH T):=by rw[eU,K.o];unfold gZ;exact l
   have B4:yH ((ae F).size<140737488355329):=by rw[s,P];exact(show m<140737488355329 by omega)
   clear N hF l ho P s;have B:¬((i:Int)<(n:Int)):=by omega
   go_wp2_with fail
   refine(Hj 192 (ae F) (by omega) B4.o _).mono ?_;rw[B3.o,A6.o];rintro e w2 ⟨rfl,Y⟩;have u:=aa (p.o.trans (Y.mono p.o.size));clear Y;go_wp2
   go_ret2
   exact⟨rfl,u.o⟩
def xI:∀d,x8 d/\Cc d
 | 0=>⟨Jf,Gi 0 Jf⟩
 |d+1=>⟨Jh d (xI d).2,Gi (d+1) (Jh d (xI d).2)⟩
def BI(d:Nat):Prop:=∀(w:World) (S:Nat->Prop) (k:Value) (ks:List Tree) (a:List Value) (l:Nat),1<=l->l<=7->ik w S k ks.length a->ks.length<140737488355329->(∀i,i<ks.length->bg d w S ((a.drop (3*i)).take 3) (ks.getD i (ak [])))->
 yC 107 #[k,iV .i64 l] w fun e w'=>e=rV (bV (bN (7 - l) (bJ ks)))/\w'=w
def nA(L:Nat)(ks:List Tree):bN (L+1) (bJ ks)=(decide (ks.length<=64) && ks.all (bN L)):=by
 unfold bJ;simp only[bN]
def nz(L:Nat)(t):bN L (ak t)=true:=by unfold ak;simp only[bN]
def AW(ks:List Tree):bN 0 (bJ ks)=false:=by unfold bJ;simp only[bN]
def LC{a:List Value}{i}(h:3*i+2<a.length):(a.drop (3*i)).take 3=[a[3*i]'(by omega),a[3*i+1]'(by omega),a[3*i+2]'(by omega)]:=by
 apply VQ;intro j;rw[Vv];split
 ·rw[VE];match j with
  | 0=>simp[Uh (show 3*i<a.length by omega)]
  | 1=>simp[Uh (show 3*i+1<a.length by omega)]
  | 2=>simp[Uh (show 3*i+2<a.length by omega)]
  |j+3=>omega
 ·rw[U9 (by simp;omega)]
def tI{w S}{d:Nat}{j n q}{ks:List Tree}{e}(h:ik w S (lV j n q) ks.length e)(m:n=ks.length)
 (k:∀i,i<ks.length->bg d w S ((e.drop (3*i)).take 3) (ks.getD i (ak []))) (i:Nat) (hi:i<n):
 ∃b o v0 v1 v2,j=some ⟨b,o,none⟩/\w.cell? ⟨b,o+i*3,none⟩=some v0/\w.cell? ⟨b,o+i*3+1,none⟩=some v1/\w.cell? ⟨b,o+i*3+2,none⟩=some v2/\bg d w S [v0,v1,v2] (ks.getD i (ak [])):=by
 have f:=hi;rw[m] at f;rcases h.pe with⟨h0,_⟩|⟨b,o,c,l,r,a⟩
 ·omega
 have p:3*i+2<e.length:=by rw[h.len];omega
 have g:=k i f;rw[LC p] at g;refine⟨b,o,_,_,_,?_,?_,?_,?_,g⟩
 ·cases l;rfl
 ·rw[<-Uh,<-a (3*i) (by omega),Nat.mul_comm]
 ·rw[<-Uh,<-a (3*i+1) (by omega),Nat.mul_comm,Nat.add_assoc]
 ·rw[<-Uh,<-a (3*i+2) (by omega),Nat.mul_comm,Nat.add_assoc]
def lp{d w S v0 v1 v2 x}(h:bg d w S [v0,v1,v2] x):
 (∃t,v0=bV false/\v1=sV t/\x=ak t.data.toList/\t.size<140737488355329)\/
 (∃e t ks c,d=e+1/\v0=bV true/\v1=sV t/\x=bJ ks/\ik w S v2 ks.length c/\ks.length<140737488355329/\∀i,i<ks.length->bg e w S ((c.drop (3*i)).take 3) (ks.getD i (ak []))):=by
 cases d with
 |zero=>
  let⟨t,k,a,b,f,_⟩:=h;simp only[VD,and_true] at a;exact .inl ⟨t,a.1,a.2.1,b,f⟩
 |succ d=>
  rcases h with⟨t,k,a,b,f,_⟩|⟨t,k,ks,c,a,b,l,g,j⟩
  ·simp only[VD,and_true] at a;exact .inl ⟨t,a.1,a.2.1,b,f⟩
  ·simp only[VD,and_true] at a;let⟨h1,h2,h3⟩:=a;subst h3;exact .inr ⟨d,t,ks,c,rfl,h1,h2,b,l,g,j⟩
def ik.slice{w S k n d}(h:ik w S k n d):∃a c,k=lV a n c:=by
 rcases h.pe with⟨rfl,a,c,e⟩|⟨b,o,c,e,_⟩
 ·exact⟨a,c,e⟩
 ·exact⟨_,c,e⟩
def rU{d w S v0 v1 v2 x}(h:bg d w S [v0,v1,v2] x):vg v2:=by
 cases d with
 |zero=>
  let⟨t,k,b,_,_,hs⟩:=h;simp only[VD,and_true] at b;rw[b.2.2];exact hs
 |succ d=>
  rcases h with⟨t,k,b,_,_,hs⟩|⟨t,k,ks,g,b,_,f,_⟩
  ·simp only[VD,and_true] at b;rw[b.2.2];exact hs
  ·simp only[VD,and_true] at b;let⟨a,c,e⟩:=f.slice;rw[b.2.2];exact⟨a,_,c,e⟩
def Ct(d:Nat)(X:∀e,d=e+1->BI e):BI d:=by
 intro w S k ks Y l h1 h7 G hb Q;obtain⟨J,K,A4⟩:∃J K,k=lV J ks.length K:=by
  rcases G.pe with⟨h0,a,c,rfl⟩|⟨b,o,c,rfl,_⟩
  ·exact⟨a,c,by rw[h0]⟩
  ·exact⟨_,c,rfl⟩
 subst A4;have HK:=aa Q;have HI:=aa X;obtain⟨n,s⟩:=yX ks.length
 have q:=aa s;have HR:yH (ik w S (lV J n K) ks.length Y):=by rw[s];exact G
 obtain⟨R,A⟩:=yX (bN (7 - l) (bJ ks))
 have y:=aa A;rw[<-s,<-A];rw[<-s] at hb;clear G Q X s A;by_cases A8:6<l
 ·have A5:decide ((6:Int)<(l:Int))=true:=by simp;omega
  have f:R=false:=by rw[y.o,show 7 - l=0 by omega,AW]
  have p:=aa f;clear f;go_enter func107,ntmps107
  go_wp2
  go_ret
  exact⟨by rw[p.o];rfl,rfl⟩
 ·have A5:decide ((6:Int)<(l:Int))=false:=by simp;omega
  have e7:7 - l=(6 - l)+1:=by omega
  by_cases h64:64<n
  ·have A6:decide ((64:Int)<(n:Int))=true:=by simp;omega
   have f:R=false:=by rw[y.o,e7,nA,Uv (by rw[<-q.o];omega)];rfl
   have p:=aa f;clear f;go_enter func107,ntmps107
   go_wp2
   go_ret
   exact⟨by rw[p.o];rfl,rfl⟩
  ·have A6:decide ((64:Int)<(n:Int))=false:=by simp;omega
   have N:R=ks.all (bN (6 - l)):=by rw[y.o,e7,nA,Uw (by rw[<-q.o];omega)];rfl
   have L:=aa N;clear N e7;go_enter func107,ntmps107
   go_wp2
   go_loopg [5] n (fun g r wr=>wr=w/\∃i:Nat,g=n - i/\i<=n/\r=i6 i/\yH (∀j,j<i->bN (6 - l) (ks.getD j (ak []))=true))
   case atStart=>exact⟨rfl,0,rfl,by omega,rfl,fun j h=>by omega⟩
   case round=>
    obtain⟨hw,i,P,hi,rfl,C⟩:=hrel;subst hw;have M:=aa P;clear P;by_cases U:i<n
    ·obtain⟨b,o,v0,v1,v2,A3,g0,g1,g2,E⟩:=tI HR.o q.o HK.o i U;subst A3;have V:ks.getD i (ak [])∈ks:=by
      have D:=U;rw[q.o] at D;have e:ks.getD i (ak [])=ks[i]:=by simp[List.getD,Uh D]
      rw[e];exact Vc D
     have A1:=aa V;clear V;rcases lp E with⟨t,rfl,rfl,m,H⟩|⟨e,t,u,A7,O,rfl,rfl,m,W,A2,T⟩
     ·have v:=aa m;clear m E;go_wp2
      go_roundg (n - (i+1))
      case measure=>have:=M.o;omega
      case rel=>exact⟨rfl,i+1,rfl,by omega,by go_num,fun j F=>by
       by_cases e:j=i
       ·subst e;rw[v.o];exact nz _ _
       ·exact C.o j (by omega)⟩
     ·have v:=aa m;have B:=HI.o e O wr S v2 u A7 (l+1) (by omega) (by omega) W A2 T;have z:((l+1:Nat):Int)=(l:Int)+1:=by omega
      rw[z] at B;have Z:=aa B;clear m E B W T O;go_wp2_with fail
      refine Z.m ?_;have e6:7 - (l+1)=6 - l:=by omega
      rw[e6];cases hfl:bN (6 - l) (bJ u) with
      |true=>
       have A0:=aa hfl;clear hfl z e6;rintro e w' ⟨rfl,I⟩;subst I;go_wp2
       go_roundg (n - (i+1))
       case measure=>have:=M.o;omega
       case rel=>exact⟨rfl,i+1,rfl,by omega,by go_num,fun j F=>by
        by_cases e:j=i
        ·subst e;rw[v.o];exact A0.o
        ·exact C.o j (by omega)⟩
      |false=>
       have f:R=false:=by
        rw[L.o];cases hq:ks.all (bN (6 - l)) with
        |false=>rfl
        |true=>have:=Vy.1 hq _ A1.o;rw[v.o,hfl] at this;cases this
       have p:=aa f;clear hfl z e6 f;rintro e w' ⟨rfl,I⟩;subst I;go_wp2
       go_ret
       exact⟨by rw[p.o];rfl,rfl⟩
    ·have H:R=true:=by
      rw[L.o];refine Vy.2 fun x m=>?_
      obtain⟨j,F,rfl⟩:=List.getElem_of_mem m;have:=C.o j (by have:=q.o;omega);have e:ks.getD j (ak [])=ks[j]:=by simp[List.getD,Uh F]
      rw[e] at this;exact this
     have HT:=aa H;clear H;go_wp2
     go_ret
     exact⟨by rw[HT.o];rfl,rfl⟩
def Cu:∀d,BI d
 | 0=>Ct 0 (fun e h=>by omega)
 |d+1=>Ct (d+1) (fun e h=>by
  have:e=d:=by omega
  subst this
  exact Cu e)
def ff(x:Tree):Int:=if bN 6 x=true then(if fH (bu 6 x)=true then 0 else 1) else 8
def ft(x:Tree):yB:=if bN 6 x=true then iE (bu 6 x) else ByteArray.empty
def uH(w S v0 v1 v2)(x:Tree)(n:bg 6 w S [v0,v1,v2] x):
 yC 63 #[gV #[v0,v1,v2]] w fun e w'=>e=rV (tV #[sV (ft x),i6 (ff x)])/\yW w w':=by
 have g:yW w (w.alloc (.cells #[v0,v1,v2] 120)):=(Un _ _).alloc (Ug _) _;have y:=aa (n.below g);have j:=aa g;rcases lp n with⟨t,rfl,rfl,rfl,B⟩|⟨e,t,ks,A,b,rfl,rfl,rfl,r,z,q⟩
 ·have a:=nz 6 t.data.toList;have d:ft (ak t.data.toList)=iE (bu 6 (ak t.data.toList)):=by unfold ft;rw[Uj a]
  have b:ff (ak t.data.toList)=(if fH (bu 6 (ak t.data.toList))=true then 0 else 1):=by unfold ff;rw[Uj a]
  have m:=aa d;have l:=aa b;clear n g d b a;go_enter func63,ntmps63
  go_wp2_with fail
  refine((xI 6).1 _ S _ _ _ _ y.o).mono ?_;rintro e w1 ⟨rfl,h⟩;have k:=aa (j.o.trans (h.mono j.o.size));clear h;generalize bu 6 (ak t.data.toList)=c at*;cases hf:fH c with
  |true=>
   have f:=aa hf;clear hf;go_wp2
   go_ret2
   exact⟨by rw[m.o,l.o,f.o];rfl,k.o⟩
  |false=>
   have f:=aa hf;have p:yH (iE c=ByteArray.empty):=by unfold iE;rw[hf];rfl
   clear hf;go_wp2
   go_ret2
   exact⟨by rw[m.o,l.o,f.o,p.o];rfl,k.o⟩
 ·obtain rfl:e=5:=by omega
  have s:=Cu 5 _ S v2 ks A 1 (by omega) (by omega) (r.below g) z (fun i hi=>(q i hi).below g);have v:=aa s;cases a:bN 6 (bJ ks) with
  |false=>
   have d:ft (bJ ks)=ByteArray.empty:=by unfold ft;rw[a];rfl
   have b:ff (bJ ks)=8:=by unfold ff;rw[a];rfl
   rw[d,b];have o:=aa a;clear n g d b a r q s;go_enter func63,ntmps63
   go_wp2_with fail
   refine v.m ?_;rw[o.o];rintro e w1 ⟨rfl,u⟩;subst u;go_wp2
   go_ret2
   exact⟨rfl,j.o⟩
  |true=>
   have d:ft (bJ ks)=iE (bu 6 (bJ ks)):=by unfold ft;rw[Uj a]
   have b:ff (bJ ks)=(if fH (bu 6 (bJ ks))=true then 0 else 1):=by unfold ff;rw[Uj a]
   have m:=aa d;have l:=aa b;have o:=aa a;clear n g d b a r q s;go_enter func63,ntmps63
   go_wp2_with fail
   refine v.m ?_;rw[o.o];rintro e w1 ⟨rfl,u⟩;subst u;go_wp2_with fail
   refine((xI 6).1 _ S _ _ _ _ y.o).mono ?_;rintro e w1 ⟨rfl,h⟩;have k:=aa (j.o.trans (h.mono j.o.size));clear h;generalize bu 6 (bJ ks)=c at*;cases hf:fH c with
   |true=>
    have f:=aa hf;clear hf;go_wp2
    go_ret2
    exact⟨by rw[m.o,l.o,f.o];rfl,k.o⟩
   |false=>
    have f:=aa hf;have p:yH (iE c=ByteArray.empty):=by unfold iE;rw[hf];rfl
    clear hf;go_wp2
    go_ret2
    exact⟨by rw[m.o,l.o,f.o,p.o];rfl,k.o⟩
def nN(l:Bool)(f t:Nat):Value:=gV #[bV l,iV .i64 f,iV .i64 t]
def DH(s:yB)(l:Bool)(f n:Nat)(hs:s.size<=4096)(a:f<=s.size)(c:s.size - f<n)(w:World):
 yC 159 #[sV s,bV l,i6 f,iV .u64 n] w fun e w'=>e=rV (tV #[nN false 0 0,i6 5])/\yW w w':=by
 have d:IntKind.u64.wrap ((s.size:Int) - (f:Int))=(s.size:Int) - (f:Int):=by rw[IntKind.wrap_u64];omega
 have b:decide ((s.size:Int) - (f:Int)<(n:Int))=true:=by simp;omega
 go_enter func159,ntmps159
 go_wp2
 exact UB (v:=tV #[gV #[bV false,i6 0,i6 0],i6 5]) (by simp[results,results159,go_sem]) rfl ⟨rfl,(Un _ _).alloc (Ug _) _⟩
def DG(s:yB)(l:Bool)(f n:Nat)(hs:s.size<=4096)(b:f<=s.size)(d:¬s.size - f<n)(w:World):
 yC 159 #[sV s,bV l,i6 f,iV .u64 n] w fun e w'=>e=rV (tV #[nN l f (f+n),i6 0])/\yW w w':=by
 have h:IntKind.u64.wrap ((s.size:Int) - (f:Int))=(s.size:Int) - (f:Int):=by rw[IntKind.wrap_u64];omega
 have c:decide ((s.size:Int) - (f:Int)<(n:Int))=false:=by simp;omega
 have g:n<=4096:=by omega
 have i:IntKind.i64.wrap (n:Int)=(n:Int):=by rw[UY];omega
 have a:yH (((f+n:Nat):Int)=(f:Int)+(n:Int)):=by exact Int.natCast_add f n
 go_enter func159,ntmps159
 go_wp2
 exact UB (v:=tV #[gV #[bV l,i6 f,i6 ((f:Int)+(n:Int))],i6 0]) (by simp[results,results159,go_sem]) rfl ⟨by unfold nN;rw[a.o],(Un _ _).alloc (Ug _) _⟩
def OW(m c:Nat)(a:m*256<18446744073709551616)(b:c<256):bits .or .u64 (IntKind.u64.wrap ((m:Int)*256)) (c:Int)=((m*256+c:Nat):Int):=by
 have e:IntKind.u64.wrap ((m:Int)*256)=((m*256:Nat):Int):=by rw[IntKind.wrap_u64];omega
 rw[e,u64_or_nat _ _ a (by omega),nat_join 8 (m*256) c (by omega) (by omega)]
def Ty(s:yB)(k:Nat)(h:k<s.size):be (s.data.toList.take (k+1))=be (s.data.toList.take k)*256+(s[k]).toNat:=by
 have e:s.data.toList.take (k+1)=s.data.toList.take k++[s[k]]:=by
  rw[Vb (by simpa using h)];rfl
 rw[e,BC]
def NU(k:Nat)(h:k<=7):256 ^ k<=72057594037927936:=by
 have:256 ^ k<=256 ^ 7:=Nat.pow_le_pow_right (by omega) h;exact this
def gL(s:yL)(n:Nat):Nat:=if s.length<n then 5 else if(s.getD 0 0).toNat=0\/be (s.take n)<=55 then 7 else 0
def mC(s:yL)(n:Nat):Nat:=if gL s n=0 then be (s.take n) else 0
def Qm(s:yB)(n:Nat)(hs:s.size<=4096)(h1:1<=n)(h8:n<=8)(w:World):
 yC 160 #[sV s,i6 n] w fun e w'=>e=rV (tV #[iV .u64 (mC s.data.toList n),i6 (gL s.data.toList n)])/\w'=w:=by
 have c:s.data.toList.length=s.size:=by simp
 by_cases v:s.size<n
 ·have a:gL s.data.toList n=5:=by unfold gL;rw[c,Uj v]
  have d:mC s.data.toList n=0:=by unfold mC;rw[a];rfl
  have b:yH (gL s.data.toList n=5/\mC s.data.toList n=0):=⟨a,d⟩
  have F:decide ((s.size:Int)<(n:Int))=true:=by simp;omega
  clear a d c;go_enter func160,ntmps160
  go_wp2
  go_ret2
  exact⟨by rw[b.o.1,b.o.2];rfl,rfl⟩
 ·have F:decide ((s.size:Int)<(n:Int))=false:=by simp;omega
  have G:0<s.size:=by omega
  have i:=aa c;clear c;go_enter func160,ntmps160
  go_wp2
  go_loopg [6,7] n (fun g z r wr=>wr=w/\∃k:Nat,g=n - k/\k<=n/\r=i6 k/\z=iV .u64 (be (s.data.toList.take k)))
  case atStart=>exact⟨rfl,0,rfl,by omega,rfl,rfl⟩
  case round=>
   obtain⟨I,k,t,L,rfl,rfl⟩:=hrel;subst I;have x:=aa t;clear t;by_cases N:k<n
   ·have E:k<s.size:=by omega
    have A:=aa (Ty s k E);have o:=TA (s.data.toList.take k);have H:=NU k (by omega);have u:(s.data.toList.take k).length=k:=by rw[UN,i.o];omega
    rw[u] at o;have C:be (s.data.toList.take k)<72057594037927936:=by omega
    clear o H u;generalize be (s.data.toList.take k)=m at*;have p:(s[k]).toNat<256:=(s[k]).toNat_lt;have d:=OW m (s[k]).toNat (by omega) p;have K:IntKind.u64.wrap ((s[k]).toNat:Int)=((s[k]).toNat:Int):=by rw[IntKind.wrap_u64];omega
    obtain⟨M,l⟩:=yX (m*256+(s[k]).toNat)
    rw[<-l] at d;have y:=aa l;clear l C p;have D:(k:Int)<(n:Int):=by omega
    go_wp2
    go_roundg (n - (k+1))
    case measure=>have:=x.o;omega
    case rel=>exact⟨rfl,k+1,rfl,by omega,by go_num,by rw[A.o,<-y.o]⟩
   ·have:k=n:=by omega
    subst this;have e0:s.data.toList.getD 0 0=s[0]:=by rw[Up,Uh (by rw[i.o];exact G)];rfl
    have q:gL s.data.toList k=if(s[0]).toNat=0\/be (s.data.toList.take k)<=55 then 7 else 0:=by
     unfold gL;rw[i.o,Ui v,e0]
    have D:¬((k:Int)<(k:Int)):=by omega
    have h:=aa q;have j:yH (mC s.data.toList k=if gL s.data.toList k=0 then be (s.data.toList.take k) else 0):=rfl;clear q e0;generalize be (s.data.toList.take k)=m at*;by_cases f:(s[0]).toNat=0
    ·have J:(((s[0]).toNat:Int) == 0)=true:=beq_iff_eq.2 (by omega);have a:gL s.data.toList k=7:=by rw[h.o,Uj (.inl f)]
     have b:yH (gL s.data.toList k=7/\mC s.data.toList k=0):=⟨a,by rw[j.o,a];rfl⟩
     clear a f;go_wp2
     go_ret2
     exact⟨by rw[b.o.1,b.o.2];rfl,rfl⟩
    ·have J:(((s[0]).toNat:Int) == 0)=false:=Vd.2 (by omega);by_cases h55:m<=55
     ·have B:decide ((m:Int)<=55)=true:=by simp;omega
      have a:gL s.data.toList k=7:=by rw[h.o,Uj (.inr h55)]
      have b:yH (gL s.data.toList k=7/\mC s.data.toList k=0):=⟨a,by rw[j.o,a];rfl⟩
      clear a f;go_wp2
      go_ret2
      exact⟨by rw[b.o.1,b.o.2];rfl,rfl⟩
     ·have B:decide ((m:Int)<=55)=false:=by simp;omega
      have a:gL s.data.toList k=0:=by rw[h.o,Ui (by omega)]
      have b:yH (gL s.data.toList k=0/\mC s.data.toList k=m):=⟨a,by rw[j.o,a];rfl⟩
      clear a f;go_wp2
      go_ret2
      exact⟨by rw[b.o.1,b.o.2];rfl,rfl⟩
def RL:Except Nat (Bool×Nat×Nat)->Value
 | .error _=>nN false 0 0
 | .ok (l,f,n)=>nN l f (f+n)
def RJ:Except Nat (Bool×Nat×Nat)->Nat
 | .error e=>e
 | .ok _=>0
def sA{W w1:World}(a:yW W w1):(∀b o,b<W.heap.size->w1.cell? ⟨b,o,none⟩=W.cell? ⟨b,o,none⟩)/\(∀b o,b<W.heap.size->w1.frozen? ⟨b,o,none⟩=W.frozen? ⟨b,o,none⟩):=
 ⟨fun b o h=>a.cell (p:=⟨b,o,none⟩) h,fun b o h=>a.frozen (p:=⟨b,o,none⟩) h⟩
def iB{w w1:World}{x y z T}(a:Below (w.alloc (.cells #[x,y,z] T)).heap.size (w.alloc (.cells #[x,y,z] T)) w1):
 w1.cell? ⟨w.heap.size,0,none⟩=some x/\w1.cell? ⟨w.heap.size,1,none⟩=some y/\w1.cell? ⟨w.heap.size,2,none⟩=some z/\w1.frozen? ⟨w.heap.size,0,none⟩=false/\w1.frozen? ⟨w.heap.size,1,none⟩=false/\w1.frozen? ⟨w.heap.size,2,none⟩=false:=by
 obtain⟨h1,h2⟩:=sA a;refine⟨?_,?_,?_,?_,?_,?_⟩
 ·rw[h1 _ _ (by simp)];simp
 ·rw[h1 _ _ (by simp)];simp
 ·rw[h1 _ _ (by simp)];simp
 ·rw[h2 _ _ (by simp)];simp
 ·rw[h2 _ _ (by simp)];simp
 ·rw[h2 _ _ (by simp)];simp
def R7(s:yB):(s.extract 1 s.size).data.toList=s.data.toList.drop 1:=by
 rw[Lib.extract_data,U4 (by simp)]
def Hl(s:yL)(h:s.length=0):fE s=.error 5:=by unfold fE;rw[Uj h]
def Hn(s:yL)(h:s.length≠0)(c:Nat)(a:(s.getD 0 0).toNat=c)(h1:c<128):fE s=.ok (false,0,1):=by
 unfold fE;rw[Ui h,a,Uj h1]
def Hk(s:yL)(h:s.length≠0)(c base:Nat)(b:(s.getD 0 0).toNat=c)(h1:¬c<128)(a:base=if 192<=c then 192 else 128)(h2:c - base<=55):fE s=lJ s (decide (192<=c)) 1 (c - base):=by
 unfold fE;rw[Ui h,b,Ui h1,<-a,Uj h2]
def Ho(s:yL)(h:s.length≠0)(c base:Nat)(e:(s.getD 0 0).toNat=c)(h1:¬c<128)(d:base=if 192<=c then 192 else 128)(h2:¬c - base<=55):
 fE s=if gL (s.drop 1) (c - base - 55)=0 then lJ s (decide (192<=c)) (1+(c - base) - 55) (mC (s.drop 1) (c - base - 55)) else .error (gL (s.drop 1) (c - base - 55)):=by
 have e1:(s.drop 1).getD 0 0=s.getD 1 0:=by rw[Up,VE,Up]
 have a:gL (s.drop 1) (c - base - 55)=if s.length - 1<c - base - 55 then 5 else if(s.getD 1 0).toNat=0\/be ((s.drop 1).take (c - base - 55))<=55 then 7 else 0:=by
  unfold gL;rw[Uu,e1]
 have b:mC (s.drop 1) (c - base - 55)=if gL (s.drop 1) (c - base - 55)=0 then be ((s.drop 1).take (c - base - 55)) else 0:=rfl;unfold fE;rw[Ui h,e,Ui h1,<-d,Ui h2];by_cases h3:s.length - 1<c - base - 55
 ·rw[Uj h3];rw[Uj h3] at a;rw[a];rfl
 ·rw[Ui h3];rw[Ui h3] at a;by_cases h4:(s.getD 1 0).toNat=0\/be ((s.drop 1).take (c - base - 55))<=55
  ·rw[Uj h4];rw[Uj h4] at a;rw[a];rfl
  ·rw[Ui h4];rw[Ui h4] at a;rw[b,a,Uj rfl,Uj rfl]
def RG(s:yB)(hs:s.size<=4096)(w:World):
 yC 154 #[sV s] w fun e w'=>e=rV (tV #[RL (fE s.data.toList),i6 (RJ (fE s.data.toList))])/\yW w w':=by
 have d:s.data.toList.length=s.size:=by simp
 by_cases h0:s.size=0
 ·rw[Hl _ (by rw[d];exact h0)];have G:((s.size:Int) == 0)=true:=beq_iff_eq.2 (by omega);clear d h0;go_enter func154,ntmps154
  go_wp2
  exact UB (v:=tV #[gV #[bV false,i6 0,i6 0],i6 5]) (by simp[results,results154,go_sem]) rfl ⟨rfl,(Un _ _).alloc (Ug _) _⟩
 have G:((s.size:Int) == 0)=false:=Vd.2 (by omega);have C:0<s.size:=by omega
 have i:s.data.toList.length≠0:=by rw[d];exact h0
 obtain⟨c,F⟩:∃c:Nat,(s[0]).toNat=c:=⟨_,rfl⟩
 have Q:c<256:=by rw[<-F];exact(s[0]).toNat_lt
 have g:(s.data.toList.getD 0 0).toNat=c:=by rw[Up,Uh (by rw[d];exact C)];exact F
 by_cases h1:c<128
 ·rw[Hn _ i c g h1];have H:decide ((c:Int)<128)=true:=by simp;omega
  clear d i g;go_enter func154,ntmps154
  go_wp2
  exact UB (v:=tV #[gV #[bV false,i6 0,i6 1],i6 0]) (by simp[results,results154,go_sem]) rfl ⟨rfl,(Un _ _).alloc (Ug _) _⟩
 have H:decide ((c:Int)<128)=false:=by simp;omega
 have N:(decide ((192:Int)<=(c:Int))=true/\192=(if 192<=c then 192 else 128)/\decide (192<=c)=true/\∃n:Nat,n=c - 192/\(c:Int) - 192=(n:Int)/\n<=63)\/(decide ((192:Int)<=(c:Int))=false/\128=(if 192<=c then 192 else 128)/\decide (192<=c)=false/\∃n:Nat,n=c - 128/\(c:Int) - 128=(n:Int)/\n<=63):=by
  by_cases h2:192<=c
  ·exact Or.inl ⟨by simp;omega,(Uj h2).symm,Uw h2,_,rfl,by omega,by omega⟩
  ·exact Or.inr ⟨by simp;omega,(Ui h2).symm,Uv h2,_,rfl,by omega,by omega⟩
 rcases N with⟨I,j,k,n,l,L,K⟩|⟨I,j,k,n,l,L,K⟩;all_goals
  have S:IntKind.u64.wrap (n:Int)=(n:Int):=by rw[IntKind.wrap_u64];omega
  by_cases h55:n<=55
  ·have J:decide ((n:Int)<=55)=true:=by simp;omega
   have a:=Hk s.data.toList i c _ g h1 j (by omega);rw[k,<-l] at a;unfold lJ at a;rw[d] at a;by_cases f:s.size - 1<n
   ·rw[Uj f] at a;rw[a];have o:=aa f;clear d i g a j k l f;go_enter func154,ntmps154
    go_wp2_with fail
    refine(DH s _ 1 n hs C o.o _).mono ?_;rintro e w1 ⟨rfl,b⟩;obtain⟨k0,k1,k2,f0,f1,f2⟩:=iB b;have m:=aa (((Un _ _).alloc (Ug _) _).trans (b.mono (by simp)));clear b;unfold nN;go_wp2
    exact UB (v:=tV #[gV #[bV false,i6 0,i6 0],i6 5]) (by simp[results,results154,go_sem,k0,k1,k2]) rfl ⟨rfl,((m.o.setCell (Ug _) _).setCell (Ug _) _).setCell (Ug _) _⟩
   ·rw[Ui f] at a;rw[a];have o:=aa f;clear d i g a j k l f;go_enter func154,ntmps154
    go_wp2_with fail
    refine(DG s _ 1 n hs C o.o _).mono ?_;rintro e w1 ⟨rfl,b⟩;obtain⟨k0,k1,k2,f0,f1,f2⟩:=iB b;have m:=aa (((Un _ _).alloc (Ug _) _).trans (b.mono (by simp)));clear b;unfold nN;go_wp2
    exact UB (v:=tV #[gV #[bV _,i6 ((1:Nat):Int),i6 ((1+n:Nat):Int)],i6 0]) (by simp[results,results154,go_sem,k0,k1,k2]) rfl ⟨rfl,((m.o.setCell (Ug _) _).setCell (Ug _) _).setCell (Ug _) _⟩
  ·have J:decide ((n:Int)<=55)=false:=by simp;omega
   obtain⟨q,z⟩:=yX (n - 55)
   have T:(n:Int) - 55=(q:Int):=by omega
   have M:1<=q:=by omega
   have O:q<=8:=by omega
   have R:1+(n:Int) - 55=((1+q:Nat):Int):=by omega
   have a:=Ho s.data.toList i c _ g h1 j (by omega);rw[k,<-l,<-z,show 1+n - 55=1+q by omega] at a;have u:(s.extract 1 s.size).size<=4096:=by simp only[ByteArray.size_extract];omega
   have p:=Qm (s.extract 1 s.size) q u M O;rw[R7] at p;have B:=aa p;have x:gL (s.data.toList.drop 1) q=0->1+q<=s.size:=by
    intro t;unfold gL at t;rw[Uu,d] at t;by_cases h:s.size - 1<q
    ·rw[Uj h] at t;cases t
    ·omega
   generalize gL (s.data.toList.drop 1) q=E at*;generalize mC (s.data.toList.drop 1) q=V at*;by_cases D:E=0
   ·subst D;rw[Uj rfl] at a;unfold lJ at a;rw[d] at a;have y:=x rfl;by_cases f:s.size - (1+q)<V
    ·rw[Uj f] at a;rw[a];have o:=aa f;have A:=aa y;clear d i g a j k l f p z x y u;go_enter func154,ntmps154
     go_wp2_with fail
     refine(B.o _).mono ?_;rintro e w0 ⟨rfl,r⟩;subst r;go_wp2_with fail
     refine(DH s _ (1+q) V hs A.o o.o _).mono ?_;rintro e w1 ⟨rfl,b⟩;obtain⟨k0,k1,k2,f0,f1,f2⟩:=iB b;have m:=aa (((Un _ _).alloc (Ug _) _).trans (b.mono (by simp)));clear b;unfold nN;go_wp2
     exact UB (v:=tV #[gV #[bV false,i6 0,i6 0],i6 5]) (by simp[results,results154,go_sem,k0,k1,k2]) rfl ⟨rfl,((m.o.setCell (Ug _) _).setCell (Ug _) _).setCell (Ug _) _⟩
    ·rw[Ui f] at a;rw[a];have o:=aa f;have A:=aa y;clear d i g a j k l f p z x y u;go_enter func154,ntmps154
     go_wp2_with fail
     refine(B.o _).mono ?_;rintro e w0 ⟨rfl,r⟩;subst r;go_wp2_with fail
     refine(DG s _ (1+q) V hs A.o o.o _).mono ?_;rintro e w1 ⟨rfl,b⟩;obtain⟨k0,k1,k2,f0,f1,f2⟩:=iB b;have m:=aa (((Un _ _).alloc (Ug _) _).trans (b.mono (by simp)));clear b;unfold nN;go_wp2
     exact UB (v:=tV #[gV #[bV _,i6 ((1+q:Nat):Int),i6 ((1+q+V:Nat):Int)],i6 0]) (by simp[results,results154,go_sem,k0,k1,k2]) rfl ⟨rfl,((m.o.setCell (Ug _) _).setCell (Ug _) _).setCell (Ug _) _⟩
   ·rw[Ui D] at a;rw[a];have P:((E:Int) != 0)=true:=by simp;omega
    clear d i g a j k l p z x u;go_enter func154,ntmps154
    go_wp2_with fail
    refine(B.o _).mono ?_;rintro e w0 ⟨rfl,r⟩;subst r;go_wp2
    exact UB (v:=tV #[gV #[bV false,i6 0,i6 0],i6 (E:Int)]) (by simp[results,results154,go_sem]) rfl ⟨rfl,(Un _ _).alloc (Ug _) _⟩
def T6(d:Nat)(w:World)(r:Except Nat (Tree×Nat))(e:Ending)(w':World):Prop:=
 match r with
 | .error c=>e=rV (tV #[gV #[bV false,sV ByteArray.empty,lV none 0 0],iV .i64 0,iV .i64 c])
 | .ok (x,u)=>∃l t a m c,e=rV (tV #[gV #[bV l,sV t,lV a m c],iV .i64 u,iV .i64 0])/\bg d w' (fun b=>w.heap.size<=b) [bV l,sV t,lV a m c] x
def xX(d:Nat):Prop:=∀(w:World) (s:yB) (a:Nat),s.size<=4096->a+d=7->
 yC 144 #[sV s,iV .i64 a] w fun e w'=>T6 d w (dr d s.data.toList) e w'/\yW w w'
def Uf(d:Nat)(w:World)(r:Except Nat (List Tree))(e:Ending)(w':World):Prop:=
 match r with
 | .error c=>e=rV (tV #[lV none 0 0,iV .i64 c])/\c≠0
 | .ok ks=>∃k xs,e=rV (tV #[k,iV .i64 0])/\ik w' (fun b=>w.heap.size<=b) k ks.length xs/\ks.length<=64/\∀i,i<ks.length->bg d w' (fun b=>w.heap.size<=b) ((xs.drop (3*i)).take 3) (ks.getD i (ak []))
def BO(d:Nat):Prop:=∀(w:World) (s:yB) (a:Nat),s.size<=4096->a+d=7->
 yC 155 #[sV s,iV .i64 a] w fun e w'=>Uf d w (eR (dr d) 64 s.data.toList) e w'/\yW w w'
def DF(s)(l:Bool)(f n c:Nat)(h:lJ s l f n=.error c):c=5:=by
 unfold lJ at h;by_cases h1:s.length - f<n
 ·rw[Uj h1] at h;cases h;rfl
 ·rw[Ui h1] at h;cases h
def AM(s)(c:Nat)(h:fE s=.error c):c=5\/c=7:=by
 by_cases h0:s.length=0
 ·rw[Hl s h0] at h;cases h;exact .inl rfl
 by_cases h1:(s.getD 0 0).toNat<128
 ·rw[Hn s h0 _ rfl h1] at h;cases h
 by_cases h2:(s.getD 0 0).toNat - (if 192<=(s.getD 0 0).toNat then 192 else 128)<=55
 ·rw[Hk s h0 _ _ rfl h1 rfl h2] at h;exact .inl (DF _ _ _ _ _ h)
 rw[Ho s h0 _ _ rfl h1 rfl h2] at h;generalize (s.getD 0 0).toNat - (if 192<=(s.getD 0 0).toNat then 192 else 128) - 55=q at h;by_cases h3:gL (s.drop 1) q=0
 ·rw[Uj h3] at h;exact .inl (DF _ _ _ _ _ h)
 ·rw[Ui h3] at h;cases h
  unfold gL at h3⊢;by_cases h4:(s.drop 1).length<q
  ·rw[Uj h4];exact .inl rfl
  ·rw[Ui h4] at h3⊢;by_cases h5:((s.drop 1).getD 0 0).toNat=0\/be ((s.drop 1).take q)<=55
   ·rw[Uj h5];exact .inr rfl
   ·rw[Ui h5] at h3;exact absurd rfl h3
def yD(d:Nat)(s)(c:Nat)(h:fE s=.error c):dr d s=.error c:=by unfold dr;rw[h]
def yE(d:Nat)(s)(f n:Nat)(h:fE s=.ok (false,f,n))(b:0<f)(a:fN ((s.drop f).take n)=true):dr d s=.error 7:=by
 unfold dr;rw[h];simp only;rw[Uj trivial,Uj ⟨b,a⟩]
def yA(d:Nat)(s)(f n:Nat)(h:fE s=.ok (false,f,n))(a:¬(0<f/\fN ((s.drop f).take n)=true)):dr d s=.ok (ak ((s.drop f).take n),f+n):=by
 unfold dr;rw[h];simp only;rw[Uj trivial,Ui a]
def Dh(s)(f n:Nat)(h:fE s=.ok (true,f,n)):dr 0 s=.error 8:=by
 unfold dr;rw[h];simp
def Dg(d:Nat)(s)(f n c:Nat)(h:fE s=.ok (true,f,n))(a:eR (dr d) 64 ((s.drop f).take n)=.error c):dr (d+1) s=.error c:=by
 conv=>lhs;unfold dr
 rw[h];simp only[Bool.true_eq_false,UT];rw[a]
def Df(d:Nat)(s)(f n:Nat)(ks:List Tree)(h:fE s=.ok (true,f,n))(a:eR (dr d) 64 ((s.drop f).take n)=.ok ks):dr (d+1) s=.ok (bJ ks,f+n):=by
 conv=>lhs;unfold dr
 rw[h];simp only[Bool.true_eq_false,UT];rw[a]
def Sn(s:yB)(f t:Nat):(s.extract f t).data.toList=(s.data.toList.drop f).take (t - f):=Lib.extract_data s f t
def zi{w w1 w2:World}{x y z p q r:Value}{T:TypeId}(b:w.heap.size<w1.heap.size)(k0:w1.cell? ⟨w.heap.size,0,none⟩=some x)(k1:w1.cell? ⟨w.heap.size,1,none⟩=some y)(k2:w1.cell? ⟨w.heap.size,2,none⟩=some z)
 (f0:w1.frozen? ⟨w.heap.size,0,none⟩=false) (f1:w1.frozen? ⟨w.heap.size,1,none⟩=false) (f2:w1.frozen? ⟨w.heap.size,2,none⟩=false)
 (c:Below (w1.alloc (.cells #[p,q,r] T)).heap.size (w1.alloc (.cells #[p,q,r] T)) w2):
 w2.cell? ⟨w.heap.size,0,none⟩=some x/\w2.cell? ⟨w.heap.size,1,none⟩=some y/\w2.cell? ⟨w.heap.size,2,none⟩=some z/\w2.frozen? ⟨w.heap.size,0,none⟩=false/\w2.frozen? ⟨w.heap.size,1,none⟩=false/\w2.frozen? ⟨w.heap.size,2,none⟩=false/\w2.cell? ⟨w1.heap.size,2,none⟩=some r:=by
 obtain⟨h1,h2⟩:=sA c;have a:w.heap.size<(w1.alloc (.cells #[p,q,r] T)).heap.size:=by simp;omega
 refine⟨?_,?_,?_,?_,?_,?_,?_⟩
 ·rw[h1 _ _ a,World.cell?_alloc_lt _ _ _ b];exact k0
 ·rw[h1 _ _ a,World.cell?_alloc_lt _ _ _ b];exact k1
 ·rw[h1 _ _ a,World.cell?_alloc_lt _ _ _ b];exact k2
 ·rw[h2 _ _ a,World.frozen?_alloc_past _ _ _ b];exact f0
 ·rw[h2 _ _ a,World.frozen?_alloc_past _ _ _ b];exact f1
 ·rw[h2 _ _ a,World.frozen?_alloc_past _ _ _ b];exact f2
 ·rw[h1 _ _ (by simp)];simp
def sy{n w w1}(h:Below n w w1)(a b c):Below n w (((w1.setCell ⟨n,0,none⟩ a).setCell ⟨n,1,none⟩ b).setCell ⟨n,2,none⟩ c):=
 ((h.setCell (Ug _) _).setCell (Ug _) _).setCell (Ug _) _
def oB{n w w1}(h:Below n w w1)(d:n<w1.heap.size)(a b c)(o:Obj):Below n w ((((w1.setCell ⟨n,0,none⟩ a).setCell ⟨n,1,none⟩ b).setCell ⟨n,2,none⟩ c).alloc o):=
 (sy h a b c).alloc (by simp[World.setCell];omega) o
def zl(d:Nat)(I:∀e,d=e+1->BO e):xX d:=by
 intro w s J hs B7;have z:s.data.toList.length=s.size:=by simp
 have x:=fun w=>RG s hs w
 cases hh:fE s.data.toList with
 |error c=>
  rw[yD d _ c hh];have A2:=AM _ _ hh;rw[hh] at x;have p:yH (∀w,yC 154 #[sV s] w fun e w'=>e=rV (tV #[gV #[bV false,i6 0,i6 0],i6 c])/\yW w w'):=x;have B0:((c:Int) != 0)=true:=by simp;omega
  clear x hh z A2;go_enter func144,ntmps144
  go_wp2_with fail
  refine(p.o _).mono ?_;rintro e w1 ⟨rfl,g⟩;obtain⟨k0,k1,k2,f0,f1,f2⟩:=iB g;have q:yH (yW w w1):=((Un _ _).alloc (Ug _) _).trans (g.mono (by simp));have m:w.heap.size<w1.heap.size:=by have:=g.size;simp at this;omega
  clear g;go_wp2
  exact UB (v:=tV #[gV #[bV false,sV ⟨#[]⟩,lV none 0 0],i6 0,i6 (c:Int)]) (by simp[results,results144,go_sem,k0,k1,k2,m]) rfl ⟨rfl,oB q.o m _ _ _ _⟩
 |ok lfn=>
  obtain⟨l,f,n⟩:=lfn;obtain⟨H,G⟩:=AL _ l f n hh;have A3:f+n<=s.size:=by
   rcases G with⟨_,rfl,rfl,_⟩|⟨_,h,_⟩
   ·rw[z] at H;omega
   ·rw[z] at h;exact h
  rw[hh] at x;have p:yH (∀w,yC 154 #[sV s] w fun e w'=>e=rV (tV #[gV #[bV l,i6 f,i6 ((f+n:Nat):Int)],i6 0])/\yW w w'):=x;have u:(s.extract f (f+n)).data.toList=(s.data.toList.drop f).take n:=by rw[Sn,Nat.add_sub_cancel_left]
  have B:(s.extract f (f+n)).size=n:=by simp only[ByteArray.size_extract];omega
  have A8:yH ((s.extract f (f+n)).data.toList=(s.data.toList.drop f).take n):=u;obtain⟨t,j⟩:=yX (f+n)
  rw[<-j] at A3;have B6:f<=t:=by omega
  have P:yH (t=f+n):=j;cases l with
  |false=>
   by_cases r:0<f/\fN ((s.data.toList.drop f).take n)=true
   ·rw[yE d _ f n hh r.1 r.2];have Y:(0:Int)<(f:Int):=by omega
    have F:=fun w=>xM (s.extract f t) w
    rw[j,u,r.2] at F;have O:yH (∀w,yC 141 #[sV (s.extract f t)] w fun e w'=>e=rV (bV true)/\w'=w):=by rw[j];exact F
    clear x hh z H G r F u B I;rw[<-j] at p;clear j;go_enter func144,ntmps144
    go_wp2_with fail
    refine(p.o _).mono ?_;rintro e w1 ⟨rfl,g⟩;obtain⟨k0,k1,k2,f0,f1,f2⟩:=iB g;have q:yH (yW w w1):=((Un _ _).alloc (Ug _) _).trans (g.mono (by simp));have m:w.heap.size<w1.heap.size:=by have:=g.size;simp at this;omega
    clear g;go_wp2_with fail
    refine(O.o _).mono ?_;rintro e w2 ⟨rfl,T⟩;subst T;go_wp2
    exact UB (v:=tV #[gV #[bV false,sV ⟨#[]⟩,lV none 0 0],i6 0,i6 7]) (by simp[results,results144,go_sem,k0,k1,k2,m]) rfl ⟨rfl,oB q.o m _ _ _ _⟩
   ·rw[yA d _ f n hh r];have U:yH (∀W:World,bg d W (fun b=>w.heap.size<=b) [bV false,sV (s.extract f t),lV none 0 0] (ak ((s.data.toList.drop f).take n))):=by
     intro W;have:=nw d W (fun b=>w.heap.size<=b) (s.extract f t) (lV none 0 0) (by rw[j,B];omega);rw[j,u,<-j] at this;exact this
    by_cases Y:f=0
    ·subst Y;rw[<-j] at p;clear x hh z H G r u B I j;go_enter func144,ntmps144
     go_wp2_with fail
     refine(p.o _).mono ?_;rintro e w1 ⟨rfl,g⟩;obtain⟨k0,k1,k2,f0,f1,f2⟩:=iB g;have q:yH (yW w w1):=((Un _ _).alloc (Ug _) _).trans (g.mono (by simp));have m:w.heap.size<w1.heap.size:=by have:=g.size;simp at this;omega
     clear g;go_wp2
     go_region
     all_goals go_wp2
     all_goals exact UB (v:=tV #[gV #[bV false,sV (s.extract 0 t),lV none 0 0],i6 (t:Int),i6 0]) (by simp[results,results144,go_sem,k0,k1,k2,m]) rfl ⟨⟨false,s.extract 0 t,none,0,0,by rw[<-P.o],U.o _⟩,(oB q.o m _ _ _ _).drew⟩
    ·have X:fN ((s.data.toList.drop f).take n)=false:=by
      cases h:fN ((s.data.toList.drop f).take n) with
      |false=>rfl
      |true=>exact absurd ⟨by omega,h⟩ r
     have B5:(0:Int)<(f:Int):=by omega
     have F:=fun w=>xM (s.extract f t) w
     rw[j,u,X] at F;have O:yH (∀w,yC 141 #[sV (s.extract f t)] w fun e w'=>e=rV (bV false)/\w'=w):=by rw[j];exact F
     rw[<-j] at p;clear x hh z H G r u B I j F X;go_enter func144,ntmps144
     go_wp2_with fail
     refine(p.o _).mono ?_;rintro e w1 ⟨rfl,g⟩;obtain⟨k0,k1,k2,f0,f1,f2⟩:=iB g;have q:yH (yW w w1):=((Un _ _).alloc (Ug _) _).trans (g.mono (by simp));have m:w.heap.size<w1.heap.size:=by have:=g.size;simp at this;omega
     clear g;go_wp2_with fail
     refine(O.o _).mono ?_;rintro e w2 ⟨rfl,T⟩;subst T;go_wp2
     go_region
     all_goals go_wp2
     all_goals exact UB (v:=tV #[gV #[bV false,sV (s.extract f t),lV none 0 0],i6 (t:Int),i6 0]) (by simp[results,results144,go_sem,k0,k1,k2,m]) rfl ⟨⟨false,s.extract f t,none,0,0,by rw[<-P.o],U.o _⟩,(oB q.o m _ _ _ _).drew⟩
  |true=>
   cases d with
   |zero=>
    rw[Dh _ f n hh];have A5:(6:Int)<(J:Int):=by omega
    rw[<-j] at p;clear x hh z H G u B I j;go_enter func144,ntmps144
    go_wp2_with fail
    refine(p.o _).mono ?_;rintro e w1 ⟨rfl,g⟩;obtain⟨k0,k1,k2,f0,f1,f2⟩:=iB g;have q:yH (yW w w1):=((Un _ _).alloc (Ug _) _).trans (g.mono (by simp));have m:w.heap.size<w1.heap.size:=by have:=g.size;simp at this;omega
    clear g;go_wp2
    exact UB (v:=tV #[gV #[bV false,sV ⟨#[]⟩,lV none 0 0],i6 0,i6 8]) (by simp[results,results144,go_sem,k0,k1,k2,m]) rfl ⟨rfl,oB q.o m _ _ _ _⟩
   |succ d=>
    have A5:¬((6:Int)<(J:Int)):=by omega
    have E:=fun w=>I d rfl w (s.extract f t) (J+1) (by rw[j,B];omega) (by omega)
    have Q:((J+1:Nat):Int)=(J:Int)+1:=by omega
    rw[j,u,<-j,Q] at E;cases hk:eR (dr d) 64 ((s.data.toList.drop f).take n) with
    |error c=>
     rw[Dg d _ f n c hh hk];rw[hk] at E;have M:yH (∀w:World,yC 155 #[sV (s.extract f t),i6 ((J:Int)+1)] w fun e w'=>Uf d w (.error c) e w'/\yW w w'):=E;rw[<-j] at p;clear x hh z H G u B I j E hk Q;go_enter func144,ntmps144
     go_wp2_with fail
     refine(p.o _).mono ?_;rintro e w1 ⟨rfl,g⟩;obtain⟨k0,k1,k2,f0,f1,f2⟩:=iB g;have q:yH (yW w w1):=((Un _ _).alloc (Ug _) _).trans (g.mono (by simp));have m:w.heap.size<w1.heap.size:=by have:=g.size;simp at this;omega
     clear g;go_wp2_with fail
     refine(M.o _).mono ?_;rintro e w2 ⟨⟨rfl,B3⟩,y⟩;have B4:((c:Int) != 0)=true:=by simp;omega
     obtain⟨m0,m1,m2,q0,q1,q2,a2⟩:=zi m k0 k1 k2 f0 f1 f2 y;have N:yH (yW w w2):=(q.o.alloc (Nat.le_of_lt m) _).trans (y.mono (by simp;omega));have A7:w.heap.size<w2.heap.size:=by have:=y.size;simp at this;omega
     clear y;go_wp2
     exact UB (v:=tV #[gV #[bV false,sV ⟨#[]⟩,lV none 0 0],i6 0,i6 (c:Int)]) (by simp[results,results144,go_sem,m0,m1,m2]) rfl ⟨rfl,sy N.o _ _ _⟩
    |ok ks=>
     rw[Df d _ f n ks hh hk];rw[hk] at E;have M:yH (∀w:World,yC 155 #[sV (s.extract f t),i6 ((J:Int)+1)] w fun e w'=>Uf d w (.ok ks) e w'/\yW w w'):=E;rw[<-j] at p;clear x hh z H G u B I j E hk Q;go_enter func144,ntmps144
     go_wp2_with fail
     refine(p.o _).mono ?_;rintro e w1 ⟨rfl,g⟩;obtain⟨k0,k1,k2,f0,f1,f2⟩:=iB g;have q:yH (yW w w1):=((Un _ _).alloc (Ug _) _).trans (g.mono (by simp));have m:w.heap.size<w1.heap.size:=by have:=g.size;simp at this;omega
     clear g;go_wp2_with fail
     refine(M.o _).mono ?_;rintro e w2 ⟨⟨k,xs,rfl,R,h64,Z⟩,y⟩;obtain⟨C,D,A4⟩:∃C D,k=lV C ks.length D:=by
      rcases R.pe with⟨h0,a,c,rfl⟩|⟨b,o,c,rfl,_⟩
      ·exact⟨a,c,by rw[h0]⟩
      ·exact⟨_,c,rfl⟩
     subst A4;obtain⟨K,L⟩:=yX ks.length
     have A9:yH (K=ks.length):=L;obtain⟨m0,m1,m2,q0,q1,q2,a2⟩:=zi m k0 k1 k2 f0 f1 f2 y;have N:yH (yW w w2):=(q.o.alloc (Nat.le_of_lt m) _).trans (y.mono (by simp;omega));have A7:w.heap.size<w2.heap.size:=by have:=y.size;simp at this;omega
     have A0:∀(A:World),(∀b,b≠w.heap.size->A.heap[b]? =w2.heap[b]?)->bg (d+1) A (fun b=>w.heap.size<=b) [bV true,sV ⟨#[]⟩,lV C ks.length D] (bJ ks):=fun A h3=>by
      have V:∀b,(w1.heap.size+1<=b)->b<w2.heap.size->(w.heap.size<=b)/\A.heap[b]? =w2.heap[b]? :=fun b r _=>⟨by omega,h3 b (by omega)⟩
      have A6:ik w2 (fun b=>w1.heap.size+1<=b) (lV C ks.length D) ks.length xs:=by simpa using R
      refine xm d A _ _ (lV C ks.length D) ks xs (A6.move V) (by omega) (fun i hi=>bg.move (w:=w2) (S:=fun b=>w1.heap.size+1<=b) V d _ _ (by simpa using Z i hi))
     have A1:yH (∀(A:World),(∀b,b≠w.heap.size->A.heap[b]? =w2.heap[b]?)->bg (d+1) A (fun b=>w.heap.size<=b) [bV true,sV ⟨#[]⟩,lV C K D] (bJ ks)):=by rw[L];exact A0
     rw[<-L];clear y R Z A0 L;go_wp2
     go_region
     all_goals go_wp2
     all_goals exact UB (v:=tV #[gV #[bV true,sV ⟨#[]⟩,lV C K D],i6 (t:Int),i6 0]) (by simp[results,results144,go_sem,m0,m1,m2]) rfl ⟨⟨true,⟨#[]⟩,C,K,D,by rw[<-P.o],A1.o _ (fun b r=>by simp[Uy,r,World.drew])⟩,(sy N.o _ _ _).drew⟩
def yF(f:yL->Except Nat (Tree×Nat))(b:∀s c,f s=.error c->c≠0):∀(m:Nat) (a) (c:Nat),eR f m a=.error c->c≠0
 | 0,a,c,h=>by
  unfold eR at h
  by_cases h0:a.length=0
  ·rw[Uj h0] at h;cases h
  ·rw[Ui h0] at h;cases h;decide
 |m+1,a,c,h=>by
  unfold eR at h
  by_cases h0:a.length=0
  ·rw[Uj h0] at h;cases h
  ·rw[Ui h0] at h
   simp only at h
   cases hk:f a with
   |error e=>rw[hk] at h;cases h;exact b _ _ hk
   |ok ku=>
    let⟨k,u⟩:=ku
    rw[hk] at h
    simp only at h
    cases hr:eR f m (a.drop u) with
    |error e=>rw[hr] at h;cases h;exact yF f b m _ _ hr
    |ok ks'=>rw[hr] at h;cases h
def De:∀(d:Nat) (s) (c:Nat),dr d s=.error c->c≠0:=by
 intro d;induction d with
 |zero=>
  intro s c h;cases hh:fE s with
  |error e=>rw[yD 0 s e hh] at h;cases h;have:=AM _ _ hh;omega
  |ok lfn=>
   let⟨l,f,n⟩:=lfn;cases l with
   |true=>rw[Dh s f n hh] at h;cases h;decide
   |false=>
    by_cases a:0<f/\fN ((s.drop f).take n)=true
    ·rw[yE 0 s f n hh a.1 a.2] at h;cases h;decide
    ·rw[yA 0 s f n hh a] at h;cases h
 |succ d ih=>
  intro s c h;cases hh:fE s with
  |error e=>rw[yD (d+1) s e hh] at h;cases h;have:=AM _ _ hh;omega
  |ok lfn=>
   let⟨l,f,n⟩:=lfn;cases l with
   |true=>
    cases hk:eR (dr d) 64 ((s.drop f).take n) with
    |error e=>rw[Dg d s f n e hh hk] at h;cases h;exact yF _ ih _ _ _ hk
    |ok ks=>rw[Df d s f n ks hh hk] at h;cases h
   |false=>
    by_cases a:0<f/\fN ((s.drop f).take n)=true
    ·rw[yE (d+1) s f n hh a.1 a.2] at h;cases h;decide
    ·rw[yA (d+1) s f n hh a] at h;cases h
def mF(ks:List Tree)(r:Except Nat (List Tree)):Except Nat (List Tree):=match r with
 | .error e=>.error e
 | .ok rs=>.ok (ks++rs)
def LL(f:yL->Except Nat (Tree×Nat))(m:Nat)(a:yL)(h:a.length=0):eR f m a=.ok []:=by unfold eR;rw[Uj h]
def LN(f:yL->Except Nat (Tree×Nat))(a:yL)(h:a.length≠0):eR f 0 a=.error 8:=by unfold eR;rw[Ui h]
def LO(f:yL->Except Nat (Tree×Nat))(m:Nat)(a:yL)(c:Nat)(h:a.length≠0)(b:f a=.error c):eR f (m+1) a=.error c:=by
 unfold eR;rw[Ui h];simp only;rw[b]
def LK(f:yL->Except Nat (Tree×Nat))(m:Nat)(a:yL)(k:Tree)(u:Nat)(h:a.length≠0)(b:f a=.ok (k,u)):eR f (m+1) a=mF [k] (eR f m (a.drop u)):=by
 conv=>lhs;unfold eR
 rw[Ui h];simp only;rw[b];simp only;unfold mF;cases eR f m (a.drop u)<;>rfl
def QW(ks:List Tree)(k:Tree)(r:Except Nat (List Tree)):mF ks (mF [k] r)=mF (ks++[k]) r:=by
 unfold mF;cases r<;>simp
def AD:(yP.info? 120).map (fun i=>(i.zero,i.size,i.bytes))=some (some (gV #[bV false,sV ⟨#[]⟩,lV none 0 0]),3,48):=by kernel_rfl
def Fc(W:World)(x y z){H}(b:W.heap.size=H):∀j u,[x,y,z][j]? =some u->(W.alloc (.cells #[x,y,z] 120)).cell? ((⟨H,0,none⟩:Addr).add j)=some u:=by
 subst b;intro j u a;match j,a with
 | 0,a=>simp at a;subst a;simp[Addr.add]
 | 1,a=>simp at a;subst a;simp[Addr.add]
 | 2,a=>simp at a;subst a;simp[Addr.add]
 | (j+3),a=>simp at a
def Fe{w:World}{base v n a}(h:w.ownsRow base 120 3 v n a):ik w (fun b=>base<=b) v n a:=by
 refine⟨by rw[h.1];omega,?_⟩;rcases h.2 with⟨rfl,rfl⟩|⟨g,cap,d,rfl,c,_⟩
 ·exact .inl ⟨rfl,_,_,rfl⟩
 ·refine .inr ⟨g,0,cap,rfl,c,fun j e=>?_⟩;rw[Vj];exact h.cellAt j (by omega)
def EA(d:Nat)(ih:xX d):BO d:=by
 intro w s P hs A5;obtain⟨i0,B8,C4,C5,C6⟩:=Vp AD;have S:=aa ih;have T:=aa A5;obtain⟨R,G⟩:=yX (eR (dr d) 64 s.data.toList)
 rw[<-G];have U:yH (∀c,R=.error c->c≠0):=fun c h=>by rw[G] at h;exact yF _ (De d) _ _ _ h
 have V:R=mF [] (eR (dr d) (64 - 0) s.data.toList):=by
  rw[G];unfold mF;cases eR (dr d) 64 s.data.toList<;>rfl
 have B4:=aa V;clear ih G V A5;go_enter func155,ntmps155
 go_wp2
 go_loopg [0,6] s.size (fun g c v wr=>∃(b:yB) (m:Nat) (a:Option Addr) (cap:Nat) (ks:List Tree) (f:List Value),g=b.size/\b.size<=4096/\m<=64/\c=sV b/\v=lV a m cap/\
  yH (R=mF ks (eR (dr d) (64 - m) b.data.toList))/\yH (ks.length=m)/\wr.ownsRow w.heap.size 120 3 (lV a m cap) m f/\
  yH (∀i,i<m->bg d wr (fun q=>w.heap.size<=q/\(Value.slice a m cap).ownBlock≠some q) ((f.drop (3*i)).take 3) (ks.getD i (ak [])))/\yW w wr)
 case atStart=>exact⟨s,0,none,0,[],[],rfl,hs,by omega,rfl,rfl,B4.o,rfl,⟨rfl,.inl ⟨rfl,rfl⟩⟩,fun i h=>by omega,Un _ _⟩
 case round=>
  obtain⟨b,m,a,cap,ks,f,hg,Y,hm,rfl,rfl,H,C,A6,A2,Z⟩:=hrel;have HG:=aa hg;have J:=aa A6;have A:=aa Z;have A1:b.data.toList.length=b.size:=by simp
  have E:=aa A1;clear hg A6 Z A1;by_cases h0:0<b.size
  ·have B5:(0:Int)<(b.size:Int):=by omega
   by_cases h64:m=64
   ·have B6:((m:Int) == 64)=true:=beq_iff_eq.2 (by omega);have t:R=.error 8:=by
     rw[H.o,h64,Nat.sub_self,LN _ _ (by rw[E.o];omega)];rfl
    have B:=aa t;clear t;go_wp2
    go_ret2
    exact⟨by rw[B.o];exact⟨rfl,by decide⟩,A.o⟩
   ·have B6:((m:Int) == 64)=false:=Vd.2 (by omega);have e64:64 - m=(64 - (m+1))+1:=by omega
    cases hT:dr d b.data.toList with
    |error c=>
     have t:R=.error c:=by
      rw[H.o,e64,LO _ _ _ c (by rw[E.o];omega) hT];rfl
     have C7:((c:Int) != 0)=true:=by have:=U.o c t;simp;omega
     have B:=aa t;have L:=aa hT;clear t hT;go_wp2_with fail
     refine(S.o _ b P Y T.o).mono ?_;rw[L.o];rintro e w1 ⟨rfl,z⟩;have y:=aa (A.o.trans (z.mono A.o.size));clear z;go_wp2
     go_ret2
     refine⟨by rw[B.o];exact⟨rfl,U.o c B.o⟩,?_⟩;exact y.o.alloc y.o.size _
    |ok xu=>
     obtain⟨x,u⟩:=xu;have HS:yH (R=mF (ks++[x]) (eR (dr d) (64 - (m+1)) (b.data.toList.drop u))):=by
      rw[H.o,e64,LK _ _ _ x u (by rw[E.o];omega) hT,QW];rfl
     obtain⟨u1,u2,_,_⟩:=Dd d _ x u hT;have C8:u<=b.size:=by rw[E.o] at u2;exact u2
     have L:=aa hT;clear hT e64;go_wp2_with fail
     refine(S.o _ b P Y T.o).mono ?_;rw[L.o];rintro e w1 ⟨⟨o,r,l,p,n,rfl,A4⟩,z⟩;have B2:=aa A4;have y:=aa (A.o.trans (z.mono A.o.size));have Q:=aa z;have K:=aa (rE J.o z);clear A4 z;go_upto_region 8 with fail
     go_wp2_with (at_builtin;refine U0 _ rfl (.tmp 26) (.tmp 28) 118 rfl w.heap.size 120 i0 _ 3 48 underlying118 B8 C4 C5 C6 rfl (by decide) (lV a m cap) m f rfl ((K.o.alloc _).alloc _) ⟨w1.heap.size+1,0,none⟩ 1 1 [bV o,sV r,lV l p n] rfl rfl ?c1 ?c2 (by omega) ?c3 ?c4 ?c5 _ rfl ?c6)
     case c1=>exact Fc (w1.alloc _) _ _ _ (by simp)
     case c2=>intro v hv;simp at hv;rcases hv with rfl|rfl|rfl<;>rfl
     case c3=>unfold maxLen;omega
     case c4=>omega
     case c5=>have:=y.o.size;simp;omega
     intro g2 F w2 A7 O X C1;have W:∀q,q<w1.heap.size->((w1.alloc (.cells #[bV o,sV r,lV l p n] 120)).alloc (.cells #[bV o,sV r,lV l p n] 120)).heap[q]? =w1.heap[q]? :=fun q j=>by
      rw[U6 _ _ _ (by simp;omega),U6 _ _ _ j]
     have N:∀q,q<w1.heap.size->(Value.slice a m cap).ownBlock≠some q->w2.heap[q]? =w1.heap[q]? :=fun q j D=>by
      rw[<-W q j];exact O.block q (by simp;omega) (fun h=>D h.symm)
     have M:∀q,q<w1.heap.size->(Value.slice a m cap).ownBlock≠some q->(Value.slice (qA g2) (m+1) F).ownBlock≠some q:=fun q j D h=>by
      have B7:g2=q:=by simpa [Value.ownBlock] using h
      rcases X with h2|h2
      ·rw[B7] at h2;exact D h2
      ·omega
     have A0:yW w w2:=((y.o.alloc y.o.size _).alloc (by have:=y.o.size;simp;omega) _).grown O (by have:=y.o.size;simp;omega) (fun k hk=>(K.o.lt k hk).1);have C2:=Q.o.size;have A3:∀i,i<m+1->bg d w2 (fun q=>w.heap.size<=q/\(Value.slice (qA g2) (m+1) F).ownBlock≠some q) (((f++[Value.bool o,Value.string r,Value.slice l p n]).drop (3*i)).take 3) ((ks++[x]).getD i (ak [])):=by
      intro i hi;have C3:f.length=3*m:=by have:=K.o.1;omega
      by_cases B9:i<m
      ·have e1:((f++[Value.bool o,Value.string r,Value.slice l p n]).drop (3*i)).take 3=(f.drop (3*i)).take 3:=by
        rw[List.drop_append_of_le_length (by omega),List.take_append_of_le_length (by rw[Uu];omega)]
       have e2:(ks++[x]).getD i (ak [])=ks.getD i (ak []):=by
        rw[Up,UW (by have:=C.o;omega),Up]
       rw[e1,e2];refine bg.move (w:=wr) (fun q j I=>?_) d _ _ (A2.o i B9);have A8:q<w1.heap.size:=by omega
       exact⟨⟨j.1,M q A8 j.2⟩,(N q A8 j.2).trans (Q.o.block q I)⟩
      ·have C0:i=m:=by omega
       subst C0;have e1:((f++[Value.bool o,Value.string r,Value.slice l p n]).drop (3*i)).take 3=[bV o,sV r,lV l p n]:=by
        rw[<-C3,List.drop_left];rfl
       have e2:(ks++[x]).getD i (ak [])=x:=by
        rw[Up,<-C.o,Vf (Ug _),Nat.sub_self];rfl
       rw[e1,e2];refine bg.move (w:=w1) (fun q j I=>?_) d _ _ B2.o;have D:(Value.slice a i cap).ownBlock≠some q:=fun h=>by have:=(J.o.lt q h).2;omega
       exact⟨⟨Ut A.o.size j,M q I D⟩,N q I D⟩
     have B0:=aa A3;have B3:=aa A7;have A9:=aa A0;clear W N M A0 A3 A7 O X C1 C2;have C9:(u:Int)<=(b.size:Int):=by omega
     go_wp2
     go_roundg (b.size - u)
     case measure=>have:=HG.o;omega
     case rel=>
      refine⟨b.extract u b.size,m+1,some ⟨g2,0,none⟩,F,ks++[x],f++[Value.bool o,Value.string r,Value.slice l p n],by simp,by simp;omega,by omega,rfl,rfl,?_,by show(ks++[x]).length=m+1;rw[Uq,C.o];rfl,B3.o,B0.o,A9.o⟩;have e:(b.extract u b.size).data.toList=b.data.toList.drop u:=by rw[Lib.extract_data,U4 (by simp)]
      show R=_;rw[e];exact HS.o
  ·have B5:¬((0:Int)<(b.size:Int)):=by omega
   have t:R=.ok ks:=by
    rw[H.o,LL _ _ _ (by rw[E.o];omega)];unfold mF;simp
   have B:=aa t;clear t;go_wp2
   go_ret2
   refine⟨?_,A.o⟩;rw[B.o];refine⟨lV a m cap,f,rfl,?_,by rw[C.o];exact hm,fun i hi=>bg.move (w:=wr) (fun q j _=>⟨j.1,rfl⟩) d _ _ (A2.o i (by rw[<-C.o];exact hi))⟩;rw[C.o];exact Fe J.o
def Ew:∀d,xX d/\BO d
 | 0=>⟨zl 0 (fun e h=>by omega),EA 0 (zl 0 (fun e h=>by omega))⟩
 |d+1=>
  have h:xX (d+1):=zl (d+1) (fun e h=>by
   have:e=d:=by omega
   subst this
   exact(Ew e).2)
  ⟨h,EA (d+1) h⟩
def Cl(w:World)(r:Except Nat Tree)(e:Ending)(w':World):Prop:=
 match r with
 | .error c=>e=rV (tV #[gV #[bV false,sV ByteArray.empty,lV none 0 0],iV .i64 c])/\c≠0
 | .ok x=>∃l t a m c,e=rV (tV #[gV #[bV l,sV t,lV a m c],iV .i64 0])/\bg 6 w' (fun b=>w.heap.size<=b) [bV l,sV t,lV a m c] x
def Si(s:yL)(h:4096<s.length):dC s=.error 1:=by unfold dC;rw[Uj h]
def Sl(s:yL)(h:¬4096<s.length)(c:Nat)(a:dr 6 s=.error c):dC s=.error c:=by unfold dC;rw[Ui h,a]
def Sj(s:yL)(h:¬4096<s.length)(x:Tree)(u:Nat)(a:dr 6 s=.ok (x,u))(b:u<s.length):dC s=.error 6:=by unfold dC;rw[Ui h,a];simp only;rw[Uj b]
def Sm(s:yL)(h:¬4096<s.length)(x:Tree)(u:Nat)(a:dr 6 s=.ok (x,u))(b:¬u<s.length):dC s=.ok x:=by unfold dC;rw[Ui h,a];simp only;rw[Ui b]
def xE(w:World)(s:yB)(hs:s.size<=maxLen):
 yC 111 #[sV s] w fun e w'=>Cl w (dC s.data.toList) e w'/\yW w w':=by
 unfold maxLen at hs;have f:s.data.toList.length=s.size:=by simp
 by_cases h4:4096<s.size
 ·rw[Si _ (by rw[f];exact h4)];have C:(4096:Int)<(s.size:Int):=by omega
  clear f;go_enter func111,ntmps111
  go_wp2
  exact UB (v:=tV #[gV #[bV false,sV ⟨#[]⟩,lV none 0 0],i6 1]) (by simp[results,results111,go_sem]) rfl ⟨⟨rfl,by decide⟩,(Un _ _).alloc (Ug _) _⟩
 have C:¬((4096:Int)<(s.size:Int)):=by omega
 have j:¬4096<s.data.toList.length:=by rw[f];exact h4
 have h:=fun w=>(Ew 6).1 w s 1 (by omega) rfl
 cases hT:dr 6 s.data.toList with
 |error c=>
  rw[Sl _ j c hT];have q:=De 6 _ _ hT;have E:((c:Int) != 0)=true:=by simp;omega
  rw[hT] at h;have n:=aa h;have A:=aa q;clear f j hT h q;go_enter func111,ntmps111
  go_wp2_with fail
  refine(n.o _).mono ?_;rintro e w1 ⟨rfl,d⟩;obtain⟨k0,k1,k2,f0,f1,f2⟩:=iB d;have k:=aa (((Un _ _).alloc (Ug _) _).trans (d.mono (by simp)));have g:w.heap.size<w1.heap.size:=by have:=d.size;simp at this;omega
  clear d;go_wp2
  exact UB (v:=tV #[gV #[bV false,sV ⟨#[]⟩,lV none 0 0],i6 (c:Int)]) (by simp[results,results111,go_sem,k0,k1,k2,g]) rfl ⟨⟨rfl,A.o⟩,oB k.o g _ _ _ _⟩
 |ok xu=>
  obtain⟨x,u⟩:=xu;rw[hT] at h;have n:=aa h;by_cases z:u<s.size
  ·rw[Sj _ j x u hT (by rw[f];exact z)];have D:(u:Int)<(s.size:Int):=by omega
   clear f j hT h;go_enter func111,ntmps111
   go_wp2_with fail
   refine(n.o _).mono ?_;rintro e w1 ⟨⟨l,t,a,m,c,rfl,o⟩,d⟩;obtain⟨k0,k1,k2,f0,f1,f2⟩:=iB d;have k:=aa (((Un _ _).alloc (Ug _) _).trans (d.mono (by simp)));have g:w.heap.size<w1.heap.size:=by have:=d.size;simp at this;omega
   clear d o;go_wp2
   exact UB (v:=tV #[gV #[bV false,sV ⟨#[]⟩,lV none 0 0],i6 6]) (by simp[results,results111,go_sem,k0,k1,k2,g]) rfl ⟨⟨rfl,by decide⟩,oB k.o g _ _ _ _⟩
  ·rw[Sm _ j x u hT (by rw[f];exact z)];have D:¬((u:Int)<(s.size:Int)):=by omega
   clear f j hT h;go_enter func111,ntmps111
   go_wp2_with fail
   refine(n.o _).mono ?_;rintro e w1 ⟨⟨l,t,a,m,c,rfl,o⟩,d⟩;obtain⟨k0,k1,k2,f0,f1,f2⟩:=iB d;have k:=aa (((Un _ _).alloc (Ug _) _).trans (d.mono (by simp)));have g:w.heap.size<w1.heap.size:=by have:=d.size;simp at this;omega
   have y:∀(i:World),(∀b,b<w1.heap.size->b≠w.heap.size->i.heap[b]? =w1.heap[b]?)->bg 6 i (fun b=>w.heap.size<=b) [bV l,sV t,lV a m c] x:=fun i h3=>by
    refine bg.move (w:=w1) (S:=fun b=>w.heap.size+1<=b) (fun b p r=>⟨by omega,h3 b r (by omega)⟩) 6 _ _ (by simpa using o)
   have B:=aa y;clear d o y;go_wp2
   exact UB (v:=tV #[gV #[bV l,sV t,lV a m c],i6 0]) (by simp[results,results111,go_sem,k0,k1,k2,g]) rfl ⟨⟨l,t,a,m,c,rfl,B.o _ (fun b r p=>by
    rw[U6 _ _ _ (by simp[World.setCell];omega)];simp[Uy,p])⟩,oB k.o g _ _ _ _⟩
def aF:yL->yL->Nat
 |x::a,y::b=>if x=y then aF a b+1 else 0
 | _,_=>0
def iN:∀a b,aF a b<=a.length/\aF a b<=b.length
 | [],_=>⟨UD _,UD _⟩
 | _::_,[]=>⟨UD _,UD _⟩
 |x::a,y::b=>by
  have:=iN a b
  simp only[aF]
  split
  ·simp;omega
  ·simp
def Mt(a b:yL)(k:Nat)(c:k<a.length)(d:k<b.length)(h:a[k]=b[k]):aF (a.drop k) (b.drop k)=aF (a.drop (k+1)) (b.drop (k+1))+1:=by
 rw[UZ c,UZ d];simp only[aF,h,U5]
def Ms(a b:yL)(k:Nat)(c:k<a.length)(d:k<b.length)(h:a[k]≠b[k]):aF (a.drop k) (b.drop k)=0:=by
 rw[UZ c,UZ d];simp only[aF,h,UT]
def Mw(a b:yL)(k:Nat)(c:a.length<=k):aF (a.drop k) (b.drop k)=0:=by
 rw[List.drop_eq_nil_of_le c];simp[aF]
def Mu(a b:yL)(k:Nat)(c:b.length<=k):aF (a.drop k) (b.drop k)=0:=by
 rw[List.drop_eq_nil_of_le c];cases a.drop k<;>simp[aF]
def tD(a b:yB)(u:a.size<=maxLen)(v:b.size<=maxLen)(w:World):
 yC 116 #[sV a,sV b] w fun e w'=>e=rV (i6 (aF a.data.toList b.data.toList))/\∃n,w'=w.drewN n:=by
 unfold maxLen at u v;obtain⟨N,i⟩:=yX (aF a.data.toList b.data.toList)
 rw[<-i];have q:=aa i;clear i;go_enter func116,ntmps116
 go_wp2
 go_loopg [5] a.size (fun g r wr=>∃m k:Nat,wr=w.drewN m/\g=a.size - k/\k<=a.size/\k<=b.size/\r=i6 k/\yH (N=aF (a.data.toList.drop k) (b.data.toList.drop k)+k))
 case atStart=>exact⟨0,0,rfl,rfl,by omega,by omega,rfl,q.o⟩
 case round=>
  obtain⟨m,k,rfl,j,A,B,rfl,f⟩:=hrel;have p:=aa j;clear j;by_cases l:k<a.size
  ·by_cases o:k<b.size
   ·have t:(k:Int)<(a.size:Int):=by omega
    have z:(k:Int)<(b.size:Int):=by omega
    by_cases c:a[k]=b[k]
    ·have s:yH (N=aF (a.data.toList.drop (k+1)) (b.data.toList.drop (k+1))+(k+1)):=by
      show _=_;rw[f.o,Mt _ _ k (by simpa using l) (by simpa using o) (by simpa [ByteArray.getElem_eq_getElem_data] using c)];omega
     have x:(((a[k]).toNat:Int) == ((b[k]).toNat:Int))=true:=by rw[c];simp
     clear c;go_wp2
     go_quiet (fail)
     go_wp2
     go_roundg (a.size - (k+1))
     case measure=>have:=p.o;omega
     case rel=>exact⟨_,k+1,rfl,rfl,by omega,by omega,by go_num,s.o⟩
    ·have d:yH (N=k):=by
      show _=_;rw[f.o,Ms _ _ k (by simpa using l) (by simpa using o) (by simpa [ByteArray.getElem_eq_getElem_data] using c)];omega
     have x:(((a[k]).toNat:Int) == ((b[k]).toNat:Int))=false:=by
      rw[Vd];intro h;exact c (UInt8.toNat_inj.1 (by omega))
     clear c;go_wp2
     go_quiet (fail)
     go_wp2
     go_ret
     exact⟨by show Ending.returned (Value.int .i64 (k:Int))=_;rw[d.o],_,World.drewN_drewN ..⟩
   ·have d:yH (N=k):=by
     show _=_;rw[f.o,Mu _ _ k (by simp;omega)];omega
    have t:(k:Int)<(a.size:Int):=by omega
    have y:decide ((k:Int)<(b.size:Int))=false:=by simp;omega
    go_wp2
    go_quiet (fail)
    go_wp2
    go_ret
    exact⟨by show Ending.returned (Value.int .i64 (k:Int))=_;rw[d.o],_,World.drewN_drewN ..⟩
  ·have d:yH (N=k):=by
    show _=_;rw[f.o,Mw _ _ k (by simp;omega)];omega
   have y:decide ((k:Int)<(a.size:Int))=false:=by simp;omega
   go_wp2
   go_quiet (fail)
   go_wp2
   go_ret
   exact⟨by show Ending.returned (Value.int .i64 (k:Int))=_;rw[d.o],_,World.drewN_drewN ..⟩
def ES(s:yB)(hs:s.size<=4096)(w:World):
 yC 73 #[sV s] w fun e w'=>e=rV (sV (ae (ch s.data.toList)))/\yW w w':=by
 obtain⟨i0,T,A1,A2,A3⟩:=Vp rX;have A0:=zZ 0 (2*(s.size:Int)) (by omega) (by omega) (by omega);have E:s.data.toList.length=s.size:=by simp
 have h:=aa E;have U:(2*(s.size:Int)).toNat=2*s.size:=by omega
 clear E;go_enter func73,ntmps73
 go_upto_region 2 with fail
 have a:=wF w w.heap.size (2*s.size) (Ug _) (by unfold maxLen;omega);have b:=(Un w.heap.size w).alloc (Ug _) (.cells (madeCells #[iV .u8 0] (2*s.size)) 5);generalize hW:w.alloc (.cells (madeCells #[iV .u8 0] (2*s.size)) 5)=W1 at*;obtain⟨g1,p⟩:=yX w.heap.size
 obtain⟨x,o⟩:∃c,c=2*s.size:=⟨_,rfl⟩
 have L:yH (W1.ownsRow w.heap.size 5 1 (lV (qA g1) 0 x) 0 (b9 [])):=by rw[p,o];exact a
 have H:=aa b;rw[<-o,<-p];clear hW a b A0 U p o;go_wp2
 go_loopg [3,4] s.size (fun n v r wr=>∃j f cap:Nat,n=s.size - j/\j<=s.size/\r=i6 (j:Int)/\v=lV (qA f) (2*j) cap/\
  wr.ownsRow w.heap.size 5 1 (lV (qA f) (2*j) cap) (2*j) (b9 (ch (s.data.toList.take j)))/\yW w wr)
 case atStart=>exact⟨0,g1,x,by omega,by omega,rfl,rfl,L.o,H.o⟩
 case round=>
  obtain⟨j,f,cap,B,hj,rfl,rfl,a,b⟩:=hrel;have J:=aa B;clear B;obtain⟨N,g⟩:=yX (2*j)
  have l:=aa g;rw[<-g];rw[<-g] at a;clear g;by_cases A8:j<s.size
  ·have A6:=uJ s[j];have A5:=qK s[j];have O:yH (ch (s.data.toList.take (j+1))=ch (s.data.toList.take j)++[hi s[j],lo s[j]]):=by
    have Y:j<s.data.toList.length:=by have:=h.o;omega
    rw[Vb Y,xy];congr 1
   have t:=aa a;have d:=aa b;have A7:N<8192:=by have:=l.o;omega
   have A9:(j:Int)<(s.size:Int):=by omega
   clear a b;generalize hi s[j]=cA at*;generalize lo s[j]=cB at*;generalize hks:b9 (ch (s.data.toList.take j))=ks at*;have K:=aa hks;clear hks;go_wp2
   go_region_law (refine step_append_lies _ rfl (.tmp 15) (.tmp 24) 34 rfl w.heap.size 5 i0 (iV .u8 0) 1 1 underlying34 T A1 A2 A3 rfl (by decide) (lV (qA f) N cap) N ks (by simp[Act.eval]) (t.o.drew.alloc _) ⟨wr.heap.size,0,none⟩ 2 2 [iV .u8 (cA.toNat:Int),iV .u8 (cB.toNat:Int)] (by simp[Act.eval]) rfl (zA _ _ _) (by intro u G;simp at G;rcases G with rfl|rfl<;>rfl) (by omega) (by unfold maxLen;omega) (by omega) (by have:=d.o.size;simp;omega) _ rfl ?_;intro g2 y m F C R Z)
   all_goals
    have z:yW w m:=(d.o.drew.alloc d.o.size _).grown C (by have:=d.o.size;simp;omega) (fun k V=>(t.o.lt k V).1);have M:=aa F;have I:=aa z;clear F C R Z z;go_wp2
    go_roundg (s.size - (j+1))
    case measure=>have:=J.o;omega
    case rel=>
     have Q:=l.o;refine⟨j+1,g2,y,rfl,by omega,by go_num,by rw[show 2*(j+1)=N+2 by omega],?_,I.o⟩;have e:b9 (ch (s.data.toList.take (j+1)))=ks++[iV .u8 (cA.toNat:Int),iV .u8 (cB.toNat:Int)]:=by
      rw[O.o,<-K.o];simp[b9]
     rw[e,show 2*(j+1)=N+2 by omega];exact M.o
  ·have d:=aa b;have A:ch (s.data.toList.take j)=ch s.data.toList:=by
    rw[U4 (by have:=h.o;omega)]
   have q:(ch s.data.toList).length=N:=by
    have W:=h.o;have Q:=l.o;rw[py,W];omega
   have S:=VA (P:=yP) wr 34 5 underlying34 underlying5 f 0 N cap ((ch s.data.toList).map (fun c=>(c.toNat:Int))) (by
    rw[UM,q]) (fun i D=>by
    have:=a.cellAt i (by rw[Nat.mul_one];exact D);rw[Vj,this,A];have X:i<(ch s.data.toList).length:=by rw[q];exact D
    simp[b9,List.getD,Uh X]) 9 underlying9
   rw[oN] at S;have A4:¬((j:Int)<(s.size:Int)):=by omega
   clear a b A q;go_wp2
   go_ret
   exact⟨rfl,d.o⟩
end Go.Proofs.YthpclfdpbmehgaaGreatDoor
