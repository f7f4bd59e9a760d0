import Derived.Test.YteaodagofkcgbaaGreatDoorHd
open Go.Proofs.Tryz
open Go.Proofs.Tryz renaming prog→yP
open Go.Value renaming string→sV,pointer→pV,int→iV,slice→lV,bool→bV,tuple→tV,agg→gV
open Go.Ending renaming returned→rV
namespace Go.Proofs.YteaodagofkcgbaaGreatDoor
open Go.RowKit
set_option maxRecDepth 100000
set_option maxHeartbeats 0
set_option linter.all false
def hi(c:UInt8):UInt8:=UInt8.ofNat (c.toNat / 16)
def lo(c:UInt8):UInt8:=UInt8.ofNat (c.toNat % 16)
def je(a b:UInt8):UInt8:=UInt8.ofNat (16*a.toNat+b.toNat)
def xw(c:UInt8):(hi c).toNat=c.toNat / 16:=by
 have:=c.toNat_lt;unfold hi;rw[U3];omega
def rQ(c:UInt8):(lo c).toNat=c.toNat % 16:=by
 have:=c.toNat_lt;unfold lo;rw[U3];omega
def ur(a b:UInt8)(c:a.toNat<16)(d:b.toNat<16):(je a b).toNat=16*a.toNat+b.toNat:=by
 unfold je;rw[U3];omega
def AG(c:UInt8):(hi c).toNat<16:=by have:=c.toNat_lt;rw[xw];omega
def um(c:UInt8):(lo c).toNat<16:=by rw[rQ];omega
def l9{a b:UInt8}(h:a.toNat=b.toNat):a=b:=UInt8.toNat_inj.1 h
def GQ(c:UInt8):je (hi c) (lo c)=c:=by
 apply l9;rw[ur _ _ (AG c) (um c),xw,rQ];omega
def AH(a b:UInt8)(c:a.toNat<16)(d:b.toNat<16):hi (je a b)=a:=by
 apply l9;rw[xw,ur a b c d];omega
def Ae(a b:UInt8)(c:a.toNat<16)(d:b.toNat<16):lo (je a b)=b:=by
 apply l9;rw[rQ,ur a b c d];omega
def gT:yL->yL
 |a::b::r=>je a b::gT r
 | _=>[]
def ch:yL->yL
 | []=>[]
 |c::r=>hi c::lo c::ch r
def aw(l:yL):Prop:=∀x,x∈l->x.toNat<16
def py:∀l:yL,(ch l).length=2*l.length
 | []=>rfl
 |c::r=>by simp only[ch,UJ,py r];omega
def xx:∀l:yL,aw (ch l)
 | []=>λx h=>by cases h
 |c::r=>λx h=>by
  simp only[ch,UC] at h
  rcases h with rfl|rfl|h
  .exact AG c
  .exact um c
  exact xx r x h
def xy:∀l m:yL,ch (l++m)=ch l++ch m
 | [],m=>rfl
 |c::r,m=>by simp only[List.cons_append,ch,xy r m]
def tR:∀l:yL,gT (ch l)=l
 | []=>rfl
 |c::r=>by simp only[ch,gT,GQ,tR r]
def EY:∀l m:yL,l.length % 2=0->gT (l++m)=gT l++gT m
 | [],m,_=>rfl
 | [a],m,h=>by simp at h
 |a::b::r,m,h=>by
  have:=EY r m (by simp at h;omega)
  simp only[List.cons_append,gT,this]
def AR:∀l:yL,l.length % 2=0->aw l->ch (gT l)=l
 | [],_,_=>rfl
 | [a],h,_=>by simp at h
 |a::b::r,h,n=>by
  have c:=n a (by simp)
  have d:=n b (by simp)
  have:=AR r (by simp at h;omega) (λx e=>n x (by simp[e]))
  simp only[gT,ch,AH a b c d,Ae a b c d,this]
def zz:∀l:yL,(gT l).length=l.length / 2
 | []=>rfl
 | [a]=>by simp[gT]
 |a::b::r=>by simp only[gT,UJ,zz r];omega
def LG(l:yL)(j:Nat)(h:j+1<l.length):l.take (j+2)=l.take j++[l[j],l[j+1]]:=by
 show l.take ((j+1)+1)=_;rw[Vb (show j+1<l.length from h),Vb (show j<l.length by omega),UI];rfl
def jd(b a:Bool):Nat:=(if a then 2 else 0)+(if b then 1 else 0)
def cR(l:yL)(a:Bool):yL:=
 if l.length % 2=1 then je (UInt8.ofNat (jd true a)) (l.getD 0 0)::gT (l.drop 1) else je (UInt8.ofNat (jd false a)) 0::gT l
def bm(t:yL):yL:=(if(hi (t.getD 0 0)).toNat % 2=1 then [lo (t.getD 0 0)] else [])++ch (t.drop 1)
def fT(t:yL):Bool:=decide (2<=(hi (t.getD 0 0)).toNat % 4)
def jT(t:yL):Prop:=t≠[]/\(hi (t.getD 0 0)).toNat<=3/\((hi (t.getD 0 0)).toNat % 2=0->(lo (t.getD 0 0)).toNat=0)
def rD(l)(a:Bool):(cR l a).length=l.length / 2+1:=by
 unfold cR;split
 .simp only[UJ,zz,Uu];omega
 simp only[UJ,zz]
def oa(b a:Bool):(UInt8.ofNat (jd b a)).toNat=jd b a:=by cases b<;>cases a<;>rfl
def wS(b a:Bool):(UInt8.ofNat (jd b a)).toNat<16:=by cases b<;>cases a<;>decide
def PA(l)(h:aw l)(i:Nat):(l.getD i 0).toNat<16:=by
 rcases Nat.lt_or_ge i l.length with hi|hi
 .have e:l.getD i 0=l[i]:=by simp[List.getD,Uh hi]
  rw[e];exact h _ (Vc hi)
 have e:l.getD i 0=0:=by simp[List.getD,U9 hi]
 rw[e];decide
def Fa(l)(b:Bool)(h:aw l):jT (cR l b)/\bm (cR l b)=l/\fT (cR l b)=b:=by
 by_cases f:l.length % 2=1
 .have e:cR l b=je (UInt8.ofNat (jd true b)) (l.getD 0 0)::gT (l.drop 1):=by unfold cR;rw[Uj f]
  have h0:=PA l h 0;have c:hi (je (UInt8.ofNat (jd true b)) (l.getD 0 0))=UInt8.ofNat (jd true b):=AH _ _ (wS _ _) h0;have d:lo (je (UInt8.ofNat (jd true b)) (l.getD 0 0))=l.getD 0 0:=Ae _ _ (wS _ _) h0;rw[e];refine⟨⟨by simp,?_,?_⟩,?_,?_⟩
  .rw[UX,c,oa];cases b<;>decide
  .rw[UX,c,oa];cases b<;>simp[jd]
  .unfold bm;rw[UX,c,oa,d,List.drop_succ_cons,List.drop_zero,AR _ (by simp;omega) (λx g=>h x (List.mem_of_mem_drop g))];rw[Uj (by cases b<;>rfl)];cases l with
   |nil=>simp at f
   |cons a r=>rfl
  unfold fT;rw[UX,c,oa];cases b<;>rfl
 have e:cR l b=je (UInt8.ofNat (jd false b)) 0::gT l:=by unfold cR;rw[Ui f]
 have h0:(0:UInt8).toNat<16:=by decide
 have c:hi (je (UInt8.ofNat (jd false b)) 0)=UInt8.ofNat (jd false b):=AH _ _ (wS _ _) h0;have d:lo (je (UInt8.ofNat (jd false b)) 0)=0:=Ae _ _ (wS _ _) h0;rw[e];refine⟨⟨by simp,?_,?_⟩,?_,?_⟩
 .rw[UX,c,oa];cases b<;>decide
 .rw[UX,d];intro _;rfl
 .unfold bm;rw[UX,c,oa,List.drop_succ_cons,List.drop_zero,AR _ (by omega) h];rw[Ui (by cases b<;>decide)];rfl
 unfold fT;rw[UX,c,oa];cases b<;>rfl
def Oe(t):aw (bm t):=by
 intro x a;unfold bm at a;rcases UA.1 a with h|h
 .split at h
  .simp only[Uo] at h;subst h;exact um _
  cases h
 exact xx _ x h
def Oi(t)(_h:t≠[]):(bm t).length=(if(hi (t.getD 0 0)).toNat % 2=1 then 1 else 0)+2*(t.length - 1):=by
 unfold bm;rw[Uq,py,Uu];split<;>simp
def Il(t)(h:jT t):cR (bm t) (fT t)=t:=by
 let⟨i,h3,f⟩:=h;cases t with
 |nil=>exact absurd rfl i
 |cons c r=>
  simp only[UX] at h3 f;have d:=Oi (c::r) (by simp);simp only[UX,UJ] at d;have b:=GQ c;unfold cR;by_cases a:(hi c).toNat % 2=1
  .rw[Uj a] at d;rw[Uj (by omega)];have e:bm (c::r)=lo c::ch r:=by unfold bm;simp only[UX,Uj a,List.drop_succ_cons,List.drop_zero,List.singleton_append]
   rw[e];simp only[UX,List.drop_succ_cons,List.drop_zero,tR];congr 1;have:UInt8.ofNat (jd true (fT (c::r)))=hi c:=by
    apply l9;rw[oa];unfold fT jd;simp only[UX,U5];by_cases h2:2<=(hi c).toNat % 4
    .simp only[h2,decide_true,U5];omega
    simp only[h2,decide_false];simp;omega
   rw[this,b]
  rw[Ui a] at d;rw[Ui (by omega)];have e:bm (c::r)=ch r:=by unfold bm;simp only[UX,Ui a,List.drop_succ_cons,List.drop_zero,VL]
  rw[e,tR];congr 1;have g:lo c=0:=l9 (f (by omega));have:UInt8.ofNat (jd false (fT (c::r)))=hi c:=by
   apply l9;rw[oa];unfold fT jd;simp only[UX];by_cases h2:2<=(hi c).toNat % 4
   .simp only[h2,decide_true,U5];simp;omega
   simp only[h2,decide_false];simp;omega
  rw[this];rwa[g] at b
def qg(l:yL):Bool:=l.all (λc=>decide (c.toNat<16))
def zO{l}(h:qg l=true):aw l:=λx a=>by
 have:=Vy.1 h x a
 simpa using this
def Fy{l}(h:aw l):qg l=true:=Vy.2 λx a=>by simpa using h x a
def PB{l:yL}(k:Nat)(a:k<l.length)(h:15<(l[k]).toNat):qg l=false:=by
 cases hb:qg l with
 |false=>rfl
 |true=>have:=zO hb _ (Vc a);omega
def TM(s:yB)(hs:s.size<=maxLen)(w:World):yC 158 #[sV s] w λe w'=>e=rV (bV (qg s.data.toList))/\w'=w:=by
 unfold maxLen at hs;go_enter func158,ntmps158
 go_wp2;go_loopg [3] s.size (λg r wr=>wr=w/\∃k:Nat,g=s.size - k/\k<=s.size/\r=i6 k/\yH (∀j,(h:j<s.size)->j<k->(s[j]).toNat<16))
 .exact⟨rfl,0,rfl,by omega,rfl,λj _ h=>by omega⟩
 obtain⟨rfl,k,d,u,rfl,b⟩:=hrel;have l:=aa d;clear d;by_cases p:k<s.size
 .by_cases n:15<(s[k]).toNat
  .have o:(15:Int)<((s[k]).toNat:Int):=by omega
   have c:qg s.data.toList=false:=PB k (by simpa using p) n;have i:=aa c;clear c;go_wp2;go_ret;exact⟨by rw[i.o];rfl,rfl⟩
  have o:¬(15:Int)<((s[k]).toNat:Int):=by omega
  go_wp2;go_roundg (s.size - (k+1))
  .exact⟨rfl,k+1,rfl,by omega,by go_num,λj a t=>by
    by_cases e:j=k
    .subst e;omega
    exact b.o j a (by omega)⟩
  have:=l.o;omega
 have f:qg s.data.toList=true:=Fy λx q=>by
  obtain⟨j,a,rfl⟩:=List.getElem_of_mem q;exact b.o j (by simpa using a) (by have:j<s.size:=(by simpa using a);omega)
 have m:=aa f;clear f;go_wp2;go_ret;exact⟨by rw[m.o];rfl,rfl⟩
def rX:(yP.info? 5).map (λi=>(i.zero,i.size,i.bytes))=some (some (iV .u8 0),1,1):=by kernel_rfl
def b9(l:yL):List Value:=l.map (λc=>Value.int .u8 (c.toNat:Int))
def ae(l:yL):yB:=⟨l.toArray⟩
def zZ(n c:Int)(h0:0<=n)(a:n<=c)(f:c<=281474976710656)(w:World):(Instr.makeSlice 143 (i6 n) (i6 c)).run yP w=.ok (lV (qA w.heap.size) n.toNat c.toNat) (w.alloc (.cells (madeCells #[iV .u8 0] c.toNat) 5)):=by
 let⟨i0,hi,b,d,e⟩:=Vp rX;have:=run_make (P:=yP) w 143 5 i0 (iV .u8 0) underlying143 hi b .i64 .i64 n c h0 a (by rw[e];omega) (by omega);rwa[d,Nat.mul_one] at this
def wF(w:World)(base c:Nat)(a:base<=w.heap.size)(b:c<=maxLen):(w.alloc (.cells (madeCells #[iV .u8 0] c) 5)).ownsRow base 5 1 (lV (qA w.heap.size) 0 c) 0 (b9 []):=
 ⟨rfl,.inr ⟨w.heap.size,c,_,rfl,a,UG _ _,by omega,b,by rw[size_madeCells,Nat.mul_one],by simp[b9]⟩⟩
def oN(l:yL):strOfNums (l.map (λc=>(c.toNat:Int)))=ae l:=by
 unfold strOfNums ae;congr 1;rw[List.map_map];congr 1;conv=>rhs;rw[<-List.map_id l]
 apply Vz;intro c _;simp
def Fk(a b:Nat)(c:a<16)(d:b<16):bits .or .u8 (IntKind.u8.wrap ((a:Int)*16)) (b:Int)=((16*a+b:Nat):Int):=by
 have e:IntKind.u8.wrap ((a:Int)*16)=((16*a:Nat):Int):=by rw[VI];omega
 rw[e,u8_or_nat _ _ (by omega) (by omega),nat_join 4 (16*a) b (by omega) (by omega)]
def AN(l:yL)(q:Nat):UInt8:=if q=1 then l.getD 0 0 else 0
def Qn(a:Bool):Nat:=if a then 2 else 0
def Fb(s:yB)(d:Bool)(hs:s.size<8192)(hN:aw s.data.toList)(w:World):yC 151 #[sV s,bV d] w λe w'=>e=rV (tV #[sV (ae (cR s.data.toList d)),i6 0])/\yW w w':=by
 have hm:s.size<=maxLen:=by unfold maxLen;omega
 obtain⟨i0,A5,A7,A8,A9⟩:=Vp rX;have C4:=zZ 0 ((s.size:Int) / 2+1) (by omega) (by omega) (by omega);have hn:=Fy hN;have I:=aa hn;obtain⟨q,hq⟩:=yX (s.size % 2);have D4:q<2:=by omega
 obtain⟨c,hc⟩:=yX (AN s.data.toList q);obtain⟨L,Q⟩:=yX (Qn d);have B5:L<=2:=by cases d<;>rw[Q]<;>decide
 obtain⟨F,Z⟩:=yX (L+q);have V:=aa Z;have B4:F<=3:=by omega
 have x:=aa hq.symm;have H:=aa hc;have W:=aa Q;have E:s.data.toList.length=s.size:=by simp
 have t:=aa E;have B9:((s.size:Int) / 2+1).toNat=s.size / 2+1:=by omega
 clear E hn hN hq hc Q Z;go_enter func151,ntmps151
 go_wp2_with fail
 refine(TM s hm _).mono ?_;rw[I.o];rintro e w1⟨rfl,hw⟩;have C7:=hw.symm;subst C7;clear hm hw;go_upto_if 16 with fail
 go_cut [6] (λv U=>v=iV .u8 (L:Int)/\U=w)
 .have e:=W.o;cases d
  .obtain rfl:L=0:=e;go_wp2;go_meet;exact⟨rfl,rfl⟩
  obtain rfl:L=2:=e;go_wp2;go_meet;exact⟨rfl,rfl⟩
 case rest=>
 obtain⟨rfl,C⟩:=hcut;have T:=C.symm;subst T;clear C;go_upto_if 20 with fail
 go_cut [6,7,8] (λv6 v7 v8 U=>v6=iV .u8 (F:Int)/\v7=i6 (q:Int)/\v8=iV .u8 (c.toNat:Int)/\U=w)
 .have e:=H.o;have o:=x.o;have Y:=V.o;by_cases h1:q=1
  .subst h1;have h0:0<s.size:=by omega
   have C5:((s.size:Int) % 2 == 1)=true:=beq_iff_eq.2 (by omega);have iw:IntKind.u8.wrap ((L:Int)+1)=(L:Int)+1:=by rw[VI];omega
   have e2:c=s[0]:=by rw[e,AN,Uj rfl,Up,Uh (by rw[t.o];exact h0)];rfl
   clear e o;go_wp2;go_meet;exact⟨by rw[Y];go_num,rfl,by rw[e2],rfl⟩
  obtain rfl:q=0:=by omega
  have C5:((s.size:Int) % 2 == 1)=false:=Vd.2 (by omega);have e2:c=0:=by rw[e];rfl
  clear e o;go_wp2;go_meet;exact⟨by rw[Y];rfl,rfl,by rw[e2];rfl,rfl⟩
 case rest=>
 obtain⟨rfl,rfl,rfl,C⟩:=hcut;have T:=C.symm;subst T;clear C;go_upto_region 15 with fail
 have l:=wF w w.heap.size (s.size / 2+1) (Ug _) (by unfold maxLen;omega);have g:=(Un w.heap.size w).alloc (Ug _) (.cells (madeCells #[iV .u8 0] (s.size / 2+1)) 5);generalize hW:w.alloc (.cells (madeCells #[iV .u8 0] (s.size / 2+1)) 5)=W1 at*;generalize hV:Value.slice (qA w.heap.size) 0 (s.size / 2+1)=V1 at*;have y:=aa l;have a:=aa g;clear hW hV l g C4 B9;have N:c.toNat<16:=by
  rw[H.o,AN];split
  .rw[Up];cases h:s.data.toList[0]? with
   |none=>decide
   |some u=>exact zO I.o u (UQ h)
  decide
 obtain⟨B,O⟩:=yX (je (UInt8.ofNat F) c);have e4:(UInt8.ofNat F).toNat=F:=by rw[U3];omega
 have C6:bits .or .u8 ((F:Int)*16 % 256) (c.toNat:Int)=(B.toNat:Int):=by
  have e5:(F:Int)*16 % 256=IntKind.u8.wrap ((F:Int)*16):=by rw[VI]
  rw[e5,O,ur _ _ (by omega) N,e4,Fk F c.toNat (by omega) N]
 have HB:=aa O;clear N O e4 B5 B4;go_wp2_with (at_builtin;refine U0 _ rfl (.tmp 30) (.tmp 35) 143 rfl w.heap.size 5 i0 (iV .u8 0) 1 1 underlying143 A5 A7 A8 A9 rfl (by decide) V1 0 (b9 []) rfl (y.o.alloc _) ⟨W1.heap.size,0,none⟩ 1 1 [iV .u8 (B.toNat:Int)] rfl rfl (Vx _ _ _) ?c2 (by omega) ?c3 ?c4 ?c5 _ rfl ?c6)
 case c2=>intro u A;simp at A;subst A;rfl
 case c3=>unfold maxLen;omega
 case c4=>omega
 case c5=>have:=a.o.size;simp;omega
 case c6=>
  intro g1 M D G A3 B6 C2;have G:=G;have A0:yW w D:=(a.o.alloc a.o.size _).grown A3 (by have:=a.o.size;simp;omega) (λk R=>(y.o.lt k R).1);have B2:=aa G;have B0:=aa A0;clear G A3 B6 C2 A0 C6;go_wp2;go_loopg [7,9] (s.size / 2) (λn r v wr=>∃j m cap:Nat,n=s.size / 2 - j/\q+2*j<=s.size/\r=i6 ((q+2*j:Nat):Int)/\v=lV (qA m) (j+1) cap/\
   wr.ownsRow w.heap.size 5 1 (lV (qA m) (j+1) cap) (j+1) (b9 (B::gT ((s.data.toList.drop q).take (2*j))))/\yW w wr)
  .exact⟨0,g1,M,by omega,by have:=x.o;omega,rfl,rfl,B2.o,B0.o⟩
  obtain⟨j,m,cap,hg,hj,rfl,rfl,l,g⟩:=hrel;have HG:=aa hg;clear hg;obtain⟨p,b⟩:=yX (q+2*j);have f:=aa b;rw[<-b];rw[<-b] at hj;clear b;by_cases C1:p+1<s.size
  .have S:=zO I.o;have n0:(s[p]).toNat<16:=S _ (by rw[<-Array.mem_def];exact Array.getElem_mem (by simpa using(by omega:p<s.size)));have n1:(s[p+1]).toNat<16:=S _ (by rw[<-Array.mem_def];exact Array.getElem_mem (by simpa using C1));have hv:bits .or .u8 (IntKind.u8.wrap (((s[p]).toNat:Int)*16)) ((s[p+1]).toNat:Int)=((je s[p] s[p+1]).toNat:Int):=by
    rw[Fk _ _ n0 n1,ur _ _ n0 n1]
   have HS:yH (gT ((s.data.toList.drop q).take (2*(j+1)))=gT ((s.data.toList.drop q).take (2*j))++[je s[p] s[p+1]]):=by
    have b:=f.o;have C0:2*j+1<(s.data.toList.drop q).length:=by have:=t.o;rw[Uu];omega
    have e:2*(j+1)=2*j+2:=by omega
    rw[e,LG _ _ C0,EY _ _ (by rw[UN];omega)];congr 1;have e0:(s.data.toList.drop q)[2*j]=s[p]:=by rw[List.getElem_drop];subst b;rfl
    have e1:(s.data.toList.drop q)[2*j+1]=s[p+1]:=by rw[List.getElem_drop];subst b;rfl
    rw[e0,e1];rfl
   have y:=aa l;have a:=aa g;have C9:j<4096:=by have:=f.o;omega
   have D0:p<s.size:=by omega
   have D1:(p:Int)<(s.size:Int):=by omega
   have D2:(p:Int)+1<(s.size:Int):=by omega
   have D3:(0:Int)<=(p:Int)+1:=by omega
   have iw:IntKind.i64.wrap ((p:Int)+1)=(p:Int)+1:=by rw[UY];omega
   clear S n0 n1 l g;generalize hJ:je s[p] s[p+1]=J at*;generalize hks:b9 (B::gT ((s.data.toList.drop q).take (2*j)))=ks at*;have HK:=aa hks;clear hks;go_wp2;go_region_law (refine step_append_lies _ rfl (.tmp 44) (.tmp 54) 143 rfl w.heap.size 5 i0 (iV .u8 0) 1 1 underlying143 A5 A7 A8 A9 rfl (by decide) (lV (qA m) (j+1) cap) (j+1) ks (by simp[Act.eval]) (y.o.drew.alloc _) ⟨wr.heap.size,0,none⟩ 1 1 [iV .u8 (J.toNat:Int)] (by simp[Act.eval]) rfl (Vx _ _ _) (by intro u A;simp at A;subst A;rfl) (by omega) (by unfold maxLen;omega) (by omega) (by have:=a.o.size;simp;omega) _ rfl ?_;intro g2 X K A6 A4 B7 C3)
   all_goals
    have A1:yW w K:=(a.o.drew.alloc a.o.size _).grown A4 (by have:=a.o.size;simp;omega) (λk R=>(y.o.lt k R).1);have B3:=aa A6;have B1:=aa A1;clear A6 A4 B7 C3 A1;go_wp2;go_roundg (s.size / 2 - (j+1))
    case measure=>have:=HG.o;have:=f.o;omega
    case rel=>
     refine⟨j+1,g2,X,rfl,by have:=f.o;omega,by have:=f.o;rw[show q+2*(j+1)=p+2 by omega];go_num,rfl,?_,B1.o⟩;have e:b9 (B::gT ((s.data.toList.drop q).take (2*(j+1))))=ks++[iV .u8 (J.toNat:Int)]:=by
      rw[HS.o,<-HK.o];simp[b9]
     rw[e];exact B3.o
  have a:=aa g;have A2:B::gT ((s.data.toList.drop q).take (2*j))=cR s.data.toList d:=by
   have b:=f.o;have o:=x.o;have z:=t.o;unfold cR;rw[U4 (by rw[Uu];omega),HB.o,V.o,z,o,H.o,W.o];have:q=0\/q=1:=by omega
   rcases this with rfl|rfl<;>cases d<;>rfl
  have B8:=VA (P:=yP) wr 143 5 underlying143 underlying5 m 0 (j+1) cap ((cR s.data.toList d).map (λc=>(c.toNat:Int))) (by
   rw[UM,rD];have b:=f.o;have z:=t.o;have o:=x.o;rw[z];omega) (λi hi=>by
   have:=l.cellAt i (by rw[Nat.mul_one];exact hi);rw[Vj,this,A2];have E:i<(cR s.data.toList d).length:=by rw[rD];have b:=f.o;have z:=t.o;have o:=x.o;rw[z];omega
   simp[b9,List.getD,Uh E]) 9 underlying9
  rw[oN] at B8;have C8:¬((p:Int)+1<(s.size:Int)):=by omega
  clear l g A2;go_wp2;go_ret2;exact⟨rfl,a.o⟩
def qK(c:UInt8):bits .and .u8 (c.toNat:Int) 15=((lo c).toNat:Int):=by
 have:=u8_and_nat c.toNat 15 c.toNat_lt (by omega);rw[nat_mask4] at this;rw[rQ];exact this
def uJ(c:UInt8):(c.toNat:Int) / 16=((hi c).toNat:Int):=by rw[xw];omega
def JC(m:Nat)(h:m<256):bits .and .u8 (m:Int) 1=((m % 2:Nat):Int):=by
 have:=u8_and_nat m 1 h (by omega);rwa[nat_mask1] at this
def TL(m:Nat)(h:m<4):bits .and .u8 (m:Int) 2=((m / 2*2:Nat):Int):=by
 have:=u8_and_nat m 2 (by omega) (by omega);rw[show(2:Nat)=2 ^ 1 from rfl,nat_bit] at this;have e:m / 2 ^ 1 % 2*2 ^ 1=m / 2*2:=by omega
 rwa[e] at this
def Lk(s:yB)(hs:s.size<=maxLen)(a:4096<s.size\/¬jT s.data.toList)(w:World):yC 159 #[sV s] w λe w'=>e=rV (tV #[sV ByteArray.empty,bV false,i6 (if 4096<s.size then 1 else 7)])/\w'=w:=by
 unfold maxLen at hs;by_cases h1:4096<s.size
 .rw[Uj h1];have n:(4096:Int)<(s.size:Int):=by omega
  clear a;go_enter func159,ntmps159
  go_wp2;go_ret3;exact⟨rfl,rfl⟩
 rw[Ui h1];have a:¬jT s.data.toList:=by rcases a with h|h;exact absurd h h1;exact h
 by_cases h0:s.size=0
 .have f:((s.size:Int) == 0)=true:=beq_iff_eq.2 (by omega);clear a h0;go_enter func159,ntmps159
  go_wp2;go_ret3;exact⟨rfl,rfl⟩
 have f:((s.size:Int) == 0)=false:=Vd.2 (by omega);have k:0<s.size:=by omega
 have e0:s.data.toList.getD 0 0=s[0]:=by rw[Up,Uh (by simpa using k)];rfl
 have d:s.data.toList≠[]:=by
  intro h;have b:s.data.toList.length=s.size:=by simp
  rw[h] at b;have:(0:Nat)=s.size:=b;omega
 unfold jT at a;rw[e0] at a;have p:=uJ s[0];have o:=qK s[0];have q:=AG s[0];have b:=um s[0];generalize hcm:(hi s[0]).toNat=m at*;generalize hcl:(lo s[0]).toNat=l at*;clear hcm hcl e0;have h2:=JC m (by omega);by_cases h3:3<m
 .have g:(3:Int)<(m:Int):=by omega
  clear a;go_enter func159,ntmps159
  go_wp2
  all_goals (go_ret3;exact⟨rfl,rfl⟩)
 have i:m % 2=0/\l≠0:=by
  by_cases c:m % 2=0
  .refine⟨c,λj=>a ⟨d,by omega,λ_=>j⟩⟩
  exact absurd ⟨d,by omega,λh=>absurd h c⟩ a
 have g:decide ((3:Int)<(m:Int))=false:=by simp;omega
 have h4:(((m % 2:Nat):Int) != 0)=false:=by simp;omega
 have h5:((l:Int) != 0)=true:=by simp;omega
 rw[i.1] at h2;clear a;go_enter func159,ntmps159
 go_wp2
 all_goals (go_ret3;exact⟨rfl,rfl⟩)
def zA(w:World)(a b):∀j u,[a,b][j]? =some u->(w.alloc (.cells #[a,b] 5)).cell? ((⟨w.heap.size,0,none⟩:Addr).add j)=some u:=by
 intro j u c;match j,c with
 | 0,c=>simp at c;subst c;simp[Addr.add]
 | 1,c=>simp at c;subst c;simp[Addr.add]
 | (j+2),c=>simp at c
def vz(s:yB)(hs:s.size<=4096)(hf:jT s.data.toList)(w:World):yC 159 #[sV s] w λe w'=>e=rV (tV #[sV (ae (bm s.data.toList)),bV (fT s.data.toList),i6 0])/\yW w w':=by
 obtain⟨i0,A4,A7,A8,A9⟩:=Vp rX;have B5:=zZ 0 (2*(s.size:Int)) (by omega) (by omega) (by omega);have S:s.data.toList.length=s.size:=by simp
 have B:=aa S;obtain⟨C7,C6,R⟩:=hf;have hp:0<s.size:=by
  rcases Nat.eq_zero_or_pos s.size with h|h
  .rw[h] at S;exact absurd (UH.1 S) C7
  exact h
 have e0:s.data.toList.getD 0 0=s[0]:=by rw[Up,Uh (by simpa using hp)];rfl
 rw[e0] at C6 R;have hd:=uJ s[0];have ha:=qK s[0];have T:=um s[0];have C:yH (bm s.data.toList=(if(hi s[0]).toNat % 2=1 then [lo s[0]] else [])++ch (s.data.toList.drop 1)):=by unfold bm;rw[e0];rfl
 have B0:yH (fT s.data.toList=decide (2<=(hi s[0]).toNat % 4)):=by unfold fT;rw[e0];rfl
 generalize hcm:(hi s[0]).toNat=m at*;clear hcm e0 S;have D0:decide ((4096:Int)<(s.size:Int))=false:=by simp;omega
 have C9:((s.size:Int) == 0)=false:=Vd.2 (by omega);have D1:decide ((3:Int)<(m:Int))=false:=by simp;omega
 have h2:=JC m (by omega);have h22:=TL m (by omega);have B3:(2*(s.size:Int)).toNat=2*s.size:=by omega
 by_cases ho:m % 2=1
 .rw[ho] at h2;rw[Uj ho] at C;clear R;go_enter func159,ntmps159
  go_upto_region 12 with fail
  have b:=wF w w.heap.size (2*s.size) (Ug _) (by unfold maxLen;omega);have f:=(Un w.heap.size w).alloc (Ug _) (.cells (madeCells #[iV .u8 0] (2*s.size)) 5);generalize hW:w.alloc (.cells (madeCells #[iV .u8 0] (2*s.size)) 5)=W1 at*;generalize hV:Value.slice (qA w.heap.size) 0 (2*s.size)=V1 at*;have q:=aa b;have a:=aa f;clear hW hV b f B5 B3;go_wp2_with (at_builtin;refine U0 _ rfl (.tmp 40) (.tmp 42) 143 rfl w.heap.size 5 i0 (iV .u8 0) 1 1 underlying143 A4 A7 A8 A9 rfl (by decide) V1 0 (b9 []) rfl (q.o.alloc _) ⟨W1.heap.size,0,none⟩ 1 1 [iV .u8 ((lo s[0]).toNat:Int)] rfl rfl (Vx _ _ _) ?c2 (by omega) ?c3 ?c4 ?c5 _ rfl ?c6)
  case c2=>intro u t;simp at t;subst t;rfl
  case c3=>unfold maxLen;omega
  case c4=>omega
  case c5=>have:=a.o.size;simp;omega
  intro g1 D W2 B6 B2 B9 C5;have B1:yW w W2:=(a.o.alloc a.o.size _).grown B2 (by have:=a.o.size;simp;omega) (λk M=>(q.o.lt k M).1);have Y:=aa B6;have U:=aa B1;clear B6 B2 B9 C5 B1;go_wp2;go_loopg [8,9] s.size (λn v r wr=>∃j g cap:Nat,n=s.size - j/\j+1<=s.size/\r=i6 ((j+1:Nat):Int)/\v=lV (qA g) (1+2*j) cap/\
   wr.ownsRow w.heap.size 5 1 (lV (qA g) (1+2*j) cap) (1+2*j) (b9 ([lo s[0]]++ch ((s.data.toList.drop 1).take j)))/\yW w wr)
  .exact⟨0,g1,D,by omega,by omega,rfl,rfl,Y.o,U.o⟩
  obtain⟨j,g,cap,J,hj,rfl,rfl,b,f⟩:=hrel;have W:=aa J;clear J;obtain⟨p,o⟩:=yX (j+1);obtain⟨N,l⟩:=yX (1+2*j);have d:=aa o;have x:=aa l;rw[<-o,<-l];rw[<-o] at hj;rw[<-l] at b;clear o l;by_cases C4:p<s.size
  .have C0:=uJ s[p];have B8:=qK s[p];have HS:yH (ch ((s.data.toList.drop 1).take (j+1))=ch ((s.data.toList.drop 1).take j)++[hi s[p],lo s[p]]):=by
    have A:=d.o;have T:j<(s.data.toList.drop 1).length:=by have:=B.o;rw[Uu];omega
    rw[Vb T,xy];congr 1;have e0:(s.data.toList.drop 1)[j]=s[p]:=by rw[List.getElem_drop];subst A;simp only[Nat.add_comm 1 j];rfl
    rw[e0];rfl
   have q:=aa b;have a:=aa f;have C1:N<8192:=by have:=d.o;have:=x.o;omega
   have C8:(p:Int)<(s.size:Int):=by omega
   clear b f;generalize hi s[p]=cA at*;generalize lo s[p]=cB at*;generalize hks:b9 ([lo s[0]]++ch ((s.data.toList.drop 1).take j))=ks at*;have X:=aa hks;clear hks;go_wp2;go_region_law (refine step_append_lies _ rfl (.tmp 50) (.tmp 59) 143 rfl w.heap.size 5 i0 (iV .u8 0) 1 1 underlying143 A4 A7 A8 A9 rfl (by decide) (lV (qA g) N cap) N ks (by simp[Act.eval]) (q.o.drew.alloc _) ⟨wr.heap.size,0,none⟩ 2 2 [iV .u8 (cA.toNat:Int),iV .u8 (cB.toNat:Int)] (by simp[Act.eval]) rfl (zA _ _ _) (by intro u t;simp at t;rcases t with rfl|rfl<;>rfl) (by omega) (by unfold maxLen;omega) (by omega) (by have:=a.o.size;simp;omega) _ rfl ?_;intro g2 E y Q K A0 A6)
   all_goals
    have H:yW w y:=(a.o.drew.alloc a.o.size _).grown K (by have:=a.o.size;simp;omega) (λk M=>(q.o.lt k M).1);have Z:=aa Q;have V:=aa H;clear Q K A0 A6 H;go_wp2;go_roundg (s.size - (j+1))
    case measure=>have:=W.o;have:=d.o;omega
    case rel=>
     have G:=x.o;refine⟨j+1,g2,E,rfl,by have:=d.o;omega,by have:=d.o;rw[show j+1+1=p+1 by omega];go_num,by rw[show 1+2*(j+1)=N+2 by omega],?_,V.o⟩;have e:b9 ([lo s[0]]++ch ((s.data.toList.drop 1).take (j+1)))=ks++[iV .u8 (cA.toNat:Int),iV .u8 (cB.toNat:Int)]:=by
      rw[HS.o,<-X.o];simp[b9]
     rw[e,show 1+2*(j+1)=N+2 by omega];exact Z.o
  have a:=aa f;have I:[lo s[0]]++ch ((s.data.toList.drop 1).take j)=bm s.data.toList:=by
   have A:=d.o;have O:=B.o;rw[C.o,U4 (by rw[Uu];omega)]
  have z:(bm s.data.toList).length=N:=by
   have A:=d.o;have O:=B.o;have G:=x.o;rw[C.o,Uq,py,Uu,O,G];simp;omega
  have A2:=VA (P:=yP) wr 143 5 underlying143 underlying5 g 0 N cap ((bm s.data.toList).map (λc=>(c.toNat:Int))) (by
   rw[UM,z]) (λi L=>by
   have:=b.cellAt i (by rw[Nat.mul_one];exact L);rw[Vj,this,I];have A5:i<(bm s.data.toList).length:=by rw[z];exact L
   simp[b9,List.getD,Uh A5]) 9 underlying9
  rw[oN] at A2;have B7:¬((p:Int)<(s.size:Int)):=by omega
  have C2:(((m:Int) / 2*2) != 0)=fT s.data.toList:=by
   rw[B0.o];by_cases F:2<=m % 4
   .rw[Uw F,bne_iff_ne];omega
   rw[Uv F];simp;omega
  generalize hlfU:fT s.data.toList=lf at*;clear b f I z;go_wp2;go_ret3;exact⟨rfl,a.o⟩
 have B4:m % 2=0:=by omega
 rw[B4] at h2;rw[Ui ho] at C;have C3:=R B4;rw[C3] at ha;clear R;go_enter func159,ntmps159
 go_upto_region 13 with fail
 have b:=wF w w.heap.size (2*s.size) (Ug _) (by unfold maxLen;omega);have f:=(Un w.heap.size w).alloc (Ug _) (.cells (madeCells #[iV .u8 0] (2*s.size)) 5);generalize hW:w.alloc (.cells (madeCells #[iV .u8 0] (2*s.size)) 5)=W1 at*;obtain⟨g1,A3⟩:=yX w.heap.size;obtain⟨D,A1⟩:∃c,c=2*s.size:=⟨_,rfl⟩
 have Y:yH (W1.ownsRow w.heap.size 5 1 (lV (qA g1) 0 D) 0 (b9 [])):=by rw[A3,A1];exact b
 have U:=aa f;rw[<-A1,<-A3];clear hW b f B5 B3 A3 A1;go_wp2;go_loopg [8,9] s.size (λn v r wr=>∃j g cap:Nat,n=s.size - j/\j+1<=s.size/\r=i6 ((j+1:Nat):Int)/\v=lV (qA g) (0+2*j) cap/\
  wr.ownsRow w.heap.size 5 1 (lV (qA g) (0+2*j) cap) (0+2*j) (b9 ([]++ch ((s.data.toList.drop 1).take j)))/\yW w wr)
 .exact⟨0,g1,D,by omega,by omega,rfl,rfl,Y.o,U.o⟩
 obtain⟨j,g,cap,J,hj,rfl,rfl,b,f⟩:=hrel;have W:=aa J;clear J;obtain⟨p,o⟩:=yX (j+1);obtain⟨N,l⟩:=yX (0+2*j);have d:=aa o;have x:=aa l;rw[<-o,<-l];rw[<-o] at hj;rw[<-l] at b;clear o l;by_cases C4:p<s.size
 .have C0:=uJ s[p];have B8:=qK s[p];have HS:yH (ch ((s.data.toList.drop 1).take (j+1))=ch ((s.data.toList.drop 1).take j)++[hi s[p],lo s[p]]):=by
   have A:=d.o;have T:j<(s.data.toList.drop 1).length:=by have:=B.o;rw[Uu];omega
   rw[Vb T,xy];congr 1;have e0:(s.data.toList.drop 1)[j]=s[p]:=by rw[List.getElem_drop];subst A;simp only[Nat.add_comm 1 j];rfl
   rw[e0];rfl
  have q:=aa b;have a:=aa f;have C1:N<8192:=by have:=d.o;have:=x.o;omega
  have C8:(p:Int)<(s.size:Int):=by omega
  clear b f;generalize hi s[p]=cA at*;generalize lo s[p]=cB at*;generalize hks:b9 ([]++ch ((s.data.toList.drop 1).take j))=ks at*;have X:=aa hks;clear hks;go_wp2;go_region_law (refine step_append_lies _ rfl (.tmp 50) (.tmp 59) 143 rfl w.heap.size 5 i0 (iV .u8 0) 1 1 underlying143 A4 A7 A8 A9 rfl (by decide) (lV (qA g) N cap) N ks (by simp[Act.eval]) (q.o.drew.alloc _) ⟨wr.heap.size,0,none⟩ 2 2 [iV .u8 (cA.toNat:Int),iV .u8 (cB.toNat:Int)] (by simp[Act.eval]) rfl (zA _ _ _) (by intro u t;simp at t;rcases t with rfl|rfl<;>rfl) (by omega) (by unfold maxLen;omega) (by omega) (by have:=a.o.size;simp;omega) _ rfl ?_;intro g2 E y Q K A0 A6)
  all_goals
   have H:yW w y:=(a.o.drew.alloc a.o.size _).grown K (by have:=a.o.size;simp;omega) (λk M=>(q.o.lt k M).1);have Z:=aa Q;have V:=aa H;clear Q K A0 A6 H;go_wp2;go_roundg (s.size - (j+1))
   case measure=>have:=W.o;have:=d.o;omega
   case rel=>
    have G:=x.o;refine⟨j+1,g2,E,rfl,by have:=d.o;omega,by have:=d.o;rw[show j+1+1=p+1 by omega];go_num,by rw[show 0+2*(j+1)=N+2 by omega],?_,V.o⟩;have e:b9 ([]++ch ((s.data.toList.drop 1).take (j+1)))=ks++[iV .u8 (cA.toNat:Int),iV .u8 (cB.toNat:Int)]:=by
     rw[HS.o,<-X.o];simp[b9]
    rw[e,show 0+2*(j+1)=N+2 by omega];exact Z.o
 have a:=aa f;have I:[]++ch ((s.data.toList.drop 1).take j)=bm s.data.toList:=by
  have A:=d.o;have O:=B.o;rw[C.o,U4 (by rw[Uu];omega)]
 have z:(bm s.data.toList).length=N:=by
  have A:=d.o;have O:=B.o;have G:=x.o;rw[C.o,Uq,py,Uu,O,G];simp;omega
 have A2:=VA (P:=yP) wr 143 5 underlying143 underlying5 g 0 N cap ((bm s.data.toList).map (λc=>(c.toNat:Int))) (by
  rw[UM,z]) (λi L=>by
  have:=b.cellAt i (by rw[Nat.mul_one];exact L);rw[Vj,this,I];have A5:i<(bm s.data.toList).length:=by rw[z];exact L
  simp[b9,List.getD,Uh A5]) 9 underlying9
 rw[oN] at A2;have B7:¬((p:Int)<(s.size:Int)):=by omega
 have C2:(((m:Int) / 2*2) != 0)=fT s.data.toList:=by
  rw[B0.o];by_cases F:2<=m % 4
  .rw[Uw F,bne_iff_ne];omega
  rw[Uv F];simp;omega
 generalize hlfU:fT s.data.toList=lf at*;clear b f I z;go_wp2;go_ret3;exact⟨rfl,a.o⟩
def gA(s:yB):ae s.data.toList=s:=by unfold ae;simp
def eU(l):(ae l).data.toList=l:=by unfold ae;simp
def aN(l):(ae l).size=l.length:=by unfold ae;simp[ByteArray.size]
def g7(q:yB):(q.toList.isEmpty=true)=(q.size=0):=by
 rw[Lib.toList_data q,List.isEmpty_iff];have a:q.data.toList.length=q.size:=by simp
 rw[<-a,UH]
def iv(q:yB):(q.toList.isEmpty=false)=¬(q.size=0):=by
 rw[<-g7,Bool.not_eq_true]
abbrev Tree:=DataW Unit
def ak(l:yL):Tree:=.lit (.string l)
def bJ(ks:List Tree):Tree:=.slice ks []
def bS:Nat->Nat->yL
 | 0,_=>[]
 |f+1,n=>if n=0 then [] else bS f (n / 256)++[UInt8.ofNat (n % 256)]
def be(l:yL):Nat:=l.foldl (λa c=>a*256+c.toNat) 0
def uK:∀f,bS f 0=[]
 | 0=>rfl
 |f+1=>by simp[bS]
def BC(l)(c:UInt8):be (l++[c])=be l*256+c.toNat:=by simp[be]
def BD:∀f n,n<256 ^ f->be (bS f n)=n
 | 0,n,h=>by simp at h;subst h;rfl
 |f+1,n,h=>by
  unfold bS
  by_cases h0:n=0
  .rw[Uj h0,h0];rfl
  rw[Ui h0,BC,BD f (n / 256) (by rw[Nat.pow_succ] at h;omega),U3]
  omega
def qE:∀f n,(bS f n).length<=f
 | 0,_=>by simp[bS]
 |f+1,n=>by
  unfold bS
  split
  .simp
  rw[Uq];have:=qE f (n / 256);simp;omega
def Bm(f n:Nat)(a:0<f)(h:0<n):0<(bS f n).length:=by
 cases f with
 |zero=>omega
 |succ f=>unfold bS;rw[Ui (by omega)];simp
def Bn:∀f n,0<n->n<256 ^ f->((bS f n).getD 0 0).toNat≠0
 | 0,n,h,h2=>by simp at h2;omega
 |f+1,n,h,h2=>by
  unfold bS
  rw[Ui (by omega)]
  by_cases b:n / 256=0
  .rw[b,uK]
   show(UInt8.ofNat (n % 256)).toNat≠0
   rw[U3];omega
  have c:=Bn f (n / 256) (by omega) (by rw[Nat.pow_succ] at h2;omega)
  have a:0<(bS f (n / 256)).length:=by
   cases f with
   |zero=>simp at h2;omega
   |succ f=>exact Bm _ _ (by omega) (by omega)
  rwa[Up,UW a,<-Up]
def Tz(l)(h:l≠[])(h0:(l.getD 0 0).toNat≠0):0<be l:=by
 have key:∀(l:yL) (a:Nat),a<=l.foldl (λa c=>a*256+c.toNat) a:=by
  intro l;induction l with
  |nil=>intro a;exact Ug _
  |cons c r ih=>intro a;exact Ut (by omega) (ih (a*256+c.toNat))
 cases l with
 |nil=>exact absurd rfl h
 |cons c r=>have:=key r (0*256+c.toNat);simp only[UX] at h0;have e:be (c::r)=r.foldl (λa c=>a*256+c.toNat) (0*256+c.toNat):=rfl;rw[e];omega
def TA(l):be l<256 ^ l.length:=by
 have key:∀(l:yL) (a:Nat),l.foldl (λa c=>a*256+c.toNat) a<(a+1)*256 ^ l.length:=by
  intro l;induction l with
  |nil=>intro a;simp
  |cons c r ih=>intro a;have h1:=ih (a*256+c.toNat);have h2:=c.toNat_lt;have h3:(a*256+c.toNat+1)*256 ^ r.length<=((a+1)*256)*256 ^ r.length:=Nat.mul_le_mul_right _ (by omega);simp only[List.foldl_cons,UJ,Nat.pow_succ];rw[Nat.mul_assoc] at h3;rw[Nat.mul_comm (256 ^ r.length) 256];exact Us h1 h3
 have:=key l 0;rwa[Vj,Nat.one_mul] at this
def Bo:∀(f:Nat) (l:yL),l.length<=f->(l≠[]->(l.getD 0 0).toNat≠0)->bS f (be l)=l
 | 0,l,h,_=>by
  have:l=[]:=UH.1 (by omega)
  subst this;rfl
 |f+1,l,h,h0=>by
  rcases List.eq_nil_or_concat l with rfl|⟨m,c,rfl⟩
  .exact uK _
  rw[List.concat_eq_append] at*
  have e:=c.toNat_lt
  have a:m≠[]->(m.getD 0 0).toNat≠0:=by
   intro a;have:=h0 (by simp);rwa [Up,UW (Vt.2 a),<-Up] at this
  have d:=Bo f m (by simp at h;omega) a;have b:be (m++[c])≠0:=by
   have:=Tz (m++[c]) (by simp) (h0 (by simp));omega
  unfold bS;rw[Ui b,BC];have e1:(be m*256+c.toNat) / 256=be m:=by omega
  have e2:UInt8.ofNat ((be m*256+c.toNat) % 256)=c:=by apply l9;rw[U3];omega
  rw[e1,e2,d]
def cV(a n:Nat):yL:=if n<=55 then [UInt8.ofNat (a+n)] else UInt8.ofNat (a+55+(bS 8 n).length)::bS 8 n
def fN(t:yL):Bool:=decide (t.length=1) && decide ((t.getD 0 0).toNat<128)
def cL(t:yL):yL:=if fN t=true then t else cV 128 t.length++t
def gZ(a:yL):yL:=cV 192 a.length++a
def bu:Nat->Tree->yL
 | _,.lit (.string t)=>cL t
 |d+1,.slice ks _=>gZ (ks.map (bu d)).flatten
 | _,_=>[]
def bN:Nat->Tree->Bool
 | _,.lit (.string _)=>true
 |d+1,.slice ks []=>decide (ks.length<=64) && ks.all (bN d)
 | _,_=>false
def lJ(s:yL)(b:Bool)(a n:Nat):Except Nat (Bool×Nat×Nat):=if s.length - a<n then .error 5 else .ok (b,a,n)
def fE(s:yL):Except Nat (Bool×Nat×Nat):=
 if s.length=0 then .error 5 else
 if(s.getD 0 0).toNat<128 then .ok (false,0,1) else
 if(s.getD 0 0).toNat - (if 192<=(s.getD 0 0).toNat then 192 else 128)<=55 then lJ s (decide (192<=(s.getD 0 0).toNat)) 1 ((s.getD 0 0).toNat - (if 192<=(s.getD 0 0).toNat then 192 else 128)) else
 if s.length - 1<(s.getD 0 0).toNat - (if 192<=(s.getD 0 0).toNat then 192 else 128) - 55 then .error 5 else
 if(s.getD 1 0).toNat=0\/be ((s.drop 1).take ((s.getD 0 0).toNat - (if 192<=(s.getD 0 0).toNat then 192 else 128) - 55))<=55 then .error 7 else
 lJ s (decide (192<=(s.getD 0 0).toNat)) (1+((s.getD 0 0).toNat - (if 192<=(s.getD 0 0).toNat then 192 else 128)) - 55) (be ((s.drop 1).take ((s.getD 0 0).toNat - (if 192<=(s.getD 0 0).toNat then 192 else 128) - 55)))
def eR(f:yL->Except Nat (Tree×Nat)):Nat->yL->Except Nat (List Tree)
 |m,body=>if body.length=0 then .ok [] else
  match m with
  | 0=>.error 8
  |m+1=>match f body with
   | .error e=>.error e
   | .ok (k,u)=>match eR f m (body.drop u) with
    | .error e=>.error e
    | .ok ks=>.ok (k::ks)
def dr:Nat->yL->Except Nat (Tree×Nat)
 |d,s=>match fE s with
  | .error e=>.error e
  | .ok (list,from_,n)=>
   if list=false then(if 0<from_/\fN ((s.drop from_).take n)=true then .error 7 else .ok (ak ((s.drop from_).take n),from_+n))
   else match d with
    | 0=>.error 8
    |d+1=>match eR (dr d) 64 ((s.drop from_).take n) with
     | .error e=>.error e
     | .ok ks=>.ok (bJ ks,from_+n)
def dC(s:yL):Except Nat Tree:=
 if 4096<s.length then .error 1 else
 match dr 6 s with
 | .error e=>.error e
 | .ok (x,u)=>if u<s.length then .error 6 else .ok x
def AS(s:yL)(h:s.length≠0):s=s.getD 0 0::s.drop 1:=by
 cases s with
 |nil=>simp at h
 |cons c r=>rfl
def AJ(a n:Nat):0<(cV a n).length:=by unfold cV;split<;>simp
def DE{s l l' f n a b}(h:lJ s l f n=.ok (l',a,b)):l'=l/\a=f/\b=n/\¬s.length - f<n:=by
 unfold lJ at h;split at h
 .cases h
 cases h;exact⟨rfl,rfl,rfl,‹_›⟩
def AL(s)(l:Bool)(f n:Nat)(h:fE s=.ok (l,f,n)):s.length≠0/\((l=false/\f=0/\n=1/\(s.getD 0 0).toNat<128)\/(1<=f/\f+n<=s.length/\s.take f=cV (if l then 192 else 128) n)):=by
 unfold fE at h;by_cases h0:s.length=0
 .rw[Uj h0] at h;cases h
 rw[Ui h0] at h;refine⟨h0,?_⟩;have a:=AS s h0;have j:=(s.getD 0 0).toNat_lt;by_cases h1:(s.getD 0 0).toNat<128
 .rw[Uj h1] at h;cases h;exact .inl ⟨rfl,rfl,rfl,h1⟩
 rw[Ui h1] at h;right;generalize hbase:(if 192<=(s.getD 0 0).toNat then 192 else 128)=base at h;have b:(if(decide (192<=(s.getD 0 0).toNat))=true then 192 else 128)=base:=by rw[<-hbase];simp
 have o:base<=(s.getD 0 0).toNat:=by rw[<-hbase];split<;>omega
 by_cases h2:(s.getD 0 0).toNat - base<=55
 .rw[Uj h2] at h;obtain⟨rfl,rfl,rfl,h3⟩:=DE h;refine⟨by omega,by omega,?_⟩;rw[b];unfold cV;rw[Uj h2,a];show [s.getD 0 0]=_;congr 1;apply l9;rw[U3];have e:((s.getD 0 0)::s.drop 1).getD 0 0=s.getD 0 0:=rfl;rw[e];omega
 rw[Ui h2] at h;by_cases h3:s.length - 1<(s.getD 0 0).toNat - base - 55
 .rw[Uj h3] at h;cases h
 rw[Ui h3] at h;have q:(s.getD 0 0).toNat - base - 55<=8:=by rw[<-hbase];split<;>omega
 have i:1+((s.getD 0 0).toNat - base) - 55=1+((s.getD 0 0).toNat - base - 55):=by omega
 rw[i] at h;have m:(s.getD 0 0).toNat=base+55+((s.getD 0 0).toNat - base - 55):=by omega
 have p:1<=(s.getD 0 0).toNat - base - 55:=by omega
 generalize hk:(s.getD 0 0).toNat - base - 55=k at*;have g:((s.drop 1).take k).length=k:=by rw[UN,Uu];omega
 by_cases h4:(s.getD 1 0).toNat=0\/be ((s.drop 1).take k)<=55
 .rw[Uj h4] at h;cases h
 rw[Ui h4] at h;obtain⟨rfl,rfl,rfl,h5⟩:=DE h;refine⟨by omega,by omega,?_⟩;rw[b];have d:bS 8 (be ((s.drop 1).take k))=(s.drop 1).take k:=Bo 8 _ (by omega) (λ_=>by
  intro c;apply h4;left;have e:((s.drop 1).take k).getD 0 0=s.getD 1 0:=by
   rw[Up,Vv,Uj (by omega),VE,Up]
  rwa[e] at c)
 unfold cV;rw[Ui (by omega),d,g];conv=>lhs;rw[a]
 rw[Nat.add_comm 1 k,List.take_succ_cons];congr 1;apply l9;rw[U3];omega
def Di(f:yL->Except Nat (Tree×Nat))(b:Tree->yL)(c:Tree->Bool)(d:∀s x u,f s=.ok (x,u)->0<u/\u<=s.length/\b x=s.take u/\c x=true):∀(m:Nat) (a:yL) (ks:List Tree),eR f m a=.ok ks->(ks.map b).flatten=a/\ks.all c=true/\ks.length<=m
 | 0,a,ks,h=>by
  unfold eR at h
  by_cases h0:a.length=0
  .rw[Uj h0] at h;cases h
   exact⟨(UH.1 h0).symm,rfl,Ug _⟩
  rw[Ui h0] at h;cases h
 |m+1,a,ks,h=>by
  unfold eR at h
  by_cases h0:a.length=0
  .rw[Uj h0] at h;cases h
   exact⟨(UH.1 h0).symm,rfl,UD _⟩
  rw[Ui h0] at h
  simp only at h
  cases hk:f a with
  |error e=>rw[hk] at h;cases h
  |ok ku=>
   let⟨k,u⟩:=ku
   rw[hk] at h
   simp only at h
   cases hr:eR f m (a.drop u) with
   |error e=>rw[hr] at h;cases h
   |ok ks'=>
    rw[hr] at h
    cases h
    let⟨h1,h2,h3,h4⟩:=d _ _ _ hk
    let⟨i1,i2,i3⟩:=Di f b c d m _ _ hr
    refine⟨?_,?_,by simp;omega⟩
    .rw[List.map_cons,List.flatten_cons,h3,i1,VB]
    rw[List.all_cons,h4,i2];rfl
def Dd:∀(d:Nat) (s) (x:Tree) (u:Nat),dr d s=.ok (x,u)->0<u/\u<=s.length/\bu d x=s.take u/\bN d x=true:=by
 intro d;induction d with
 |zero=>
  intro s x u h;unfold dr at h;cases hh:fE s with
  |error e=>rw[hh] at h;cases h
  |ok lfn=>
   let⟨l,f,n⟩:=lfn;rw[hh] at h;simp only at h;let⟨k,i⟩:=AL s l f n hh;cases l with
   |true=>simp at h
   |false=>
    rw[Uj rfl] at h;split at h
    .cases h
    rename_i hnb
    cases h;rcases i with⟨_,rfl,rfl,j⟩|⟨m,c,g⟩
    .refine⟨by omega,by omega,?_,rfl⟩;show cL _=_;have a:fN ((s.drop 0).take 1)=true:=by
      rw[AS s k];unfold fN;simp only[List.drop_zero,List.take_succ_cons,List.take_zero,UX];simp;simpa using j
     unfold cL;rw[Uj a];simp
    refine⟨by omega,c,?_,rfl⟩;show cL _=_;have a:¬fN ((s.drop f).take n)=true:=λa=>hnb ⟨by omega,a⟩
    have b:((s.drop f).take n).length=n:=by rw[UN,Uu];omega
    unfold cL;rw[Ui a,b,<-(show cV (if false=true then 192 else 128) n=cV 128 n from rfl),<-g,List.take_add]
 |succ d ih=>
  intro s x u h;unfold dr at h;cases hh:fE s with
  |error e=>rw[hh] at h;cases h
  |ok lfn=>
   let⟨l,f,n⟩:=lfn;rw[hh] at h;simp only at h;let⟨k,i⟩:=AL s l f n hh;cases l with
   |true=>
    simp only[Bool.true_eq_false,UT] at h;rcases i with⟨b,_⟩|⟨m,c,g⟩
    .cases b
    cases hk:eR (dr d) 64 ((s.drop f).take n) with
    |error e=>rw[hk] at h;cases h
    |ok ks=>
     rw[hk] at h;cases h;let⟨i1,i2,i3⟩:=Di (dr d) (bu d) (bN d) (λs x u h=>ih s x u h) 64 _ _ hk;have b:((s.drop f).take n).length=n:=by rw[UN,Uu];omega
     refine⟨by omega,c,?_,?_⟩
     .show gZ _=_;rw[i1];unfold gZ;rw[b,<-(show cV (if true=true then 192 else 128) n=cV 192 n from rfl),<-g,List.take_add]
     show(decide (ks.length<=64) && ks.all (bN d))=true;rw[i2,Uw i3];rfl
   |false=>
    rw[Uj rfl] at h;split at h
    .cases h
    rename_i hnb
    cases h;rcases i with⟨_,rfl,rfl,j⟩|⟨m,c,g⟩
    .refine⟨by omega,by omega,?_,rfl⟩;show cL _=_;have a:fN ((s.drop 0).take 1)=true:=by
      rw[AS s k];unfold fN;simp only[List.drop_zero,List.take_succ_cons,List.take_zero,UX];simp;simpa using j
     unfold cL;rw[Uj a];simp
    refine⟨by omega,c,?_,rfl⟩;show cL _=_;have a:¬fN ((s.drop f).take n)=true:=λa=>hnb ⟨by omega,a⟩
    have b:((s.drop f).take n).length=n:=by rw[UN,Uu];omega
    unfold cL;rw[Ui a,b,<-(show cV (if false=true then 192 else 128) n=cV 128 n from rfl),<-g,List.take_add]
def fU(l:Bool):Nat:=if l then 192 else 128
def Hm(l:Bool)(n:Nat)(rest:yL)(g:n<256 ^ 8)(p:n<=rest.length):fE (cV (fU l) n++rest)=.ok (l,(cV (fU l) n).length,n):=by
 have f:∀b:Nat,fU l<=b->(l=false->b<192)->(if 192<=b then 192 else 128)=fU l/\decide (192<=b)=l:=by
  intro b h1 h2;cases l with
  |false=>have:=h2 rfl;rw[Ui (by omega)];exact⟨rfl,Uv (by omega)⟩
  |true=>have c:192<=b:=h1;rw[Uj c];exact⟨rfl,Uw c⟩
 have o:fU l<=192:=by cases l<;>decide
 have m:128<=fU l:=by cases l<;>decide
 have d:l=false->fU l=128:=by intro h;rw[h];rfl
 by_cases h55:n<=55
 .have e:cV (fU l) n=[UInt8.ofNat (fU l+n)]:=by unfold cV;rw[Uj h55]
  have a:(UInt8.ofNat (fU l+n)).toNat=fU l+n:=by rw[U3];omega
  let⟨k1,k2⟩:=f (fU l+n) (by omega) (λh=>by rw[d h];omega);rw[e];unfold fE;simp only[List.singleton_append,UX,a,k1,k2,UJ];rw[Ui (by omega),Ui (by omega),Uj (by omega),show fU l+n - fU l=n by omega];unfold lJ;rw[Ui (by simp;omega)];rfl
 have k:0<(bS 8 n).length:=Bm 8 n (by omega) (by omega);have h8:=qE 8 n;have e:cV (fU l) n=UInt8.ofNat (fU l+55+(bS 8 n).length)::bS 8 n:=by unfold cV;rw[Ui h55]
 have a:(UInt8.ofNat (fU l+55+(bS 8 n).length)).toNat=fU l+55+(bS 8 n).length:=by rw[U3];omega
 let⟨k1,k2⟩:=f (fU l+55+(bS 8 n).length) (by omega) (λh=>by rw[d h];omega);have i:=BD 8 n g;have j:=Bn 8 n (by omega) g;rw[e];generalize hD:bS 8 n=D at*;have e1:fU l+55+D.length - fU l=55+D.length:=by omega
 have e2:55+D.length - 55=D.length:=by omega
 have e3:1+(55+D.length) - 55=1+D.length:=by omega
 unfold fE;simp only[List.cons_append,UX,a,k1,k2,UJ,List.drop_succ_cons,List.drop_zero,e1,e2,e3,List.take_left,i];rw[Ui (by omega),Ui (by omega),Ui (by omega),Ui (by simp),Ui]
 .unfold lJ;rw[Ui (by simp;omega),Nat.add_comm 1]
 rintro (h|h)
 .apply j;rwa[List.getD_cons_succ,Up,UW k,<-Up] at h
 omega
def Da(t):0<(cL t).length:=by
 unfold cL;split
 .rename_i h;unfold fN at h;simp at h;omega
 rw[Uq];have:=AJ 128 t.length;omega
def Dc(d:Nat)(t r:yL)(k:t.length<256 ^ 8):dr d (cL t++r)=.ok (ak t,(cL t).length):=by
 by_cases a:fN t=true
 .have e:cL t=t:=by unfold cL;rw[Uj a]
  have f:=a;unfold fN at f;rw[Vr,VJ,VJ] at f;let⟨j,g⟩:=f;rw[e];match t,j with
  | [c],_=>
   have b:fE ([c]++r)=.ok (false,0,1):=by
    unfold fE;simp only[List.singleton_append,UX,UJ];simp only[UX] at g;rw[Ui (by omega),Uj g]
   unfold dr;rw[b];simp
 have e:cL t=cV 128 t.length++t:=by unfold cL;rw[Ui a]
 have b:=Hm false t.length (t++r) k (by simp);have i:fU false=128:=rfl;rw[i] at b;rw[e,UI];unfold dr;rw[b];simp only;rw[Uj trivial,List.drop_left,List.take_left,Ui (λh=>a h.2),Uq]
def uE(d:Nat)(x:Tree)(h:bN d x=true):(∃t,x=ak t)\/(∃e ks,d=e+1/\x=bJ ks/\ks.length<=64/\ks.all (bN e)=true):=by
 unfold bN at h;split at h
 .exact .inl ⟨_,rfl⟩
 .rw[Vr,VJ] at h;exact .inr ⟨_,_,rfl,rfl,h.1,h.2⟩
 cases h
def ij(d:Nat)(t):bu d (ak t)=cL t:=by unfold ak;simp only[bu]
def kI(d:Nat)(ks:List Tree):bu (d+1) (bJ ks)=gZ (ks.map (bu d)).flatten:=by unfold bJ;simp only[bu]
def SG(d:Nat)(x:Tree)(h:bN d x=true):0<(bu d x).length:=by
 rcases uE d x h with⟨t,rfl⟩|⟨e,ks,rfl,rfl,_,_⟩
 .rw[ij];exact Da t
 rw[kI];unfold gZ;rw[Uq];have:=AJ 192 (ks.map (bu e)).flatten.length;omega
def LM(f:yL->Except Nat (Tree×Nat))(a:Tree->yL)(ks:List Tree):∀(m:Nat),ks.length<=m->(∀x,x∈ks->0<(a x).length/\∀r,f (a x++r)=.ok (x,(a x).length))->eR f m (ks.map a).flatten=.ok ks:=by
 induction ks with
 |nil=>intro m _ _;unfold eR;rw[Uj (by simp)]
 |cons k ks ih=>
  intro m c b;let⟨g,d⟩:=b k (by simp);cases m with
  |zero=>simp at c
  |succ m=>have hi:=ih m (by simp at c;omega) (λx e=>b x (by simp[e]));unfold eR;rw[List.map_cons,List.flatten_cons,Ui (by rw[Uq];omega)];simp only;rw[d];simp only;rw[List.drop_left,hi]
def Ov(l:List yL):∀c,c∈l->c.length<=l.flatten.length:=by
 induction l with
 |nil=>intro c h;cases h
 |cons a l ih=>
  intro c h;rw[List.flatten_cons,Uq];rcases UC.1 h with rfl|h
  .omega
  have:=ih c h;omega
def LI:∀(d:Nat) (x:Tree) (r),bN d x=true->(bu d x).length<256 ^ 8->dr d (bu d x++r)=.ok (x,(bu d x).length):=by
 intro d;induction d with
 |zero=>
  intro x r b a;rcases uE 0 x b with⟨t,rfl⟩|⟨e,ks,j,_⟩
  .rw[ij] at a;rw[ij];refine Dc 0 t r ?_;unfold cL at a;split at a
   .exact a
   rw[Uq] at a;omega
  omega
 |succ d ih=>
  intro x r b a;rcases uE (d+1) x b with⟨t,rfl⟩|⟨e,ks,j,rfl,h64,h⟩
  .rw[ij] at a;rw[ij];refine Dc (d+1) t r ?_;unfold cL at a;split at a
   .exact a
   rw[Uq] at a;omega
  obtain rfl:e=d:=by omega
  rw[kI] at a;rw[kI];have i:(ks.map (bu e)).flatten.length<256 ^ 8:=by unfold gZ at a;rw[Uq] at a;omega
  have l:=LM (dr e) (bu e) ks 64 h64 (λx g=>by
   have c:=Vy.1 h x g;refine⟨SG e x c,λr=>ih x r c ?_⟩;have:=Ov (ks.map (bu e)) (bu e x) (List.mem_map_of_mem g);omega)
  generalize hB:(ks.map (bu e)).flatten=body at*;have f:=Hm true body.length (body++r) i (by simp);have k:fU true=192:=rfl;rw[k] at f;unfold gZ;rw[UI];unfold dr;rw[f];simp only[Bool.true_eq_false,UT];rw[List.drop_left,List.take_left,l];simp only[Uq]
def IX(x:Tree)(h:bN 6 x=true)(a:(bu 6 x).length<=4096):dC (bu 6 x)=.ok x:=by
 have:=LI 6 x [] h (by omega);rw[UU] at this;unfold dC;rw[Ui (by omega),this];simp
def Br(s)(x:Tree)(h:dC s=.ok x):bu 6 x=s/\bN 6 x=true/\s.length<=4096:=by
 unfold dC at h;by_cases h1:4096<s.length
 .rw[Uj h1] at h;cases h
 rw[Ui h1] at h;cases ht:dr 6 s with
 |error e=>rw[ht] at h;cases h
 |ok xu=>
  let⟨y,u⟩:=xu;rw[ht] at h;simp only at h;let⟨_,h2,h3,h4⟩:=Dd 6 s y u ht;by_cases h5:u<s.length
  .rw[Uj h5] at h;cases h
  rw[Ui h5] at h;cases h;refine⟨?_,h4,by omega⟩;rw[h3,U4 (by omega)]
def xF(W:World)(x:Int):(convert 143 9 (lV (qA W.heap.size) 1 1)).run yP (W.alloc (.cells #[iV .u8 x] 5))=.ok (sV (strOfNums [x])) (W.alloc (.cells #[iV .u8 x] 5)):=
 VA (P:=yP) _ 143 5 underlying143 underlying5 W.heap.size 0 1 1 [x] rfl (λi hi=>by
  have:i=0:=by omega
  subst this
  simp) 9 underlying9
def tU(n:Nat)(h:n<256):strOfNums [(n:Int)]=ae [UInt8.ofNat n]:=by
 have e:([(n:Int)]:List Int)=[UInt8.ofNat n].map (λc=>(c.toNat:Int)):=by
  simp only[List.map_cons,List.map_nil,U3];congr 1;omega
 rw[e,oN]
def rh(a b):ae a++ae b=ae (a++b):=by
 have h:(ae a++ae b).data.toList=(ae (a++b)).data.toList:=by simp[eU]
 rw[<-gA (ae a++ae b),h,gA]
def xM(s:yB)(w:World):yC 143 #[sV s] w λe w'=>e=rV (bV (fN s.data.toList))/\w'=w:=by
 have b:s.data.toList.length=s.size:=by simp
 by_cases h1:s.size=1
 .have d:((s.size:Int) == 1)=true:=beq_iff_eq.2 (by omega);have f:0<s.size:=by omega
  have e0:s.data.toList.getD 0 0=s[0]:=by rw[Up,Uh (by simpa using f)];rfl
  have a:fN s.data.toList=decide (((s[0]).toNat:Int)<128):=by
   unfold fN;rw[b,e0,Uw h1,Bool.true_and];by_cases h:(s[0]).toNat<128
   .rw[Uw h,Uw (by omega)]
   rw[Uv h,Uv (by omega)]
  have c:=aa a;clear a b e0 h1;go_enter func143,ntmps143
  go_wp2;go_ret;exact⟨by rw[c.o];rfl,rfl⟩
 have d:((s.size:Int) == 1)=false:=Vd.2 (by omega);have a:fN s.data.toList=false:=by
  unfold fN;rw[b,Uv h1];rfl
 have c:=aa a;clear a b h1;go_enter func143,ntmps143
 go_wp2;go_ret;exact⟨by rw[c.o];rfl,rfl⟩
def S8(n:Nat)(v:n<140737488355329)(w:World):yC 147 #[i6 n] w λe w'=>e=rV (sV (ae (bS 8 n)))/\yW w w':=by
 have t:=λW x=>xF W x
 go_enter func147,ntmps147
 go_wp2;go_loopg [0,3] n (λg a o wr=>∃(m f:Nat)(b:yB),g=m/\m<=n/\a=i6 m/\o=sV b/\yH (bS 8 n=bS f m++b.data.toList/\m<256 ^ f/\f<=8/\b.size+f=8)/\yW w wr)
 .exact⟨n,8,ByteArray.empty,rfl,Ug _,rfl,rfl,⟨by simp,by omega,Ug _,rfl⟩,Un _ _⟩
 obtain⟨m,f,b,j,u,rfl,rfl,d,h⟩:=hrel;have p:=aa j;have c:=aa h;have z:b.size<=8:=by have:=d.o.2.2.2;omega
 clear j h;by_cases h0:0<m
 .have A:IntKind.u8.wrap ((m:Int) % 256)=((m % 256:Nat):Int):=by rw[VI];omega
  have s:(0:Int)<(m:Int):=by omega
  have k:=tU (m % 256) (by omega);have y:(strOfNums [(m:Int) % 256]).size=1:=by rw[strOfNums_size];rfl
  have q:=aa k;clear k;go_wp2;go_roundg (m / 256)
  case measure=>have:=p.o;omega
  case rel=>
   obtain⟨d1,d2,d3,d4⟩:=d.o;have e:strOfNums [(m:Int) % 256]++b=ae (UInt8.ofNat (m % 256)::b.data.toList):=by
    have e1:((m:Int) % 256)=((m % 256:Nat):Int):=by omega
    rw[e1,q.o];conv=>lhs;rw[<-gA b]
    rw[rh];rfl
   cases f with
   |zero=>simp at d2;omega
   |succ f=>
    refine⟨m / 256,f,strOfNums [(m:Int) % 256]++b,rfl,by omega,by go_num,rfl,⟨?_,by rw[Nat.pow_succ] at d2;omega,by omega,?_⟩,c.o.alloc c.o.size _⟩
    .rw[d1,e,eU];conv=>lhs;unfold bS
     rw[Ui (by omega),UI];rfl
    rw[e,aN];simp;omega
 have r:m=0:=by omega
 subst r;have i:ae (bS 8 n)=b:=by rw[d.o.1,uK,VL,gA]
 have l:=aa i;clear i;go_wp2;go_ret;exact⟨by rw[l.o];rfl,c.o⟩
def IW(n:Nat):(bS 8 n).length<=8:=qE 8 n
def AK(a n:Nat):(cV a n).length<=9:=by
 unfold cV;split
 .simp
 have:=IW n;simp;omega
def Hp(a n:Nat)(m:a<=192)(i:n<140737488355329)(w:World):yC 161 #[i6 a,i6 n] w λe w'=>e=rV (sV (ae (cV a n)))/\yW w w':=by
 have k:=λW x=>xF W x
 by_cases h:n<=55
 .have g:decide ((n:Int)<=55)=true:=by simp;omega
  have j:IntKind.u8.wrap ((a:Int)+(n:Int))=((a+n:Nat):Int):=by rw[VI];omega
  have b:ae (cV a n)=strOfNums [((a+n:Nat):Int)]:=by
   unfold cV;rw[Uj h,tU _ (by omega)]
  have c:=aa b;clear b;go_enter func161,ntmps161
  go_wp2;go_ret;refine⟨by rw[c.o];rfl,(Un _ _).alloc (Ug _) _⟩
 have g:decide ((n:Int)<=55)=false:=by simp;omega
 have l:=IW n;have p:(ae (bS 8 n)).size=(bS 8 n).length:=aN _;have b:ae (cV a n)=strOfNums [((a+55+(bS 8 n).length:Nat):Int)]++ae (bS 8 n):=by
  unfold cV;rw[Ui h,tU _ (by omega),rh];rfl
 have c:=aa b;clear b;go_enter func161,ntmps161
 go_wp2_with fail
 refine(S8 n i _).mono ?_;rintro e w1⟨rfl,d⟩;have f:=aa d;clear d;generalize ae (bS 8 n)=D at*;generalize hL:(bS 8 n).length=L at*;have j:IntKind.u8.wrap ((a:Int)+55+(L:Int))=((a+55+L:Nat):Int):=by rw[VI];omega
 have o:∀x:Int,(strOfNums [x]).size=1:=λx=>by rw[strOfNums_size];rfl
 go_wp2;go_ret;exact⟨by rw[c.o];rfl,f.o.alloc f.o.size _⟩
def mK(a:Nat)(l:yL):Bool:=decide ((cV a l.length).length+l.length<=4096)
def Hj(a:Nat)(s:yB)(g:a<=192)(i:s.size<140737488355329)(w:World):yC 157 #[i6 a,sV s] w λe w'=>e=rV (tV #[sV (if mK a s.data.toList then ae (cV a s.size++s.data.toList) else ByteArray.empty),bV (mK a s.data.toList)])/\yW w w':=by
 have d:s.data.toList.length=s.size:=by simp
 have m:=AK a s.size;have n:(ae (cV a s.size)).size=(cV a s.size).length:=aN _;have k:yH (ae (cV a s.size++s.data.toList)=ae (cV a s.size)++s):=by
  conv=>rhs;rw[<-gA s]
  exact(rh _ _).symm
 by_cases h:(cV a s.size).length+s.size<=4096
 .have c:mK a s.data.toList=true:=by unfold mK;rw[d];exact Uw h
  rw[c,Uj rfl,k.o];have l:decide ((4096:Int)<((cV a s.size).length:Int)+(s.size:Int))=false:=by simp;omega
  clear d c;go_enter func157,ntmps157
  go_wp2_with fail
  refine(Hp a s.size g i _).mono ?_;rintro e w1⟨rfl,b⟩;have f:=aa b;clear b;generalize hD:ae (cV a s.size)=D at*;have j:=aa hD;clear hD;generalize (cV a s.size).length=L at*;go_wp2;go_ret2;exact⟨by rw[j.o];rfl,f.o⟩
 have c:mK a s.data.toList=false:=by unfold mK;rw[d];exact Uv h
 rw[c];have l:decide ((4096:Int)<((cV a s.size).length:Int)+(s.size:Int))=true:=by simp;omega
 clear d c;go_enter func157,ntmps157
 go_wp2_with fail
 refine(Hp a s.size g i _).mono ?_;rintro e w1⟨rfl,b⟩;have f:=aa b;clear b;generalize ae (cV a s.size)=D at*;generalize (cV a s.size).length=L at*;go_wp2;go_ret2;exact⟨rfl,f.o⟩
structure ik(w:World)(S:Nat->Prop)(k:Value)(n:Nat)(xs:List Value):Prop where
 len:xs.length=3*n
 pe:(n=0/\∃a c,k=lV a 0 c)\/∃b o c,k=lV (some ⟨b,o,none⟩) n c/\S b/\∀j,j<3*n->w.cell? ⟨b,o+j,none⟩=xs[j]?
def vg(k:Value):Prop:=∃a n c,k=lV a n c
def bg:Nat->World->(Nat->Prop)->List Value->Tree->Prop
 | 0,_,_,cs,x=>∃t k,cs=[bV false,sV t,k]/\x=ak t.data.toList/\t.size<140737488355329/\vg k
 |d+1,w,S,cs,x=>(∃t k,cs=[bV false,sV t,k]/\x=ak t.data.toList/\t.size<140737488355329/\vg k)\/
  (∃t k ks xs,cs=[bV true,sV t,k]/\x=bJ ks/\ik w S k ks.length xs/\ks.length<140737488355329/\∀i,i<ks.length->bg d w S ((xs.drop (3*i)).take 3) (ks.getD i (ak [])))
def nw(d:Nat)(w S)(t:yB)(k)(h:t.size<140737488355329)(a:vg k:=by exact⟨_,_,_,rfl⟩):bg d w S [bV false,sV t,k] (ak t.data.toList):=by
 cases d with
 |zero=>exact⟨t,k,rfl,rfl,h,a⟩
 |succ d=>exact .inl ⟨t,k,rfl,rfl,h,a⟩
def xm(d:Nat)(w S)(t:yB)(k)(ks:List Tree)(a:List Value)(h:ik w S k ks.length a)(b:ks.length<140737488355329)(c:∀i,i<ks.length->bg d w S ((a.drop (3*i)).take 3) (ks.getD i (ak []))):bg (d+1) w S [bV true,sV t,k] (bJ ks):=.inr ⟨t,k,ks,a,rfl,rfl,h,b,c⟩
def ik.move{w w':World}{S S' k n d}(h:ik w S k n d)(f:∀b,S b->b<w.heap.size->S' b/\w'.heap[b]? =w.heap[b]?):ik w' S' k n d:=by
 refine⟨h.len,?_⟩;rcases h.pe with h0|⟨b,o,c,rfl,g,e⟩
 .exact .inl h0
 by_cases m:n=0
 .subst m;exact .inl ⟨rfl,_,_,rfl⟩
 have h0:=e 0 (by omega);have p:d[0]? =some (d[0]'(by rw[h.len];omega)):=Uh _;rw[p] at h0;have l:b<w.heap.size:=UE w _ h0;let⟨s1,s2⟩:=f b g l;exact .inr ⟨b,o,c,rfl,s1,λj i=>(Uz (w:=w) (a:=⟨b,o+j,none⟩) s2).trans (e j i)⟩
def bg.move{w w':World}{S S'}(a:∀b,S b->b<w.heap.size->S' b/\w'.heap[b]? =w.heap[b]?):∀(d:Nat) (cs:List Value) (x:Tree),bg d w S cs x->bg d w' S' cs x:=by
 intro d;induction d with
 |zero=>intro cs x h;exact h
 |succ d ih=>
  intro cs x h;rcases h with h|⟨t,k,ks,g,rfl,rfl,f,c,e⟩
  .exact .inl h
  exact .inr ⟨t,k,ks,g,rfl,rfl,f.move a,c,λi hi=>ih _ _ (e i hi)⟩
def bg.below{w w' S d cs x}(h:bg d w S cs x)(k:yW w w'):bg d w' S cs x:=
 bg.move (λb a c=>⟨a,k.block b c⟩) d cs x h
def ik.below{w w' S k n a}(h:ik w S k n a)(b:yW w w'):ik w' S k n a:=
 h.move (λc d e=>⟨d,b.block c e⟩)
def fH(c:yL):Bool:=decide (c.length<=4096)
def iE(c:yL):yB:=if fH c then ae c else ByteArray.empty
def IC(l:Bool)(t):mK (fU l) t=fH (cV (fU l) t.length++t):=by unfold mK fH;rw[Uq]
def rG(c)(h:fH c=true):iE c=ae c:=by unfold iE;rw[h];rfl
def jq(d:Nat)(ks:List Tree)(i:Nat):yL:=((ks.take i).map (bu d)).flatten
def Sz(d:Nat)(ks:List Tree)(i:Nat)(h:i<ks.length):jq d ks (i+1)=jq d ks i++bu d (ks.getD i (ak [])):=by
 unfold jq;have e:ks.getD i (ak [])=ks[i]:=by simp[List.getD,Uh h]
 rw[Vb h,e,Vl,List.flatten_append];congr 1;simp only[List.map_cons,List.map_nil,List.flatten_cons,List.flatten_nil,UU]
def SD(d:Nat)(ks:List Tree)(i:Nat)(h:ks.length<=i):jq d ks i=(ks.map (bu d)).flatten:=by unfold jq;rw[U4 h]
def SB(d:Nat)(ks:List Tree)(i:Nat):(jq d ks i).length<=((ks.map (bu d)).flatten).length:=by
 have e:(ks.map (bu d)).flatten=jq d ks i++((ks.drop i).map (bu d)).flatten:=by
  unfold jq;rw[<-List.flatten_append,<-Vl,VB]
 rw[e,Uq];omega
def BI(d:Nat):Prop:=∀(w:World) (S:Nat->Prop) (k:Value) (ks:List Tree) (a:List Value) (l:Nat),1<=l->l<=7->ik w S k ks.length a->ks.length<140737488355329->(∀i,i<ks.length->bg d w S ((a.drop (3*i)).take 3) (ks.getD i (ak [])))->
 yC 145 #[k,iV .i64 l] w λe w'=>e=rV (bV (bN (7 - l) (bJ ks)))/\w'=w
def nA(L:Nat)(ks:List Tree):bN (L+1) (bJ ks)=(decide (ks.length<=64) && ks.all (bN L)):=by
 unfold bJ;simp only[bN]
def nz(L:Nat)(t):bN L (ak t)=true:=by unfold ak;simp only[bN]
def AW(ks:List Tree):bN 0 (bJ ks)=false:=by unfold bJ;simp only[bN]
def LC{a:List Value}{i}(h:3*i+2<a.length):(a.drop (3*i)).take 3=[a[3*i]'(by omega),a[3*i+1]'(by omega),a[3*i+2]'(by omega)]:=by
 apply VQ;intro j;rw[Vv];split
 .rw[VE];match j with
  | 0=>simp[Uh (show 3*i<a.length by omega)]
  | 1=>simp[Uh (show 3*i+1<a.length by omega)]
  | 2=>simp[Uh (show 3*i+2<a.length by omega)]
  |j+3=>omega
 rw[U9 (by simp;omega)]
def tI{w S}{d:Nat}{j n q}{ks:List Tree}{e}(h:ik w S (lV j n q) ks.length e)(m:n=ks.length)(k:∀i,i<ks.length->bg d w S ((e.drop (3*i)).take 3) (ks.getD i (ak []))) (i:Nat) (hi:i<n):∃b o v0 v1 v2,j=some ⟨b,o,none⟩/\w.cell? ⟨b,o+i*3,none⟩=some v0/\w.cell? ⟨b,o+i*3+1,none⟩=some v1/\w.cell? ⟨b,o+i*3+2,none⟩=some v2/\bg d w S [v0,v1,v2] (ks.getD i (ak [])):=by
 have f:=hi;rw[m] at f;rcases h.pe with⟨h0,_⟩|⟨b,o,c,l,r,a⟩
 .omega
 have p:3*i+2<e.length:=by rw[h.len];omega
 have g:=k i f;rw[LC p] at g;refine⟨b,o,_,_,_,?_,?_,?_,?_,g⟩
 .cases l;rfl
 .rw[<-Uh,<-a (3*i) (by omega),Nat.mul_comm]
 .rw[<-Uh,<-a (3*i+1) (by omega),Nat.mul_comm,Nat.add_assoc]
 rw[<-Uh,<-a (3*i+2) (by omega),Nat.mul_comm,Nat.add_assoc]
def lp{d w S v0 v1 v2 x}(h:bg d w S [v0,v1,v2] x):(∃t,v0=bV false/\v1=sV t/\x=ak t.data.toList/\t.size<140737488355329)\/
 (∃e t ks c,d=e+1/\v0=bV true/\v1=sV t/\x=bJ ks/\ik w S v2 ks.length c/\ks.length<140737488355329/\∀i,i<ks.length->bg e w S ((c.drop (3*i)).take 3) (ks.getD i (ak []))):=by
 cases d with
 |zero=>let⟨t,k,a,b,f,_⟩:=h;simp only[VD,and_true] at a;exact .inl ⟨t,a.1,a.2.1,b,f⟩
 |succ d=>
  rcases h with⟨t,k,a,b,f,_⟩|⟨t,k,ks,c,a,b,l,g,j⟩
  .simp only[VD,and_true] at a;exact .inl ⟨t,a.1,a.2.1,b,f⟩
  simp only[VD,and_true] at a;let⟨h1,h2,h3⟩:=a;subst h3;exact .inr ⟨d,t,ks,c,rfl,h1,h2,b,l,g,j⟩
def ik.slice{w S k n d}(h:ik w S k n d):∃a c,k=lV a n c:=by
 rcases h.pe with⟨rfl,a,c,e⟩|⟨b,o,c,e,_⟩
 .exact⟨a,c,e⟩
 exact⟨_,c,e⟩
def rU{d w S v0 v1 v2 x}(h:bg d w S [v0,v1,v2] x):vg v2:=by
 cases d with
 |zero=>let⟨t,k,b,_,_,hs⟩:=h;simp only[VD,and_true] at b;rwa[b.2.2]
 |succ d=>
  rcases h with⟨t,k,b,_,_,hs⟩|⟨t,k,ks,g,b,_,f,_⟩
  .simp only[VD,and_true] at b;rwa[b.2.2]
  simp only[VD,and_true] at b;let⟨a,c,e⟩:=f.slice;rw[b.2.2];exact⟨a,_,c,e⟩
def Ct(d:Nat)(X:∀e,d=e+1->BI e):BI d:=by
 intro w S k ks Y l h1 h7 G hb Q;obtain⟨J,K,A4⟩:∃J K,k=lV J ks.length K:=by
  rcases G.pe with⟨h0,a,c,rfl⟩|⟨b,o,c,rfl,_⟩
  .exact⟨a,c,by rw[h0]⟩
  exact⟨_,c,rfl⟩
 subst A4;have HK:=aa Q;have HI:=aa X;obtain⟨n,s⟩:=yX ks.length;have q:=aa s;have HR:yH (ik w S (lV J n K) ks.length Y):=by rw[s];exact G
 obtain⟨R,A⟩:=yX (bN (7 - l) (bJ ks));have y:=aa A;rw[<-s,<-A];rw[<-s] at hb;clear G Q X s A;by_cases A8:6<l
 .have A5:decide ((6:Int)<(l:Int))=true:=by simp;omega
  have f:R=false:=by rw[y.o,show 7 - l=0 by omega,AW]
  have p:=aa f;clear f;go_enter func145,ntmps145
  go_wp2;go_ret;exact⟨by rw[p.o];rfl,rfl⟩
 have A5:decide ((6:Int)<(l:Int))=false:=by simp;omega
 have e7:7 - l=(6 - l)+1:=by omega
 by_cases h64:64<n
 .have A6:decide ((64:Int)<(n:Int))=true:=by simp;omega
  have f:R=false:=by rw[y.o,e7,nA,Uv (by rw[<-q.o];omega)];rfl
  have p:=aa f;clear f;go_enter func145,ntmps145
  go_wp2;go_ret;exact⟨by rw[p.o];rfl,rfl⟩
 have A6:decide ((64:Int)<(n:Int))=false:=by simp;omega
 have N:R=ks.all (bN (6 - l)):=by rw[y.o,e7,nA,Uw (by rw[<-q.o];omega)];rfl
 have L:=aa N;clear N e7;go_enter func145,ntmps145
 go_wp2;go_loopg [5] n (λg r wr=>wr=w/\∃i:Nat,g=n - i/\i<=n/\r=i6 i/\yH (∀j,j<i->bN (6 - l) (ks.getD j (ak []))=true))
 .exact⟨rfl,0,rfl,by omega,rfl,λj h=>by omega⟩
 obtain⟨hw,i,P,hi,rfl,C⟩:=hrel;subst hw;have M:=aa P;clear P;by_cases U:i<n
 .obtain⟨b,o,v0,v1,v2,A3,g0,g1,g2,E⟩:=tI HR.o q.o HK.o i U;subst A3;have V:ks.getD i (ak [])∈ks:=by
   have D:=U;rw[q.o] at D;have e:ks.getD i (ak [])=ks[i]:=by simp[List.getD,Uh D]
   rw[e];exact Vc D
  have A1:=aa V;clear V;rcases lp E with⟨t,rfl,rfl,m,H⟩|⟨e,t,u,A7,O,rfl,rfl,m,W,A2,T⟩
  .have v:=aa m;clear m E;go_wp2;go_roundg (n - (i+1))
   .exact⟨rfl,i+1,rfl,by omega,by go_num,λj F=>by
     by_cases e:j=i
     .subst e;rw[v.o];exact nz _ _
     exact C.o j (by omega)⟩
   have:=M.o;omega
  have v:=aa m;have B:=HI.o e O wr S v2 u A7 (l+1) (by omega) (by omega) W A2 T;have z:((l+1:Nat):Int)=(l:Int)+1:=by omega
  rw[z] at B;have Z:=aa B;clear m E B W T O;go_wp2_with fail
  apply Z.m;have e6:7 - (l+1)=6 - l:=by omega
  rw[e6];cases hfl:bN (6 - l) (bJ u) with
  |true=>
   have A0:=aa hfl;clear hfl z e6;rintro e w'⟨rfl,I⟩;subst I;go_wp2;go_roundg (n - (i+1))
   .exact⟨rfl,i+1,rfl,by omega,by go_num,λj F=>by
     by_cases e:j=i
     .subst e;rw[v.o];exact A0.o
     exact C.o j (by omega)⟩
   have:=M.o;omega
  |false=>
   have f:R=false:=by
    rw[L.o];cases hq:ks.all (bN (6 - l)) with
    |false=>rfl
    |true=>have:=Vy.1 hq _ A1.o;rw[v.o,hfl] at this;cases this
   have p:=aa f;clear hfl z e6 f;rintro e w'⟨rfl,I⟩;subst I;go_wp2;go_ret;exact⟨by rw[p.o];rfl,rfl⟩
 have H:R=true:=by
  rw[L.o];refine Vy.2 λx m=>?_
  obtain⟨j,F,rfl⟩:=List.getElem_of_mem m;have:=C.o j (by have:=q.o;omega);have e:ks.getD j (ak [])=ks[j]:=by simp[List.getD,Uh F]
  rw[e] at this;exact this
 have HT:=aa H;clear H;go_wp2;go_ret;exact⟨by rw[HT.o];rfl,rfl⟩
def Cu:∀d,BI d
 | 0=>Ct 0 (λe h=>by omega)
 |d+1=>Ct (d+1) (λe h=>by
  have:e=d:=by omega
  subst this
  exact Cu e)
def nN(l:Bool)(f t:Nat):Value:=gV #[bV l,iV .i64 f,iV .i64 t]
def DH(s:yB)(l:Bool)(f n:Nat)(hs:s.size<=4096)(a:f<=s.size)(c:s.size - f<n)(w:World):yC 154 #[sV s,bV l,i6 f,iV .u64 n] w λe w'=>e=rV (tV #[nN false 0 0,i6 5])/\yW w w':=by
 have d:IntKind.u64.wrap ((s.size:Int) - (f:Int))=(s.size:Int) - (f:Int):=by rw[IntKind.wrap_u64];omega
 have b:decide ((s.size:Int) - (f:Int)<(n:Int))=true:=by simp;omega
 go_enter func154,ntmps154
 go_wp2;exact UB (v:=tV #[gV #[bV false,i6 0,i6 0],i6 5]) (by simp[results,results154,go_sem]) rfl ⟨rfl,(Un _ _).alloc (Ug _) _⟩
def DG(s:yB)(l:Bool)(f n:Nat)(hs:s.size<=4096)(b:f<=s.size)(d:¬s.size - f<n)(w:World):yC 154 #[sV s,bV l,i6 f,iV .u64 n] w λe w'=>e=rV (tV #[nN l f (f+n),i6 0])/\yW w w':=by
 have h:IntKind.u64.wrap ((s.size:Int) - (f:Int))=(s.size:Int) - (f:Int):=by rw[IntKind.wrap_u64];omega
 have c:decide ((s.size:Int) - (f:Int)<(n:Int))=false:=by simp;omega
 have g:n<=4096:=by omega
 have i:IntKind.i64.wrap (n:Int)=(n:Int):=by rw[UY];omega
 have a:yH (((f+n:Nat):Int)=(f:Int)+(n:Int)):=by exact Int.natCast_add f n
 go_enter func154,ntmps154
 go_wp2;exact UB (v:=tV #[gV #[bV l,i6 f,i6 ((f:Int)+(n:Int))],i6 0]) (by simp[results,results154,go_sem]) rfl ⟨by unfold nN;rw[a.o],(Un _ _).alloc (Ug _) _⟩
def OW(m c:Nat)(a:m*256<18446744073709551616)(b:c<256):bits .or .u64 (IntKind.u64.wrap ((m:Int)*256)) (c:Int)=((m*256+c:Nat):Int):=by
 have e:IntKind.u64.wrap ((m:Int)*256)=((m*256:Nat):Int):=by rw[IntKind.wrap_u64];omega
 rw[e,u64_or_nat _ _ a (by omega),nat_join 8 (m*256) c (by omega) (by omega)]
def Ty(s:yB)(k:Nat)(h:k<s.size):be (s.data.toList.take (k+1))=be (s.data.toList.take k)*256+(s[k]).toNat:=by
 have e:s.data.toList.take (k+1)=s.data.toList.take k++[s[k]]:=by
  rw[Vb (by simpa using h)];rfl
 rw[e,BC]
def NU(k:Nat)(h:k<=7):256 ^ k<=72057594037927936:=by
 have:256 ^ k<=256 ^ 7:=Nat.pow_le_pow_right (by omega) h;exact this
def gL(s:yL)(n:Nat):Nat:=if s.length<n then 5 else if(s.getD 0 0).toNat=0\/be (s.take n)<=55 then 7 else 0
def mC(s:yL)(n:Nat):Nat:=if gL s n=0 then be (s.take n) else 0
def Qm(s:yB)(n:Nat)(hs:s.size<=4096)(h1:1<=n)(h8:n<=8)(w:World):yC 155 #[sV s,i6 n] w λe w'=>e=rV (tV #[iV .u64 (mC s.data.toList n),i6 (gL s.data.toList n)])/\w'=w:=by
 have c:s.data.toList.length=s.size:=by simp
 by_cases v:s.size<n
 .have a:gL s.data.toList n=5:=by unfold gL;rw[c,Uj v]
  have d:mC s.data.toList n=0:=by unfold mC;rw[a];rfl
  have b:yH (gL s.data.toList n=5/\mC s.data.toList n=0):=⟨a,d⟩
  have F:decide ((s.size:Int)<(n:Int))=true:=by simp;omega
  clear a d c;go_enter func155,ntmps155
  go_wp2;go_ret2;exact⟨by rw[b.o.1,b.o.2];rfl,rfl⟩
 have F:decide ((s.size:Int)<(n:Int))=false:=by simp;omega
 have G:0<s.size:=by omega
 have i:=aa c;clear c;go_enter func155,ntmps155
 go_wp2;go_loopg [6,7] n (λg z r wr=>wr=w/\∃k:Nat,g=n - k/\k<=n/\r=i6 k/\z=iV .u64 (be (s.data.toList.take k)))
 .exact⟨rfl,0,rfl,by omega,rfl,rfl⟩
 obtain⟨I,k,t,L,rfl,rfl⟩:=hrel;subst I;have x:=aa t;clear t;by_cases N:k<n
 .have E:k<s.size:=by omega
  have A:=aa (Ty s k E);have o:=TA (s.data.toList.take k);have H:=NU k (by omega);have u:(s.data.toList.take k).length=k:=by rw[UN,i.o];omega
  rw[u] at o;have C:be (s.data.toList.take k)<72057594037927936:=by omega
  clear o H u;generalize be (s.data.toList.take k)=m at*;have p:(s[k]).toNat<256:=(s[k]).toNat_lt;have d:=OW m (s[k]).toNat (by omega) p;have K:IntKind.u64.wrap ((s[k]).toNat:Int)=((s[k]).toNat:Int):=by rw[IntKind.wrap_u64];omega
  obtain⟨M,l⟩:=yX (m*256+(s[k]).toNat);rw[<-l] at d;have y:=aa l;clear l C p;have D:(k:Int)<(n:Int):=by omega
  go_wp2;go_roundg (n - (k+1))
  .exact⟨rfl,k+1,rfl,by omega,by go_num,by rw[A.o,<-y.o]⟩
  have:=x.o;omega
 have:k=n:=by omega
 subst this;have e0:s.data.toList.getD 0 0=s[0]:=by rw[Up,Uh (by rw[i.o];exact G)];rfl
 have q:gL s.data.toList k=if(s[0]).toNat=0\/be (s.data.toList.take k)<=55 then 7 else 0:=by
  unfold gL;rw[i.o,Ui v,e0]
 have D:¬((k:Int)<(k:Int)):=by omega
 have h:=aa q;have j:yH (mC s.data.toList k=if gL s.data.toList k=0 then be (s.data.toList.take k) else 0):=rfl;clear q e0;generalize be (s.data.toList.take k)=m at*;by_cases f:(s[0]).toNat=0
 .have J:(((s[0]).toNat:Int) == 0)=true:=beq_iff_eq.2 (by omega);have a:gL s.data.toList k=7:=by rw[h.o,Uj (.inl f)]
  have b:yH (gL s.data.toList k=7/\mC s.data.toList k=0):=⟨a,by rw[j.o,a];rfl⟩
  clear a f;go_wp2;go_ret2;exact⟨by rw[b.o.1,b.o.2];rfl,rfl⟩
 have J:(((s[0]).toNat:Int) == 0)=false:=Vd.2 (by omega);by_cases h55:m<=55
 .have B:decide ((m:Int)<=55)=true:=by simp;omega
  have a:gL s.data.toList k=7:=by rw[h.o,Uj (.inr h55)]
  have b:yH (gL s.data.toList k=7/\mC s.data.toList k=0):=⟨a,by rw[j.o,a];rfl⟩
  clear a f;go_wp2;go_ret2;exact⟨by rw[b.o.1,b.o.2];rfl,rfl⟩
 have B:decide ((m:Int)<=55)=false:=by simp;omega
 have a:gL s.data.toList k=0:=by rw[h.o,Ui (by omega)]
 have b:yH (gL s.data.toList k=0/\mC s.data.toList k=m):=⟨a,by rw[j.o,a];rfl⟩
 clear a f;go_wp2;go_ret2;exact⟨by rw[b.o.1,b.o.2];rfl,rfl⟩
end Go.Proofs.YteaodagofkcgbaaGreatDoor
