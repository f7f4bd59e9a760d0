import Derived.Test.YtmafnmpeehmndaaGreatDoorG
open Go.Proofs.Tryz
open Go.Proofs.Tryz renaming prog→yP
open Go.Value renaming string→sV,pointer→pV,int→iV,slice→lV,bool→bV,tuple→tV,agg→gV
open Go.Ending renaming returned→rV
namespace Go.Proofs.YtmafnmpeehmndaaGreatDoor
open Go.RowKit
set_option maxRecDepth 100000
set_option maxHeartbeats 0
set_option linter.all false
def js(t:Nd):Prop:=t.hash=fX t.code\/t.hash=fe t.code
def Nd.fY:Nd->Prop
 | .unread _=>True
 | .branch _ _ _=>True
 | _=>False
def aO:Nd->Prop
 | .nil=>True
 | .unread h=>h.length=32
 | .leaf h p v=>js (.leaf h p v)/\aw p/\p.length<=80/\v.length<=160
 | .ext h p k=>js (.ext h p k)/\aw p/\p.length<=80/\k.fY/\aO k
 | .branch h v ks=>js (.branch h v ks)/\v.length<=160/\∀i,i<16->aO (ks i)
def js.cases{t}(h:js t):(t.hash=[]/\t.code.length<32)\/t.hash.length=32:=by
 rcases h with h|h
 ·unfold fX at h;by_cases a:32<=t.code.length
  ·rw[Uj a] at h;right;rw[h];exact kE _
  ·rw[Ui a] at h;exact .inl ⟨h,by omega⟩
 ·right;rw[h];exact kE _
def js.two{t}(h:js t):t.hash=[]\/t.hash.length=32:=h.cases.imp (fun h=>h.1) id
def js.short{t}(h:js t)(e:t.hash=[]):t.code.length<32:=by
 rcases h.cases with h|h
 ·exact h.2
 ·rw[e] at h;cases h
def aO.lL:∀{t},aO t->nG t
 | .nil,_=>trivial
 | .unread _,h=>h
 | .leaf _ _ _,h=>⟨h.1.two,h.2⟩
 | .ext _ _ _,h=>⟨h.1.two,h.2.1,h.2.2.1,h.2.2.2.2.lL⟩
 | .branch _ _ _,h=>⟨h.1.two,h.2.1,fun i hi=>(h.2.2 i hi).lL⟩
def lT:∀(d:Nat) (x:Tree),bN d x=true->bN (d+1) x=true
 |d,x,h=>by
  rcases uE d x h with⟨t,rfl⟩|⟨e,ks,rfl,rfl,h1,h2⟩
  ·exact nz _ _
  ·rw[nA]
   simp only[Vr,VJ,Vy]
   exact⟨h1,fun k a=>lT e k (Vy.1 h2 k a)⟩
def xG:∀(d:Nat) (x:Tree),bN d x=true->bu (d+1) x=bu d x
 |d,x,h=>by
  rcases uE d x h with⟨t,rfl⟩|⟨e,ks,rfl,rfl,h1,h2⟩
  ·rw[ij,ij]
  ·rw[kI,kI]
   congr 2
   exact Vz fun k a=>xG e k (Vy.1 h2 k a)
def qm(b:yL):b.length+1<=(gZ b).length/\(gZ b).length<=b.length+9:=by
 unfold gZ;rw[Uq];have:=AK 192 b.length;have:=AJ 192 b.length;omega
def pW(t):1<=(cL t).length/\(cL t).length<=t.length+9:=by
 refine⟨Da t,?_⟩;unfold cL;split
 ·omega
 ·rw[Uq];have:=AK 128 t.length;omega
def re(t:yL)(h:t.length=32):(cL t).length=33:=by
 have a:fN t≠true:=by unfold fN;simp[h]
 unfold cL;rw[Ui a,Uq,h];rfl
def AV:∀(L:List yL),(∀c∈L,1<=c.length)->L.length<=L.flatten.length/\∀c∈L,c.length+L.length<=L.flatten.length+1
 | [],_=>⟨Ug _,fun c b=>by cases b⟩
 |a::L,h=>by
  let⟨h1,h2⟩:=AV L fun c b=>h c (Ul _ b)
  have d:=h a (Uk ..)
  rw[List.flatten_cons,Uq]
  refine⟨by simp only[UJ];omega,fun c b=>?_⟩
  rcases UC.1 b with rfl|b
  ·simp only[UJ];omega
  ·have:=h2 c b;simp only[UJ];omega
def Iv:∀(L:List yL) (m:Nat),(∀c∈L,c.length<=m)->L.flatten.length<=L.length*m
 | [],m,_=>by simp
 |a::L,m,h=>by
  have:=Iv L m fun c b=>h c (Ul _ b)
  have d:=h a (Uk ..)
  rw[List.flatten_cons,Uq,UJ,Nat.succ_mul]
  omega
def Ay(t:Nd):∃ks,t.item=bJ ks:=by cases t<;>exact⟨_,rfl⟩
def zj(t:Nd):(∃s,t.ref=ak s)\/(t.ref=t.item/\t.hash=[]/\t.some):=by
 cases t with
 |nil=>exact .inl ⟨_,rfl⟩
 |unread h=>by_cases e:h=[];exact .inr ⟨Uj e,e,trivial⟩;exact .inl ⟨h,Ui e⟩
 |leaf h p v=>by_cases e:h=[];exact .inr ⟨Uj e,e,trivial⟩;exact .inl ⟨h,Ui e⟩
 |ext h p k=>by_cases e:h=[];exact .inr ⟨Uj e,e,trivial⟩;exact .inl ⟨h,Ui e⟩
 |branch h v ks=>by_cases e:h=[];exact .inr ⟨Uj e,e,trivial⟩;exact .inl ⟨h,Ui e⟩
def jQ{t:Nd}(hs:t.some)(h:t.hash≠[]):t.ref=ak t.hash:=by
 cases t<;>first|exact hs.elim|exact Ui h
def ml{t:Nd}(hs:t.some)(h:t.hash=[]):t.ref=t.item:=by
 cases t<;>first|exact hs.elim|exact Uj h
def Nf(d:Nat)(t:Nd):1<=(bu (d+1) t.ref).length:=by
 rcases zj t with⟨s,h⟩|⟨h,_⟩
 ·rw[h,ij];exact(pW s).1
 ·let⟨ks,e⟩:=Ay t;rw[h,e,kI];exact Ut (Nat.le_add_left _ _) (qm _).1
def mM(d:Nat)(v:yL)(ks:Nat->Nd):List yL:=(List.range 16).map (fun i=>bu d (ks i).ref)++[cL v]
def Bt(d:Nat)(h v)(ks:Nat->Nd):bu (d+1) (Nd.branch h v ks).item=gZ (mM d v ks).flatten:=by
 show bu (d+1) (bJ _)=_;rw[kI];congr 2;unfold mM;rw[Vl,List.map_map];congr 1;show [bu d (ak v)]=_;rw[ij]
def Bx(d:Nat)(v)(ks:Nat->Nd):(mM d v ks).length=17:=by simp[mM]
def Jv(d:Nat)(v)(ks:Nat->Nd):∀c∈mM (d+1) v ks,1<=c.length:=by
 intro c a;rcases UA.1 a with a|a
 ·obtain⟨i,_,rfl⟩:=UO.1 a;exact Nf d (ks i)
 ·obtain rfl:=Uo.1 a;exact(pW v).1
def Je(d:Nat)(h p k):bu (d+1) (Nd.ext h p k).item=gZ (cL (cR p false)++bu d k.ref):=by
 show bu (d+1) (bJ [ak _,k.ref])=_;rw[kI];simp[ij]
def SE(d:Nat)(h p v):bu (d+1) (Nd.leaf h p v).item=gZ (cL (cR p true)++cL v):=by
 show bu (d+1) (bJ [ak _,ak _])=_;rw[kI];simp[ij]
def Jt(d:Nat)(h v)(ks:Nat->Nd):18<=(bu (d+2) (Nd.branch h v ks).item).length:=by
 rw[Bt];have h1:=(qm (mM (d+1) v ks).flatten).1;have h2:=(AV _ (Jv d v ks)).1;rw[Bx] at h2;omega
def RP(d:Nat)(h p)(k:Nd)(a:k.fY)(b:aO k):20<=(bu (d+3) (Nd.ext h p k).item).length:=by
 rw[Je];have h1:=(qm (cL (cR p false)++bu (d+2) k.ref)).1;rw[Uq] at h1;have h2:=(pW (cR p false)).1;have h3:18<=(bu (d+2) k.ref).length:=by
  cases k with
  |unread x=>
   have c:x≠[]:=fun e=>by subst e;cases b
   rw[jQ (t:=.unread x) trivial c,ij];have:=re x b;show 18<=(cL x).length;omega
  |branch x v ks=>
   by_cases e:x=[]
   ·rw[ml (t:=.branch x v ks) trivial e];exact Jt d x v ks
   ·rw[jQ (t:=.branch x v ks) trivial e,ij,re _ (b.1.two.resolve_left e)];omega
  |nil=>exact a.elim
  |leaf _ _ _=>exact a.elim
  |ext _ _ _=>exact a.elim
 omega
def AY(d:Nat)(h p v):bN (d+1) (Nd.leaf h p v).item=true:=by
 show bN (d+1) (bJ [ak _,ak _])=true;rw[nA];simp[nz]
def Iz(d:Nat)(h p)(k:Nd)(a:bN d k.ref=true):bN (d+1) (Nd.ext h p k).item=true:=by
 show bN (d+1) (bJ [ak _,k.ref])=true;rw[nA];simp[nz,a]
def IA(d:Nat)(h v)(ks:Nat->Nd)(b:∀i,i<16->bN d (ks i).ref=true):bN (d+1) (Nd.branch h v ks).item=true:=by
 show bN (d+1) (bJ _)=true;rw[nA];simp only[Vr,VJ,Vy];refine⟨by simp,fun x a=>?_⟩;rcases UA.1 a with a|a
 ·obtain⟨i,hi,rfl⟩:=UO.1 a;exact b i (Vq.1 hi)
 ·obtain rfl:=Uo.1 a;exact nz _ _
def GW(h v)(ks:Nat->Nd)(hF:aO (.branch h v ks))(he:h=[]):bN 2 (Nd.branch h v ks).item=true:=by
 refine IA 1 h v ks fun i hi=>?_
 rcases zj (ks i) with⟨s,e⟩|⟨e,eh,es⟩
 ·rw[e];exact nz _ _
 ·have hs:(bu 6 (Nd.branch h v ks).item).length<32:=hF.1.short he;rw[Bt] at hs;have h1:=(qm (mM 5 v ks).flatten).1;have h2:(bu 5 (ks i).ref).length+(mM 5 v ks).length<=(mM 5 v ks).flatten.length+1:=(AV _ (Jv 4 v ks)).2 (bu 5 (ks i).ref) (UA.2 (.inl (UO.2 ⟨i,Vq.2 hi,rfl⟩)));rw[Bx] at h2;have A1:(bu 5 (ks i).ref).length<=14:=by omega
  have A0:=hF.2.2 i hi;rw[e] at A1⊢;clear h1 h2 hs e;generalize ks i=K at*;cases K with
  |nil=>exact es.elim
  |unread x=>have:x.length=32:=A0;rw[show x=[] from eh] at this;cases this
  |leaf x p w=>exact AY 0 x p w
  |ext x p k=>have:20<=(bu 5 (Nd.ext x p k).item).length:=RP 2 x p k A0.2.2.2.1 A0.2.2.2.2;exact absurd A1 (by omega)
  |branch x w k=>have:18<=(bu 5 (Nd.branch x w k).item).length:=Jt 3 x w k;exact absurd A1 (by omega)
def xr(t)(a:aO t)(hs:t.some)(d:t.hash=[]):bN 3 t.item=true:=by
 cases t with
 |nil=>exact hs.elim
 |unread x=>have:x.length=32:=a;rw[show x=[] from d] at this;cases this
 |leaf x p v=>exact AY 2 x p v
 |ext x p k=>
  refine Iz 2 x p k ?_;have b:=a.2.2.2.1;have c:=a.2.2.2.2;cases k with
  |unread y=>
   have f:y≠[]:=fun e=>by subst e;cases c
   rw[jQ (t:=.unread y) trivial f];exact nz _ _
  |branch y v ks=>
   by_cases e:y=[]
   ·rw[ml (t:=.branch y v ks) trivial e];exact GW y v ks c e
   ·rw[jQ (t:=.branch y v ks) trivial e];exact nz _ _
  |nil=>exact b.elim
  |leaf _ _ _=>exact b.elim
  |ext _ _ _=>exact b.elim
 |branch x v ks=>exact lT 2 _ (GW x v ks a d)
def Et(t)(c:aO t):bN 3 t.ref=true:=by
 rcases zj t with⟨s,e⟩|⟨e,a,b⟩
 ·rw[e];exact nz _ _
 ·rw[e];exact xr t c b a
def Es(t)(a:aO t):(bu 5 t.ref).length<=33:=by
 cases t with
 |nil=>decide
 |unread x=>
  have b:x≠[]:=fun e=>by subst e;cases a
  rw[jQ (t:=.unread x) trivial b,ij];have:=re x a;show(cL x).length<=33;omega
 |leaf x p v=>
  by_cases e:x=[]
  ·have h1:=a.1.short e;have h2:=xr _ a trivial e;rw[ml (t:=.leaf x p v) trivial e,<-xG 5 _ (lT 4 _ (lT 3 _ h2))];show(Nd.leaf x p v).code.length<=33;omega
  ·rw[jQ (t:=.leaf x p v) trivial e,ij,re _ (a.1.two.resolve_left e)];omega
 |ext x p v=>
  by_cases e:x=[]
  ·have h1:=a.1.short e;have h2:=xr _ a trivial e;rw[ml (t:=.ext x p v) trivial e,<-xG 5 _ (lT 4 _ (lT 3 _ h2))];show(Nd.ext x p v).code.length<=33;omega
  ·rw[jQ (t:=.ext x p v) trivial e,ij,re _ (a.1.two.resolve_left e)];omega
 |branch x p v=>
  by_cases e:x=[]
  ·have h1:=a.1.short e;have h2:=xr _ a trivial e;rw[ml (t:=.branch x p v) trivial e,<-xG 5 _ (lT 4 _ (lT 3 _ h2))];show(Nd.branch x p v).code.length<=33;omega
  ·rw[jQ (t:=.branch x p v) trivial e,ij,re _ (a.1.two.resolve_left e)];omega
def ov(h p v:yL)(a:p.length<=80)(b:v.length<=160):mR (.leaf h p v):=by
 refine⟨AY 5 h p v,?_⟩;show(bu 6 (Nd.leaf h p v).item).length<=4096;rw[SE];have h1:=(qm (cL (cR p true)++cL v)).2;have h2:=(pW (cR p true)).2;have h3:=(pW v).2;rw[rD] at h2;rw[Uq] at h1;omega
def uN(h p:yL)(k)(b:p.length<=80)(a:aO k):mR (.ext h p k):=by
 refine⟨Iz 5 h p k (lT 4 _ (lT 3 _ (Et k a))),?_⟩;show(bu 6 (Nd.ext h p k).item).length<=4096;rw[Je];have h1:=(qm (cL (cR p false)++bu 5 k.ref)).2;have h2:=(pW (cR p false)).2;have h3:=Es k a;rw[rD] at h2;rw[Uq] at h1;omega
def sq(h v:yL)(ks:Nat->Nd)(d:v.length<=160)(b:∀i,i<16->aO (ks i)):mR (.branch h v ks):=by
 refine⟨IA 5 h v ks fun i hi=>lT 4 _ (lT 3 _ (Et _ (b i hi))),?_⟩;show(bu 6 (Nd.branch h v ks).item).length<=4096;rw[Bt];have h1:=(qm (mM 5 v ks).flatten).2;have h2:=Iv (mM 5 v ks) 169 (fun c a=>by
  rcases UA.1 a with a|a
  ·obtain⟨i,hi,rfl⟩:=UO.1 a;have:=Es _ (b i (Vq.1 hi));omega
  ·obtain rfl:=Uo.1 a;have:=(pW v).2;omega)
 rw[Bx] at h2;omega
def aO.ow{t}(h:aO t)(a:t.read):mR t:=by
 cases t with
 |nil=>exact a.elim
 |unread _=>exact a.elim
 |leaf x p v=>exact ov x p v h.2.2.1 h.2.2.2
 |ext x p k=>exact uN x p k h.2.2.1 h.2.2.2.2
 |branch x v ks=>exact sq x v ks h.2.1 h.2.2
def dw(p v:yL):Nd:=(Nd.leaf [] p v).mk
def gm(p:yL)(k:Nd):Nd:=(Nd.ext [] p k).mk
def dN(ks:Nat->Nd)(v:yL):Nd:=(Nd.branch [] v ks).mk
def pA{p v:yL}(a:aw p)(b:p.length<=80)(c:v.length<=160):aO (dw p v):=⟨.inl rfl,a,b,c⟩
def uG{p}{k:Nd}(c:aw p)(d:p.length<=80)(a:k.fY)(b:aO k):aO (gm p k):=⟨.inl rfl,c,d,a,b⟩
def r6{v:yL}{ks}(b:v.length<=160)(a:∀i,i<16->aO (ks i)):aO (dN ks v):=⟨.inl rfl,b,a⟩
def sx{n g w w1}(h:Below n w w1)(e:n<=g)(a b c d):Below n w ((((w1.setCell ⟨g,0,none⟩ a).setCell ⟨g,1,none⟩ b).setCell ⟨g,2,none⟩ c).setCell ⟨g,3,none⟩ d):=
 (((h.setCell e _).setCell e _).setCell e _).setCell e _
def qJ(w:World)(o p:Obj):yW w ((w.alloc o).alloc p):=((Un _ _).alloc (Ug _) _).alloc (by simp) _
def rf(r)(n:Nat):(ae r).extract n (ae r).size=ae (r.drop n):=by
 apply Go.WideShapes.bytes_inj;rw[Lib.extract_data,eU,eU];exact U4 (by rw[aN];simp)
def wM(b:Nat)(h p:yL)(k u A3)(r:yL)(hp:p.length<=4096)(hr:r.length<=4096)(A1:aF r p=p.length)(d:Nat)(hd:d<4096)(bl:Bool)(w)(B:bU w b (.ext h p k) (.pointer u) A3):
 yC 112 #[cz (.pointer (qA b)) (ae r) d bl] w fun e w'=>e=.returned (cz (.pointer u) (ae (r.drop p.length)) (d+p.length) true)/\yW w w':=by
 have c0:yc w b 0 (.int .i64 2):=B.c0;have c2:yc w b 2 (.string (ae p)):=B.c2;have c4:yc w b 4 (.pointer u):=B.c4;have A5:=B.lt;have HS:yH (∀w:World,yC 134 #[.string (ae r),.string (ae p)] w fun e w'=>e=.returned (.int .i64 ((ae p).size:Int))/\∃n,w'=w.drewN n):=fun w=>by
  have:=tD (ae r) (ae p) (by rw[aN];unfold maxLen;omega) (by rw[aN];unfold maxLen;omega) w;rw[eU,eU,A1] at this;rw[aN];exact this
 have HX:yH ((ae r).extract (ae p).size (ae r).size=ae (r.drop p.length)):=by show _=_;rw[aN p,rf]
 have A0:=(iN r p).1;rw[A1] at A0;have A4:(ae p).size<=(ae r).size:=by rw[aN,aN];exact A0
 have A6:(ae p).size<=4096:=by rw[aN];exact hp
 have A2:=aa ((aN p).symm);unfold cz;clear B A1 A0 hp;generalize ae r=R at*;generalize ae p=P at*;go_enter func112,ntmps112
 go_wp2
 go_quiet ((go_at_call 134;refine Calls.quiet_of (HS.o _)))
 go_wp2
 go_region
 all_goals
  go_wp2
  exact UB (v:=cz (.pointer u) (R.extract P.size R.size) (d+P.size) true) (by simp[results,results112,go_sem,cz]) rfl ⟨by rw[HX.o,A2.o];rfl,sx (Below.drewN (qJ w _ _) _) (Nat.le_succ _) _ _ _ _⟩
def zQ(b:Nat)(h p:yL)(k A1 A2)(r:yL)(hp:p.length<=4096)(hr:r.length<=4096)(A0:aF r p≠p.length)(d:Nat)(bl:Bool)(w)(B:bU w b (.ext h p k) A1 A2):
 yC 112 #[cz (.pointer (qA b)) (ae r) d bl] w fun e w'=>e=.returned (cz (.pointer none) ⟨#[]⟩ 0 false)/\yW w w':=by
 have c0:yc w b 0 (.int .i64 2):=B.c0;have c2:yc w b 2 (.string (ae p)):=B.c2;have A3:=B.lt;obtain⟨m,hm⟩:=yX (aF r p)
 have HS:yH (∀w:World,yC 134 #[.string (ae r),.string (ae p)] w fun e w'=>e=.returned (.int .i64 (m:Int))/\∃n,w'=w.drewN n):=fun w=>by
  have:=tD (ae r) (ae p) (by rw[aN];unfold maxLen;omega) (by rw[aN];unfold maxLen;omega) w;rw[eU,eU,<-hm] at this;exact this
 have A4:((m:Int) == ((ae p).size:Int))=false:=Vd.2 (by rw[aN,hm];omega);have A5:(ae p).size<=4096:=by rw[aN];exact hp
 unfold cz;clear B A0 hp hm;generalize ae r=R at*;generalize ae p=P at*;go_enter func112,ntmps112
 go_wp2
 go_quiet ((go_at_call 134;refine Calls.quiet_of (HS.o _)))
 go_wp2
 exact UB (v:=cz (.pointer none) ⟨#[]⟩ 0 false) (by simp[results,results112,go_sem,cz]) rfl ⟨rfl,sx (Below.drewN (qJ w _ _) _) (Nat.le_succ _) _ _ _ _⟩
def zP(b:Nat)(h p v:yL)(A0 A1)(r:yL)(hp:p.length<=4096)(d:Nat)(bl:Bool)(w)(B:bU w b (.leaf h p v) A0 A1):
 yC 112 #[cz (.pointer (qA b)) (ae r) d bl] w fun e w'=>e=.returned (cz (.pointer none) ⟨#[]⟩ 0 false)/\yW w w':=by
 have c0:yc w b 0 (.int .i64 1):=B.c0;have c2:yc w b 2 (.string (ae p)):=B.c2;have A2:=B.lt;have A3:(ae p).size<=4096:=by rw[aN];exact hp
 unfold cz;clear B hp;generalize ae r=R at*;generalize ae p=P at*;go_enter func112,ntmps112
 go_wp2
 go_quiet (fail)
 go_wp2
 exact UB (v:=cz (.pointer none) ⟨#[]⟩ 0 false) (by simp[results,results112,go_sem,cz]) rfl ⟨rfl,sx (Below.drewN (qJ w _ _) _) (Nat.le_succ _) _ _ _ _⟩
def zR(b:Nat)(h v)(ks:Nat->Nd)(a c)(d:Nat)(bl:Bool)(w)(B:bU w b (.branch h v ks) a c):
 yC 112 #[cz (pV (qA b)) ⟨#[]⟩ d bl] w fun e w'=>e=rV (cz (pV none) ⟨#[]⟩ 0 false)/\yW w w':=by
 have c0:=B.c0;have c2:=B.c2;have f:=B.lt;unfold cz;clear B;go_enter func112,ntmps112
 go_wp2
 go_quiet (fail)
 go_wp2
 exact UB (v:=cz (pV none) ⟨#[]⟩ 0 false) (by simp[results,results112,go_sem,cz]) rfl ⟨rfl,sx (Below.drewN (qJ w _ _) _) (Nat.le_succ _) _ _ _ _⟩
end Go.Proofs.YtmafnmpeehmndaaGreatDoor
