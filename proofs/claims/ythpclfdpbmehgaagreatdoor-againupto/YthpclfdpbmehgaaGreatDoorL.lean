import Derived.Test.YthpclfdpbmehgaaGreatDoorI
open Go.Proofs.Tryz
open Go.Proofs.Tryz renaming prog→yP
open Go.Value renaming string→sV,pointer→pV,int→iV,slice→lV,bool→bV,tuple→tV,agg→gV
open Go.Ending renaming returned→rV
namespace Go.Proofs.YthpclfdpbmehgaaGreatDoor
open Go.RowKit
set_option maxRecDepth 100000
set_option maxHeartbeats 0
set_option linter.all false
def Ft(w:World)(t:yB)(a:Option Addr)(c b:Nat)(dep:Nat)(bl:Bool):
 yC 147 #[gV #[bV false,sV t,lV a c b],i6 (dep:Int),bV bl] w (iL w none):=by
 go_enter func147,ntmps147
 go_wp2
 go_ret
 exact⟨rfl,(Un _ _).alloc (Ug _) _⟩
def Po(w:World)(t:yB)(c:Option Addr)(n d:Nat)(dep:Nat)(bl:Bool)(h:n≠17)(h2:¬(n=2/\bl=false))(a:n<140737488355329):
 yC 147 #[gV #[bV true,sV t,lV c n d],i6 (dep:Int),bV bl] w (iL w none):=by
 have h17:((n:Int) == 17)=false:=by simp;omega
 have f:(n:Int)<140737488355329:=by omega
 by_cases h3:n=2
 ·subst h3;have b:bl=true:=by cases bl with|true=>rfl|false=>exact absurd ⟨rfl,rfl⟩ h2
  subst b;clear h2 h a;go_enter func147,ntmps147
  go_wp2
  go_ret
  exact⟨rfl,(Un _ _).alloc (Ug _) _⟩
 ·have e:((n:Int) == 2)=false:=by simp;omega
  clear h2 h a h3;go_enter func147,ntmps147
  go_wp2
  go_ret
  exact⟨rfl,(Un _ _).alloc (Ug _) _⟩
def u7(w:World)(r:Option Nd)(u:Option Addr)(w':World):Prop:=match r with
 |none=>u=none/\yW w w'
 |some n=>∃b,u=some ⟨b,0,none⟩/\At w' n (fun x=>w.heap.size<=x) (pV (qA b))/\yW w w'
def zL{w W w1:World}{r e}(a:yW w W)(h:iL W r e w1):∃u,e=rV (pV u)/\yH (u7 w r u w1):=by
 cases r with
 |none=>exact⟨none,h.1,rfl,a.trans (h.2.mono a.size)⟩
 |some n=>
  let⟨b,h1,h2,h3⟩:=h;exact⟨_,h1,b,rfl,h2.mono fun x c=>Ut a.size c,a.trans (h3.mono a.size)⟩
def Fu{w w1 r u}(h:u7 w r u w1):iL w r (rV (pV u)) w1:=by
 cases r with
 |none=>exact⟨by rw[h.1],h.2⟩
 |some n=>
  obtain⟨b,rfl,h2⟩:=h;exact⟨b,rfl,h2⟩
def Pn(d:Nat)(E:JV d)(w S)(t:yB)(a)(c:Nat)(ks:List Tree)(A:List Value)(dep:Nat)(p:ik w S (lV a 2 c) ks.length A)(m:ks.length=2)(l:∀i,i<ks.length->bg d w S ((A.drop (3*i)).take 3) (ks.getD i (ak [])))(q:dep+d<=4096):
 yC 147 #[gV #[bV true,sV t,lV a 2 c],i6 (dep:Int),bV false] w (iL w (jy (a6 d) (ks.getD 0 (ak [])) (ks.getD 1 (ak [])) dep)):=by
 obtain⟨g,o,p0,p1,p2,k,c0,c1,c2,f⟩:=tI (d:=d) (n:=2) p m.symm l 0 (by omega);subst k;obtain⟨F,H,q0,q1,q2,k,e0,e1,e2,j⟩:=tI (d:=d) (n:=2) p m.symm l 1 (by omega);cases k
 obtain⟨p0,p1,rfl,rfl⟩:=uu f;obtain⟨r,v,s,rfl⟩:=rU f;obtain⟨q0,q1,rfl,rfl⟩:=uu j;obtain⟨x,z,y,rfl⟩:=rU j;have C:yH (∀W,yW w W->yC 157 #[gV #[bV p0,sV p1,lV r v s],gV #[bV q0,sV q1,lV x z y],i6 (dep:Int)] W (iL W (jy (a6 d) (ks.getD 0 (ak [])) (ks.getD 1 (ak [])) dep))):=fun W b=>E W S _ _ _ _ _ _ _ _ dep (f.below b) (j.below b) q
 have G:g<w.heap.size:=UE w _ c0;rw[Nat.zero_mul,Nat.add_zero] at c0 c1 c2;rw[Nat.one_mul] at e0 e1 e2;clear p l f j q m;generalize jy (a6 d) (ks.getD 0 (ak [])) (ks.getD 1 (ak [])) dep=R at*;go_enter func147,ntmps147
 go_wp2_with fail
 have D:yH (∀W,yW w W->yC 157 #[gV #[bV p0,sV p1,lV r v s],gV #[bV q0,sV q1,lV x z y],i6 (dep:Int)] W fun e w1=>∃u,e=rV (pV u)/\yH (u7 w R u w1)):=fun W b=>(C.o W b).mono fun e w1 h=>zL b h
 go_region_with (go_at_call 157;refine(D.o _ (by first|exact(Un _ _).alloc (Ug _) _ |exact((Un _ _).alloc (Ug _) _).drew)).mono ?_;rintro e1 w1 ⟨u,rfl,B⟩)
 all_goals
  go_wp2
  go_ret
  exact Fu B.o
def Pq(d:Nat)(p:Ke d)(w S)(t:yB)(a)(c:Nat)(ks:List Tree)(f:List Value)(dep:Nat)(bl:Bool)(k:ik w S (lV a 17 c) ks.length f)(o:ks.length=17)(j:∀i,i<ks.length->bg d w S ((f.drop (3*i)).take 3) (ks.getD i (ak [])))(g:dep+d+1<=4096):
 yC 147 #[gV #[bV true,sV t,lV a 17 c],i6 (dep:Int),bV bl] w (iL w (iI (a6 d) ks dep)):=by
 have m:yH (∀W,yW w W->yC 158 #[lV a 17 c,i6 (dep:Int)] W (iL W (iI (a6 d) ks dep))):=fun W b=>p W S a c ks f dep (k.below b) o (fun i hi=>(j i hi).below b) g
 clear k j g;generalize iI (a6 d) ks dep=R at*;have n:yH (∀W,yW w W->yC 158 #[lV a 17 c,i6 (dep:Int)] W fun e w1=>∃u,e=rV (pV u)/\yH (u7 w R u w1)):=fun W b=>(m.o W b).mono fun e w1 h=>zL b h
 go_enter func147,ntmps147
 go_wp2_with fail
 refine(n.o _ ((Un _ _).alloc (Ug _) _)).mono ?_;rintro e w1 ⟨u,rfl,l⟩;go_wp2
 go_ret
 exact Fu l.o
def Pp:∀d,d<=7->BW d:=by
 intro d;induction d with
 |zero=>
  intro _ w S v0 v1 v2 x dep bl i p;obtain⟨b,j,f,rfl⟩:=rU i;rcases lp i with⟨t,rfl,rfl,rfl,r⟩|⟨e,t,ks,k,q,_⟩
  ·exact Ft w t b j f dep bl
  ·omega
 |succ d ih=>
  intro u w S v0 v1 v2 x dep bl i p;have s:=ih (by omega);have m:=QH d (by omega) s;obtain⟨b,j,f,rfl⟩:=rU i;rcases lp i with⟨t,rfl,rfl,rfl,r⟩|⟨e,t,ks,k,q,rfl,rfl,rfl,g,o,l⟩
  ·exact Ft w t b j f dep bl
  ·obtain rfl:e=d:=by omega
   let⟨a,c,h⟩:=g.slice;cases h
   have n:a6 (e+1) (bJ ks) dep bl=if ks.length=2/\bl=false then jy (a6 e) (ks.getD 0 (ak [])) (ks.getD 1 (ak [])) dep else if ks.length=17 then iI (a6 e) ks dep else none:=rfl;rw[n];by_cases h2:ks.length=2/\bl=false
   ·obtain⟨h2,rfl⟩:=h2;rw[Uj ⟨h2,rfl⟩];have:=Pn e (Om e m (by omega)) w S t b f ks k dep (by rw[h2] at g⊢;exact g) h2 l (by omega);rw[<-h2] at this;exact this
   ·rw[Ui h2];by_cases h17:ks.length=17
    ·rw[Uj h17];have:=Pq e (Tl e m) w S t b f ks k dep bl (by rw[h17] at g⊢;exact g) h17 l (by omega);rw[<-h17] at this;exact this
    ·rw[Ui h17];exact Po w t b ks.length f dep bl h17 h2 o
def CY(h:yL):Option Nd->Except Nat Nd
 |none=>.error 11
 |some n=>.ok (n.gY h)
def yy(h:yL)(dep:Nat)(bl:Bool):Except Nat Tree->Except Nat Nd
 | .error _=>.error 11
 | .ok x=>CY h (a6 6 x dep bl)
def gS(h t:yL)(dep:Nat)(bl:Bool):Except Nat Nd:=
 if fe t≠h then .error 10
 else if 0<dep/\t.length<32 then .error 11
 else yy h dep bl (dC t)
def qO(w:World)(b:Nat)(r:Except Nat Nd)(e:Ending)(w':World):Prop:=match r with
 | .error c=>e=rV (iV .i64 (c:Int))/\yW w w'
 | .ok n=>e=rV (iV .i64 0)/\At w' n (fun x=>x=b\/w.heap.size<=x) (ptr b)/\Kept b w w'
def TE{w t S p}(hA:At w t S p)(hs:t.some):∃(b:Nat) (k:Option Addr) (U:Nat->Option Addr),p=ptr b/\S b/\bU w b t (pV k) (fun i=>pV (U i))/\
 ∀(w':World) (b':Nat) (h:yL),¬S b'->bU w' b' (t.gY h) (pV k) (fun i=>pV (U i))->(∀x,S x->x≠b->x<w.heap.size->w'.heap[x]? =w.heap[x]?)->At w' (t.gY h) (fun x=>x=b'\/S x) (ptr b'):=by
 cases t with
 |nil=>exact hs.elim
 |unread h0=>
  obtain⟨b,rfl,hb,B⟩:=hA
  exact⟨b,none,fun _=>none,rfl,hb,B,fun w' b' h _ B' _=>⟨b',rfl,.inl rfl,B'⟩⟩
 |leaf h0 q v=>
  obtain⟨b,rfl,hb,B⟩:=hA
  exact⟨b,none,fun _=>none,rfl,hb,B,fun w' b' h _ B' _=>⟨b',rfl,.inl rfl,B'⟩⟩
 |ext h0 q k=>
  obtain⟨b,kp,S',rfl,hb,B,A0,hk⟩:=hA
  obtain⟨u,rfl⟩:=hk.ptr
  refine⟨b,u,fun _=>none,rfl,hb,B,fun w' b' h hn B' hw=>⟨b',_,S',rfl,.inl rfl,B',fun x hx=>⟨.inr (A0 x hx).1,fun e=>hn (e▸(A0 x hx).1)⟩,hk.kept fun x hx hl=>hw x (A0 x hx).1 (A0 x hx).2 hl⟩⟩
 |branch h0 v ks=>
  obtain⟨b,A2,Ss,rfl,hb,B,A0,A1,hK⟩:=hA
  have hp:∀i,∃u,i<16->A2 i=pV u:=fun i=>by
   by_cases hi:i<16
   ·let⟨u,hu⟩:=(hK i hi).ptr;exact⟨u,fun _=>hu⟩
   ·exact⟨none,fun h=>absurd h hi⟩
  let⟨U,hU⟩:=Classical.axiomOfChoice hp
  refine⟨b,none,U,rfl,hb,?_,fun w' b' h hn B' hw=>⟨b',fun i=>pV (U i),Ss,rfl,.inl rfl,B',fun i x hi hx=>⟨.inr (A0 i x hi hx).1,fun e=>hn (e▸(A0 i x hi hx).1)⟩,A1,fun i hi=>?_⟩⟩
  ·unfold bU at B⊢
   rw[B,FE _ _ _ _ _ _ _ hU];rfl
  ·have:=(hK i hi).kept (w':=w') fun x hx hl=>hw x (A0 i x hi hx).1 (A0 i x hi hx).2 hl
   rw[hU i hi] at this;exact this
def Mm:(yP.info? 133).map (·.size)=some 21:=by kernel_rfl
def PG(k:Int)(h p v b)(U:Nat->Option Addr):(fG k h p v (pV b) (fun i=>pV (U i))).all (·.oneCell')=true:=by
 refine Array.all_eq_true_iff_forall_mem.2 fun x a=>?_
 unfold fG at a;rw[List.mem_toArray,UA] at a;rcases a with a|a
 ·simp only[UC,Vs,or_false] at a;rcases a with rfl|rfl|rfl|rfl|rfl<;>rfl
 ·obtain⟨i,_,rfl⟩:=UO.1 a;rfl
def QD(h)(t:Nd):(t.gY h).kind=t.kind:=by cases t<;>rfl
def Od(h)(t:Nd):(t.gY h).path=t.path:=by cases t<;>rfl
def Lb(h)(t:Nd):(t.gY h).value=t.value:=by cases t<;>rfl
def AP(h)(t:Nd)(hs:t.some):(t.gY h).hash=h:=by cases t<;>first|exact hs.elim|rfl
def Eu(w h)(b:Nat)(t:yB)(dep:Nat)(bl:Bool)(B:bU w b (.unread h) cN (fun _=>cN))(G:t.size<=maxLen)(A8:dep<=4000)(T:aB w):
 yC 115 #[ptr b,sV t,i6 (dep:Int),bV bl] w (qO w b (gS h t.data.toList dep bl)):=by
 have c1:yc w b 1 (sV (ae h)):=B.c1;have V:=B.lt;obtain⟨R,J⟩:=yX (gS h t.data.toList dep bl)
 rw[<-J];have L:=aa J;have Z:=aa B;have HT:=aa T;have HS:yH (∀W,yW w W->yC 16 #[sV t] W fun e w'=>e=rV (sV (ae (fe t.data.toList)))/\yc w' b 1 (sV (ae h))/\yH (yW w w')):=fun W r=>by
  have:=ja t G W (T.below r);have e1:ae (fe t.data.toList)=ag t:=by
   have:=mX t.data.toList;rw[gA] at this;exact this
  rw[e1];refine this.mono ?_;rintro e w' ⟨h1,h2⟩;have P:=r.trans (h2.mono r.size);exact⟨h1,(P.cell (p:=⟨b,1,none⟩) V).trans c1,P⟩
 clear J B T;unfold ptr;go_enter func115,ntmps115
 go_upto_region 1 with fail
 go_cut [18] (fun v wx=>v=bV (!decide (fe t.data.toList=h))/\yH (yW w wx))
 case first=>
  go_region_with (go_at_call 16;refine(HS.o _ (by first|exact Un _ _ |exact(Un _ _).drew)).mono ?_;rintro e1 w1 ⟨rfl,d1,d⟩)
  all_goals
   go_wp2
   go_meet
   exact⟨by rw[pX],d⟩
 case rest=>
  obtain⟨rfl,d⟩:=hcut;by_cases q:fe t.data.toList=h
  ·have y:(!decide (fe t.data.toList=h))=false:=by simp[q]
   rw[y];have j:yH (R=if 0<dep/\t.data.toList.length<32 then .error 11 else yy h dep bl (dC t.data.toList)):=by
    show _=_;rw[L.o];unfold gS;rw[Ui (fun h=>h q)]
   have S:t.data.toList.length=t.size:=by simp
   have HD:yH (∀W:World,yC 111 #[sV t] W fun e w'=>Cl W (dC t.data.toList) e w'/\yW W w'):=fun W=>xE W t G
   have B3:(t.size:Int)<=9223372036854775807:=by unfold maxLen at G;omega
   rw[S] at j;clear q y G S;by_cases hs:0<dep/\t.size<32
   ·rw[Uj hs] at j;have h0:(0:Int)<(dep:Int):=by omega
    have h32:(t.size:Int)<32:=by omega
    clear hs;go_wp2
    go_ret
    rw[j.o];exact⟨rfl,d.o⟩
   ·rw[Ui hs] at j;have B2:(¬(0:Int)<(dep:Int))\/((0:Int)<(dep:Int)/\¬(t.size:Int)<32):=by
     by_cases h0:0<dep
     ·have:¬t.size<32:=fun h=>hs ⟨h0,h⟩
      exact .inr ⟨by omega,by omega⟩
     ·exact .inl (by omega)
    clear hs;generalize dC t.data.toList=DR at*;go_wp2_with fail
    all_goals
     refine(HD.o _).mono ?_;cases DR with
     |error c=>
      rintro e w2 ⟨⟨rfl,hc⟩,z⟩;have A7:((c:Int) != 0)=true:=by simp;omega
      have a:=aa (d.o.trans (z.mono d.o.size));clear z hc;go_wp2
      go_ret
      rw[j.o];exact⟨rfl,a.o.alloc a.o.size _⟩
     |ok x=>
      rintro e w2 ⟨⟨l,ti,ia,im,ic,rfl,Q⟩,z⟩;have a:=aa (d.o.trans (z.mono d.o.size));have HN:yH (∀W,yW w2 W->yC 147 #[gV #[bV l,sV ti,lV ia im ic],i6 (dep:Int),bV bl] W fun e w1=>∃u,e=rV (pV u)/\yH (u7 w2 (a6 6 x dep bl) u w1)):=fun W r=>(Pp 6 (by omega) W _ _ _ _ x dep bl (Q.below r) (by omega)).mono fun e w1 h=>zL r h
      have M:yH (R=CY h (a6 6 x dep bl)):=j.o;clear z Q;generalize a6 6 x dep bl=NR at*;go_wp2_with fail
      refine(HN.o _ ((Un _ _).alloc (Ug _) _)).mono ?_;rintro e w3 ⟨u,rfl,E⟩;cases NR with
      |none=>
       obtain⟨rfl,A⟩:=E.o;have f:yH (yW w w3):=a.o.trans (A.mono a.o.size);clear A E;go_wp2
       go_ret
       rw[M.o];exact⟨rfl,f.o⟩
      |some n=>
       obtain⟨g,rfl,F,A⟩:=E.o;have f:yH (yW w w3):=a.o.trans (A.mono a.o.size);have HA:=aa F;have Y:n.some:=by
        cases n with
        |nil=>exact absurd (F.none.2 rfl) (by intro h;cases h)
        | _=>trivial
       obtain⟨g',k,U,hg,O,m,X⟩:=TE F Y;cases hg
       have d1:=m.c1;have A6:=aa m;have B0:=m.lt;have B1:w.heap.size<=g:=Ut a.o.size O;have H:bU w3 b (.unread h) cN (fun _=>cN):=(f.o.block b V).trans Z.o;have b1:=H.c1;have A9:w3.frozen? ⟨g,1,none⟩=false:=by simp[World.frozen?,show w3.heap[g]? =_ from m]
       obtain⟨C,o⟩:=yX (fG n.kind (ae h) (ae n.path) (ae n.value) (pV k) (fun i=>pV (U i)))
       obtain⟨s,I⟩:=yX (fG (Nd.unread h).kind (ae (Nd.unread h).hash) (ae (Nd.unread h).path) (ae (Nd.unread h).value) cN (fun _=>cN))
       have A2:b≠g:=by omega
       have HL:yH ((w3.setCell ⟨g,1,none⟩ (sV (ae h))).heap[g]? =some (.cells C 133 (0,0))):=by
        show _=_;rw[Vo w3 g 1 _ _ _ m,FD,o]
       have K:yH ((w3.setCell ⟨g,1,none⟩ (sV (ae h))).heap[b]? =some (.cells s 133 (0,0))):=by
        show _=_;rw[Uy _ _ _ _ A2,I];exact H
       have N:(yP.info? 133).map (·.size)=some C.size:=by rw[o,rK];exact Mm
       have hz:s.size=C.size:=by rw[o,I,rK,rK]
       have A0:C.all (·.oneCell')=true:=by rw[o];exact PG _ _ _ _ _ _
       have HF:yH (qO w b R (rV (i6 0)) ((w3.setCell ⟨g,1,none⟩ (sV (ae h))).setRow b C)):=by
        show qO _ _ _ _ _;rw[M.o];have A1:bU ((w3.setCell ⟨g,1,none⟩ (sV (ae h))).setRow b C) b (n.gY h) (pV k) (fun i=>pV (U i)):=by
         unfold bU;rw[Vk _ _ _ _ _ _ K.o,o,QD,Od,Lb,AP _ _ Y]
        have A3:¬w2.heap.size<=b:=by have:=a.o.size;omega
        refine⟨rfl,(X _ b h A3 A1 fun x D A5 B4=>?_).mono ?_,?_⟩
        ·have:w2.heap.size<=x:=D;rw[setRow_other _ _ _ _ (by omega),Uy _ _ _ _ A5]
        ·intro x D;exact D.imp id fun h=>Ut a.o.size h
        ·refine⟨f.o.os,f.o.tape,f.o.output,?_,fun x D A4=>?_⟩
         ·simp;exact f.o.size
         ·rw[setRow_other _ _ _ _ A4,Uy _ _ _ _ (by show x≠g;omega)];exact f.o.block x D
       clear A E F O m X c1 H o I;go_wp2_with (first|refine wpList_load_row rfl 133 (.tmp 48) rfl g rfl 133 C (0,0) _ HL.o underlying133 rfl N ?_|refine wpList_store_row rfl 133 (.tmp 50) (.tmp 49) rfl b C rfl rfl 133 s K.o N hz A0 ?_)
       go_ret
       exact HF.o
  ·have y:(!decide (fe t.data.toList=h))=true:=by simp[q]
   rw[y];have j:yH (R=.error 10):=by show _=_;rw[L.o];unfold gS;rw[Uj q]
   clear q y;go_wp2
   go_ret
   rw[j.o];exact⟨rfl,d.o⟩
end Go.Proofs.YthpclfdpbmehgaaGreatDoor
