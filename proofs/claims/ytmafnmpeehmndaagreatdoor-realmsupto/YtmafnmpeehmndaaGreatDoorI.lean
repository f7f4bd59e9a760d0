import Derived.Test.YtmafnmpeehmndaaGreatDoorG
open Go.Proofs.Tryz
open Go.Proofs.Tryz renaming prog→yP
open Go.Value renaming string→sV,pointer→pV,int→iV,slice→lV,bool→bV,tuple→tV,agg→gV
open Go.Ending renaming returned→rV
namespace Go.Proofs.YtmafnmpeehmndaaGreatDoor
open Go.RowKit
set_option maxRecDepth 100000
set_option maxHeartbeats 0
set_option linter.all false
def gU(u:Nat->Option Addr):Value:=gV #[pV (u 0),pV (u 1),pV (u 2),pV (u 3),pV (u 4),pV (u 5),pV (u 6),pV (u 7),pV (u 8),pV (u 9),pV (u 10),pV (u 11),pV (u 12),pV (u 13),pV (u 14),pV (u 15)]
def yG{w}(T:aB w)(o:Obj):aB (w.alloc o):=T.below ((Un _ _).alloc (Ug _) _)
def rN(w w':World)(t:Nd)(a b)(o:Obj)(d:w'=w.alloc o)(c:o=.cells (fG t.kind (ae t.hash) (ae t.path) (ae t.value) a b) 167):bU w' w.heap.size t a b:=by
 subst d;subst c;exact UG _ _
def Made(w:World)(S:Nat->Prop)(t:Nd)(e:Ending)(w':World):Prop:=∃u,e=rV (pV u)/\At w' t (fun x=>S x\/w.heap.size<=x) (pV u)/\yW w w'
def qh(w p v)(c:nG (.leaf [] p v))(g:mR (.leaf [] p v))(T:aB w):
 yC 132 #[sV (ae p),sV (ae v)] w (Made w (fun _=>False) (Nd.leaf [] p v).mk):=by
 have B:∀W,W=w.alloc (.cells (fG 1 ⟨#[]⟩ (ae p) (ae v) cN (fun _=>cN)) 167)->bU W w.heap.size (.leaf [] p v) cN (fun _=>cN):=fun W a=>rN w W _ _ _ _ a rfl
 have h:yH (∀W,W=w.alloc (.cells (fG 1 ⟨#[]⟩ (ae p) (ae v) cN (fun _=>cN)) 167)->yC 148 #[ptr w.heap.size] W fun e w'=>e=rV (ptr w.heap.size)/\bU w' w.heap.size (Nd.leaf [] p v).mk cN (fun _=>cN)/\yW w w'):=fun W a=>
  (AO W (.leaf [] p v) (fun x=>x=w.heap.size) w.heap.size cN (fun _=>cN) ⟨_,rfl,rfl,B W a⟩ (B W a) c trivial rfl g (by rw[a];exact yG T _)).mono fun e w' ⟨h1,h2,h3⟩=>⟨h1,h2,by
   have i:Kept w.heap.size w W:=by rw[a];exact(Kept.refl _ _).alloc _
   exact(i.trans h3).below (Ug _)⟩
 clear B c g T;unfold ptr at*;generalize hP:ae p=P at*;generalize hV:ae v=V at*;go_enter func132,ntmps132
 go_wp2_with fail
 refine(h.o _ rfl).mono ?_;rintro e w1 ⟨rfl,d,f⟩;have b:yH (bU w1 w.heap.size (Nd.leaf [] p v).mk cN (fun _=>cN)/\yW w w1):=⟨d,f⟩
 clear d f;go_wp2
 go_ret
 exact⟨_,rfl,⟨_,rfl,.inr (Ug _),b.o.1⟩,b.o.2⟩
def zU(w p k S u)(f:At w k S (pV u))(g:nG (.ext [] p k))(h:mR (.ext [] p k))(T:aB w):
 yC 135 #[sV (ae p),pV u] w (Made w S (Nd.ext [] p k).mk):=by
 have c:=f.cut;have B:∀W,W=w.alloc (.cells (fG 2 ⟨#[]⟩ (ae p) ⟨#[]⟩ (pV u) (fun _=>cN)) 167)->bU W w.heap.size (.ext [] p k) (pV u) (fun _=>cN):=fun W a=>rN w W _ _ _ _ a rfl
 have j:yH (∀W,W=w.alloc (.cells (fG 2 ⟨#[]⟩ (ae p) ⟨#[]⟩ (pV u) (fun _=>cN)) 167)->yC 148 #[ptr w.heap.size] W fun e w'=>e=rV (ptr w.heap.size)/\At w' (Nd.ext [] p k).mk (fun x=>S x\/w.heap.size<=x) (ptr w.heap.size)/\yW w w'):=fun W a=>by
  have m:At W k (fun x=>S x/\x<w.heap.size) (pV u):=by rw[a];exact c.below ((Un _ _).alloc (Ug _) _)
  refine(AO W (.ext [] p k) (fun x=>S x\/x=w.heap.size) w.heap.size (pV u) (fun _=>cN) ⟨_,_,_,rfl,.inr rfl,B W a,fun x d=>⟨.inl d.1,by omega⟩,m⟩ (B W a) g trivial rfl h (by rw[a];exact yG T _)).mono ?_;rintro e w' ⟨h1,h2,h3⟩;have l:Kept w.heap.size w W:=by rw[a];exact(Kept.refl _ _).alloc _
  have b:=(l.trans h3).below (Ug _);exact⟨h1,⟨_,_,_,rfl,.inr (Ug _),h2,fun x d=>⟨.inl d.1,by omega⟩,c.below b⟩,b⟩
 clear B g h T f c;unfold ptr at*;generalize hP:ae p=P at*;go_enter func135,ntmps135
 go_wp2_with fail
 refine(j.o _ rfl).mono ?_;rintro e w1 ⟨rfl,b⟩;have i:=aa b;clear b;go_wp2
 go_ret
 exact⟨_,rfl,i.o⟩
structure Kids(w:World)(ks:Nat->Nd)(S:Nat->Prop)(u:Nat->Option Addr)(Ss:Nat->Nat->Prop):Prop where
 at_:∀i,i<16->At w (ks i) (Ss i) (pV (u i))
 sub:∀i x,i<16->Ss i x->S x
 jf:∀i j x,i<16->j<16->Ss i x->Ss j x->i=j
def wO(w v)(ks:Nat->Nd)(S)(u:Nat->Option Addr)(d:Nat->Nat->Prop)(f:Kids w ks S u d)(r:nG (.branch [] v ks))(t:mR (.branch [] v ks))(T:aB w):
 yC 137 #[gU u,sV (ae v)] w (Made w S (Nd.branch [] v ks).mk):=by
 have k:∀i,i<16->At w (ks i) (fun x=>d i x/\x<w.heap.size) (pV (u i)):=fun i hi=>(f.at_ i hi).cut
 have o:=f.sub;have m:=f.jf;obtain⟨a,l⟩:=yX (w.alloc (.cells #[pV (u 0),pV (u 1),pV (u 2),pV (u 3),pV (u 4),pV (u 5),pV (u 6),pV (u 7),pV (u 8),pV (u 9),pV (u 10),pV (u 11),pV (u 12),pV (u 13),pV (u 14),pV (u 15)] 165))
 have y:a.heap.size=w.heap.size+1:=by rw[l];simp
 have g:yW w a:=by rw[l];exact(Un _ _).alloc (Ug _) _
 have q:=T.below g;have B:∀W,W=a.alloc (.cells (fG 3 ⟨#[]⟩ ⟨#[]⟩ (ae v) cN (fun i=>pV (u i))) 167)->bU W a.heap.size (.branch [] v ks) cN (fun i=>pV (u i)):=fun W b=>rN a W _ _ _ _ b rfl
 have A:yH (∀W,W=a.alloc (.cells (fG 3 ⟨#[]⟩ ⟨#[]⟩ (ae v) cN (fun i=>pV (u i))) 167)->yC 148 #[ptr (w.heap.size+1)] W fun e w'=>e=rV (ptr (w.heap.size+1))/\At w' (Nd.branch [] v ks).mk (fun x=>S x\/w.heap.size<=x) (ptr (w.heap.size+1))/\yW w w'):=fun W b=>by
  have s:yW w W:=by rw[b];exact g.alloc g.size _
  have h:=B W b;rw[y] at h;refine(AO W (.branch [] v ks) (fun x=>S x\/x=w.heap.size+1) (w.heap.size+1) cN (fun i=>pV (u i)) ⟨_,_,fun i x=>d i x/\x<w.heap.size,rfl,.inr rfl,h,fun i x hi p=>⟨.inl (o i x hi p.1),by omega⟩,fun i j x hi n h1 h2=>m i j x hi n h1.1 h2.1,fun i hi=>(k i hi).below s⟩ h r trivial rfl t (by rw[b];exact yG q _)).mono ?_;rintro e w' ⟨h1,h2,h3⟩;have C:Kept (w.heap.size+1) w W:=Kept.iP s _;have c:=(C.trans h3).below (Nat.le_succ _);exact⟨h1,⟨_,_,fun i x=>d i x/\x<w.heap.size,rfl,.inr (Nat.le_succ _),h2,fun i x hi p=>⟨.inl (o i x hi p.1),by omega⟩,fun i j x hi n h1 h2=>m i j x hi n h1.1 h2.1,fun i hi=>(k i hi).below c⟩,c⟩
 clear B r t T f k o m y g q;unfold ptr gU at*;generalize hP:ae v=V at*;go_enter func137,ntmps137
 go_wp2_with fail
 rw[<-l];refine(A.o _ rfl).mono ?_;rintro e w1 ⟨rfl,c⟩;have z:=aa c;clear c;go_wp2
 go_ret
 exact⟨_,rfl,z.o⟩
end Go.Proofs.YtmafnmpeehmndaaGreatDoor
