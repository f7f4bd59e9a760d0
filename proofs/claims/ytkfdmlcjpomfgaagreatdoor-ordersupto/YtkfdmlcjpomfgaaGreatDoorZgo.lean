import Derived.Test.YtkfdmlcjpomfgaaGreatDoorZfo
open Go.Proofs.Tryz
open Go.Proofs.Tryz renaming prog→yP
open Go.Value renaming string→sV,pointer→pV,int→iV,slice→lV,bool→bV,tuple→tV,agg→gV
open Go.Ending renaming returned→rV
namespace Go.Proofs.YtkfdmlcjpomfgaaGreatDoor
open Go.RowKit
set_option maxRecDepth 100000
set_option maxHeartbeats 0
set_option linter.all false
open Go.ChangeShapes Go.WideShapes Go.ChangeAt Go.WideMaps Go.WideElems Go.RowKit Go.Deep
theorem Gk:yP.cellsOf 34=6:=by kernel_rfl
theorem PA:yP.cellsOf 3=1:=by kernel_rfl
theorem Pz:yP.cellsOf 9=1:=by kernel_rfl
theorem Nb:laidOutB yP=true:=by kernel_rfl
def qC{H:Type}(p:gE):DataW H:=.agg [.lit (.int .i64 p.k),.lit (.int .i64 p.x),.lit (.int .i64 p.y),.lit (.int .i64 p.z),.lit (.string p.s.data.toList),.lit (.string p.t.data.toList)]
theorem xL{n:Int}(h:(Lit.int .i64 n).wf=true):Rg n:=by
 simp only[Lit.wf,Sh,SD] at h;exact⟨h.1,h.2⟩
theorem LO{H:Type}{c:TypeId×Value->H}{W:World}{n:Nat}{cs:List Value}{x:DataW H×List MemPlace}(h:DataW.trod c yP W 0 (fun _=>true) true n 34 cs=some x):
 ∃p:gE,cs=[iV .i64 p.k,iV .i64 p.x,iV .i64 p.y,iV .i64 p.z,sV p.s,sV p.t]/\x.1=qC p/\Rg p.x/\Rg p.y/\Rg p.z:=by
 obtain⟨f,k,_,e,b,d,a⟩:=DataW.trod_struct underlying34 h;rw[Gk] at b;match f,d,cs,b with
 | [y0,y1,y2,y3,y4,y5],_,[v0,v1,v2,v3,v4,v5],_=>
  have g0:=a 0 _ rfl;have g1:=a 1 _ rfl;have g2:=a 2 _ rfl;have g3:=a 3 _ rfl;have g4:=a 4 _ rfl;have g5:=a 5 _ rfl;simp[PA,Pz] at g0 g1 g2 g3 g4 g5;obtain⟨k0,e0,x0,_⟩:=DataW.trod_int underlying3 g0;obtain⟨k1,e1,x1,w1⟩:=DataW.trod_int underlying3 g1;obtain⟨k2,e2,x2,w2⟩:=DataW.trod_int underlying3 g2;obtain⟨k3,e3,x3,w3⟩:=DataW.trod_int underlying3 g3;obtain⟨s4,e4,x4,_⟩:=DataW.trod_string underlying9 g4;obtain⟨s5,e5,x5,_⟩:=DataW.trod_string underlying9 g5;simp only[Sv,and_true] at e0 e1 e2 e3 e4 e5;subst e0 e1 e2 e3 e4 e5 x0 x1 x2 x3 x4 x5;refine⟨⟨k0,k1,k2,k3,s4,s5⟩,rfl,?_,xL w1,xL w2,xL w3⟩;rw[e];rfl
theorem PQ{H:Type}(p:gE):Rows.uptoBulk (qC p:DataW H)=kw p:=by
 obtain⟨k,x,y,z,s,t⟩:=p;unfold qC kw;simp only[Rows.uptoBulk,Rows.uptoBulkAll,Array.length_toList,ByteArray.size];omega
theorem PO{H:Type}(a:List gE):Rows.uptoBulkAll (a.map (qC:gE->DataW H))=(a.map kw).sum:=by
 induction a with
 |nil=>rfl
 |cons p a ih=>simp only[List.map_cons,Rows.uptoBulkAll,List.sum_cons,ih,PQ]
theorem LM{H:Type}{E:TypeId×Value->H}{W:World}{n:Nat}{v0:Value}{x:DataW H×List MemPlace}(h:DataW.trod E yP W 0 (fun _=>true) true n 22 [v0]=some x)
 (w:Rows.uptoBulk x.1<=1048576):
 ∃a cap ops,v0=lV a (List.length ops) cap/\pP W a ops:=by
 rcases open_slice underlying22 h with⟨e,_⟩|⟨a,c,cap,m,k,D,R,e,_,T,U,B,P,G⟩
 ·simp only[Sv,and_true] at e;exact⟨none,0,[],e,⟨by simp[fK],fun i p b=>by simp at b,fun i p b=>by simp at b⟩⟩
 ·simp only[Sv,and_true] at e;simp only[RJ] at B;subst B;haveI:Inhabited gE:=⟨⟨0,0,0,0,⟨#[]⟩,⟨#[]⟩⟩⟩
  have C:∀i,i<m->∃p:gE,(∃d,W.cells? 0 (a.add (i*6)) 6=some d/\d=[iV .i64 p.k,iV .i64 p.x,iV .i64 p.y,iV .i64 p.z,sV p.s,sV p.t])/\D i=qC p/\Rg p.x/\Rg p.y/\Rg p.z:=fun i hi=>by
   obtain⟨d,h1,h2⟩:=G i hi;rw[Gk] at h1;obtain⟨p,e1,e2,r⟩:=LO h2;exact⟨p,⟨d,h1,e1⟩,e2,r⟩
  obtain⟨f,l⟩:=choose_lt C;have M:(List.range c).map D=((List.range c).map f).map qC:=by
   rw[List.map_map];exact Sq fun i hi=>(l i (by have:=Sg.1 hi;omega)).2.1
  have O:fK ((List.range c).map f) ((List.range c).map f).length<=1048576:=by
   rw[P] at w;simp only[Rows.uptoBulk] at w;rw[M,PO] at w;unfold fK;rw[SG];omega
  have A:∀(i:Nat) (p:gE),((List.range c).map f)[i]? =some p->i<c/\p=f i:=fun i p b=>by
   rw[Rp] at b;by_cases hi:i<c
   ·rw[List.getElem?_range hi] at b;exact⟨hi,by simpa using b.symm⟩
   ·rw[RP (by simpa using hi)] at b;simp at b
  refine⟨some a,m,(List.range c).map f,by rw[Rr,List.length_range];exact e,⟨O,fun i p b=>?_,fun i p b=>?_⟩⟩
  ·obtain⟨hi,rfl⟩:=A i p b;obtain⟨⟨d,h1,rfl⟩,_⟩:=l i (by omega);obtain⟨_,_,J⟩:=World.cells?_some h1;obtain⟨g,o,Q⟩:=a;have N:Q=none:=by
    obtain⟨⟨S,h10,rfl⟩,_⟩:=l 0 (by omega);obtain⟨_,_,K⟩:=World.cells?_some h10;have q0:=K 0 (by omega);have:=World.cell?_spot (v:=iV .i64 (f 0).k) (by simpa using q0);simpa [Addr.add] using this
   subst N;have F:∀j,((⟨g,o,none⟩:Addr).add (i*6)).add j=⟨g,o+i*6+j,none⟩:=fun j=>by rw[Addr.add_lit,Addr.add_lit]
   have q:∀j,j<6->W.cell? ⟨g,o+i*6+j,none⟩=[Value.int .i64 (f i).k,iV .i64 (f i).x,iV .i64 (f i).y,iV .i64 (f i).z,sV (f i).s,sV (f i).t][j]? :=fun j L=>by
    have:=J j L;rw[F j] at this;exact this
   have c0:=q 0 (by omega);have c1:=q 1 (by omega);have c2:=q 2 (by omega);have c3:=q 3 (by omega);have c4:=q 4 (by omega);have c5:=q 5 (by omega);have I:g<W.heap.size:=Rj W _ (u:=iV .i64 (f i).k) (show W.cell? ⟨g,o+i*6+0,none⟩=_ from c0);exact⟨g,o,rfl,I,⟨c0,c1,c2,c3,c4,c5⟩⟩
  ·obtain⟨hi,rfl⟩:=A i p b;exact(l i (by omega)).2.2
open Go.ChangeShapes Go.WideShapes Go.ChangeAt Go.WideMaps Go.WideElems Go.RowKit
open Go.ChangeMaps (setBlock shut_map_nil open_string shut_string keptBut_setBlock frozen?_setBlock heap_setBlock_same)
theorem LC:ownKnob yP.godebug=none:=by kernel_rfl
theorem Fb:yP.globalNamed "ledger/keccak.turns" =some 1:=by kernel_rfl
theorem Fc:yP.globalNamed "ledger/keccak.moves" =some 2:=by kernel_rfl
theorem Fa:yP.globalNamed "ledger/keccak.roundWords" =some 0:=by kernel_rfl
theorem Jf:(yP.globals[1]?).map (·.type)=some 146:=by kernel_rfl
theorem Jg:(yP.globals[2]?).map (·.type)=some 199:=by kernel_rfl
theorem Je:(yP.globals[0]?).map (·.type)=some 184:=by kernel_rfl
theorem PF:yP.cellsOf 146=25:=by kernel_rfl
theorem PD:yP.cellsOf 199=25:=by kernel_rfl
theorem PE:yP.cellsOf 184=24:=by kernel_rfl
theorem Gm:yP.cellsOf 145=1:=by kernel_rfl
theorem PC:yP.cellsOf 3=1:=by kernel_rfl
def ue:List Int:=AI.map Int.ofNat
def vh:List Int:=Dz.map Int.ofNat
def tR:List Int:=wJ.map Int.ofNat
def yH:List (String×DataW Unit):=[("ledger/keccak.turns",Lib.tabData .u64 ue),("ledger/keccak.moves",Lib.tabData .i64 vh),("ledger/keccak.roundWords",Lib.tabData .u64 tR)]
theorem Iw(j:Nat)(h:j<25):ue.getD j 0=((mJ j:Nat):Int):=by
 have:∀j:Fin 25,ue.getD j 0=((mJ j:Nat):Int):=by decide
 exact this ⟨j,h⟩
theorem MB(j:Nat)(h:j<25):vh.getD j 0=((lA j:Nat):Int):=by
 have:∀j:Fin 25,vh.getD j 0=((lA j:Nat):Int):=by decide
 exact this ⟨j,h⟩
theorem Hn(j:Nat)(_h:j<24):tR.getD j 0=((pT j:Nat):Int):=by
 unfold tR pT;rw[Q3,Q3,Rp];cases wJ[j]?<;>rfl
theorem LS{W}(h:laidMetH yP yH W):az W:=by
 rw[MakeChecks.laidMetH_plain _ _ _ (by kernel_rfl)] at h;have h1:=Lib.tabIs_of_head Fb Jf underlying146 underlying145 Gm PF h;have h2:=Lib.tabIs_of_head Fc Jg underlying199 underlying3 PC PD h.tail;have h3:=Lib.tabIs_of_head Fa Je underlying184 underlying145 Gm PE h.tail.tail;have k1:∀j,j<25->W.cell? ⟨1,j,none⟩=some (iV .u64 (mJ j)):=fun j a=>by
  rw[h1.cell Fb j (show j<ue.length from a),Iw j a]
 have k2:∀j,j<25->W.cell? ⟨2,j,none⟩=some (iV .i64 (lA j)):=fun j a=>by
  rw[h2.cell Fc j (show j<vh.length from a),MB j a]
 have k3:∀j,j<24->W.cell? ⟨0,j,none⟩=some (iV .u64 (pT j)):=fun j a=>by
  rw[h3.cell Fa j (show j<tR.length from a),Hn j a]
 exact⟨Rj _ _ (k2 0 (by decide)),k3,k1,k2⟩
theorem OV(b:Os)(a:Array Value):laidMetH yP yH ((World.doorLaid yP 24 b).forCall (fun _ _=>0) ⟨#[],a,[]⟩).memory:=
 laidMetH_of_parts3 (fuel:=8) (laidMet_of_run' 8 (by kernel_rfl) (by kernel_rfl)) (by kernel_rfl) (by kernel_rfl)
open Go.ChangeShapes Go.WideShapes Go.ChangeAt Go.WideMaps Go.WideElems Go.RowKit
theorem orders_witness(a:Os)(H:Type)(c:TypeId×Value->H):
 ∃(w:World) (b:Tape) (i:Input),w.os=a/\(w.forCall b i).Shaped yP/\i.vars=[]/\Input.okWide yP (w.forCall b i) .any w.heap.size 4 i/\
  (Rows.OpenSpec.upto Rows.ordersSpec).preRow c yP f4 Rows.ordersUptoRow.domain false yH (w.forCall b i).memory i.args/\({}:Assume).holds yP (lone (Frame.enter yP 4 i.args .normal) [] (w.forCall b i)):=by
 have d:Input.okWideB yP ((World.doorLaid yP 24 a).forCall (fun _ _=>0) ⟨#[],#[lV none 0 0],[]⟩) 4 ⟨#[],#[lV none 0 0],[]⟩=true:=by kernel_rfl
 have f:DataW.whole c yP ((World.doorLaid yP 24 a).forCall (fun _ _=>0) ⟨#[],#[lV none 0 0],[]⟩).memory f4.params.toList Rows.ordersSpec.vars false #[Value.slice none 0 0].toList 8=some ([.nil],[],[]):=by kernel_rfl
 refine⟨World.doorLaid yP 24 a,fun _ _=>0,⟨#[],#[lV none 0 0],[]⟩,rfl,World.shaped_of_RefB (by kernel_rfl) (by kernel_rfl),(Input.okWide_of_okWideB (base:=0) d).1,(Input.okWide_of_okWideB d).2,?_,?_⟩
 ·exact OpenSpec.preRow_of_cond 8 f (by kernel_rfl) (fun k e=>by cases e;kernel_rfl) (by kernel_rfl) (OV a _)
 ·simp only[Assume.holds];exact⟨by simp,by simp,fun _=>Modest.zero,by simp,by simp⟩
theorem orders_lifted(g:Os)(L:g.Started)(H:Type)(c:TypeId×Value->H)(F:Stop.Interp):
 ReturnsInHanded {} checked g 4 .any ((Rows.OpenSpec.upto Rows.ordersSpec).preRow c yP f4 Rows.ordersUptoRow.domain false Rows.ordersUptoRow.laid) (((Rows.OpenSpec.upto Rows.ordersSpec).at F).post c yP f4 false true false false):=by
 refine returnsInHanded_of_row (C:=checked) (s:=Rows.OpenSpec.upto Rows.ordersSpec) LC L (by kernel_rfl) func4 (orders_witness g H c) ?_;intro W base args m N M I k _ z _ r _ _;have l:=I;have f:=k;obtain⟨p,q,o,u,rfl,O,P⟩:=k;have i:=o;rw[params4] at i l;obtain⟨v0,d0,rfl,rfl,h0⟩:=trodAll_one i;obtain⟨rfl,rfl⟩:=trodVars_none u;have n:=h0;obtain⟨fuel,A⟩:=h0;simp only[Rz] at f;have B:∀x∈p,x.block<W.heap.size:=fun x J=>by simpa using f.lt x J
 have w:∀(d:World),yW W d->DataW.Trod c yP d 0 (fun b=>decide (b<W.heap.size)) true 22 v0 d0 p:=
  fun d D=>Below.trod Nb (by kernel_rfl) (of_decide_eq_true (by kernel_rfl)) n D B
 have y:Rows.uptoBulk d0<=1048576:=by
  have h:=of_decide_eq_true (z _ rfl);simp only[Rz,Rows.uptoBulkAll] at h;omega
 obtain⟨a0,l0,c0,rfl⟩:=okWide_slice underlying22 (l 0 22 v0 rfl rfl);obtain⟨a,cap,K,G,E⟩:=LM (v0:=.slice a0 l0 c0) (x:=(d0,p)) A y;have T:=LS r;have e1:Rows.ordersSpec.fn H ([d0]++[])= {results:=[.lit (.bool true)],args:=[d0]}:=by simp[Rows.ordersSpec]
 injection G with h1 h2 h3;subst h1 h2 h3;refine(orders_calls _ _ K W E T).mono fun e d ⟨he,hw⟩=>?_
 subst he;refine⟨_,rfl,_,_,_,[],p,[],f,?_,?_,?_,hw.frame _,fun h=>by cases h⟩
 ·rw[show((Rows.OpenSpec.upto Rows.ordersSpec).at F).fn H ([d0]++[])=_ from e1];exact trodAll_mk1 (shut_bool underlying4 true)
 ·rw[show((Rows.OpenSpec.upto Rows.ordersSpec).at F).fn H ([d0]++[])=_ from e1];exact trodAll_mk1 (w _ hw)
 ·rw[show((Rows.OpenSpec.upto Rows.ordersSpec).at F).fn H ([d0]++[])=_ from e1];rfl
end Go.Proofs.YtkfdmlcjpomfgaaGreatDoor
