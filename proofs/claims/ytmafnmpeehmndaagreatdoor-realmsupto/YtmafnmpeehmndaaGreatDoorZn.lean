import Derived.Test.YtmafnmpeehmndaaGreatDoorZm
open Go.Proofs.Tryz
open Go.Proofs.Tryz renaming prog→yP
open Go.Value renaming string→sV,pointer→pV,int→iV,slice→lV,bool→bV,tuple→tV,agg→gV
open Go.Ending renaming returned→rV
namespace Go.Proofs.YtmafnmpeehmndaaGreatDoor
open Go.RowKit
set_option maxRecDepth 100000
set_option maxHeartbeats 0
set_option linter.all false
open Go.ChangeShapes Go.WideShapes Go.ChangeAt Go.WideMaps Go.WideElems Go.RowKit
def Nm:(yP.closure 3).contains 81=true:=by kernel_rfl
def Nq:(((yP.funcs[81]?).elim [] yP.leadsTo).any fun h=>(yP.closure h).contains 81)=true:=by kernel_rfl
def Nl:yP.recurses 3=true:=by
 unfold Program.recurses;rw[Bool.or_eq_true];exact .inr (List.any_eq_true.2 ⟨81,List.contains_iff_mem.1 Nm,Nq⟩)
def Np:joinedFacts yP 3 f3 (Rows.OpenSpec.upto Rows.realmsSpec).bare Rows.realmsUptoRow=true:=by
 unfold joinedFacts;rw[Nl];kernel_rfl
def Nk:Rows.RealmsUptoSaid:=
 OpenClaim.holds_of_cond 3 f3 rfl rfl rfl rfl rfl rfl rfl ⟨rfl,rfl,rfl,rfl,rfl⟩ rfl rfl rfl rfl rfl (by kernel_rfl) func3 Np
  (of_decide_eq_true (by kernel_rfl)) (by unfold Func.isWrapper;first| (rw[Uj (by decide+kernel)];kernel_rfl) | (rw[Ui (by decide+kernel)];exact⟨rfl,rfl⟩))
  (fun b c H a _ F=>by rw[OpenClaim.pre_eq_preRow];exact No b c H a F)
def Nn(f:FuncId)(a:Func)(c:Tryz.pinned.checked.prog.funcNamed "ledger/ledgerkeep.Realms" =some f)(d:Tryz.pinned.checked.prog.funcs[f]? =some a):
 false=Tryz.pinned.checked.prog.looks []/\∀(j:Nat) t,a.params[j]? =some t->Tryz.pinned.checked.prog.wantsStandIn t=false:=by
 obtain rfl:f=3:=Option.some.inj ((show yP.funcNamed "ledger/ledgerkeep.Realms" =some 3 by kernel_rfl).symm.trans c) |>.symm;obtain rfl:a=f3:=(Option.some.inj (func3.symm.trans d)).symm;refine⟨by kernel_rfl,fun j t b=>?_⟩;rw[params3] at b;obtain rfl:t=22:=by simpa using Array.mem_of_getElem? b
 exact(show yP.wantsStandIn 22=false by kernel_rfl)
theorem realms_card:Rows.RealmsUptoCardSaid:=
 Claim7.holds_tied_plain_at .later [] _ _ _ _ Nk (fun _ h=>by cases h) (by kernel_rfl) (fun _ h=>by cases h) realmsUpto_row_tie rfl ⟨rfl,rfl⟩ (by kernel_rfl) rfl Nn (by kernel_rfl)
end Go.Proofs.YtmafnmpeehmndaaGreatDoor
