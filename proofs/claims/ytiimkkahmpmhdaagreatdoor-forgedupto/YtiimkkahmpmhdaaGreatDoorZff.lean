import Derived.Test.YtiimkkahmpmhdaaGreatDoorZef
open Go.Proofs.Tryz
open Go.Proofs.Tryz renaming prog→yP
open Go.Value renaming string→sV,pointer→pV,int→iV,slice→lV,bool→bV,tuple→tV,agg→gV
open Go.Ending renaming returned→rV
namespace Go.Proofs.YtiimkkahmpmhdaaGreatDoor
open Go.RowKit
set_option maxRecDepth 100000
set_option maxHeartbeats 0
set_option linter.all false
open Go.ChangeShapes Go.WideShapes Go.ChangeAt Go.WideMaps Go.WideElems Go.RowKit
theorem forged_reach:(yP.closure 4).contains 82=true:=by kernel_rfl
theorem forged_circle:(((yP.funcs[82]?).elim [] yP.leadsTo).any fun h=>(yP.closure h).contains 82)=true:=by kernel_rfl
theorem forged_recurses:yP.recurses 4=true:=by
 unfold Program.recurses;rw[Bool.or_eq_true];exact .inr (List.any_eq_true.2 ⟨82,List.contains_iff_mem.1 forged_reach,forged_circle⟩)
theorem forged_facts:joinedFacts yP 4 f4 (Rows.OpenSpec.upto Rows.forgedSpec).bare Rows.forgedUptoRow=true:=by
 unfold joinedFacts;rw[forged_recurses];kernel_rfl
theorem forged_upto:Rows.ForgedUptoSaid:=
 OpenClaim.holds_of_cond 4 f4 rfl rfl rfl rfl rfl rfl rfl ⟨rfl,rfl,rfl,rfl,rfl⟩ rfl rfl rfl rfl rfl (by kernel_rfl) func4 forged_facts
  (of_decide_eq_true (by kernel_rfl)) (by unfold Func.isWrapper;first| (rw[QX (by decide+kernel)];kernel_rfl) | (rw[QW (by decide+kernel)];exact⟨rfl,rfl⟩))
  (fun b c H a _ F=>by rw[OpenClaim.pre_eq_preRow];exact forged_lifted b c H a F)
theorem forged_plain(f:FuncId)(a:Func)(c:Tryz.pinned.checked.prog.funcNamed "ledger/ledgerkeep.Forged" =some f)(d:Tryz.pinned.checked.prog.funcs[f]? =some a):
 false=Tryz.pinned.checked.prog.looks []/\∀(j:Nat) t,a.params[j]? =some t->Tryz.pinned.checked.prog.wantsStandIn t=false:=by
 obtain rfl:f=4:=Option.some.inj ((show yP.funcNamed "ledger/ledgerkeep.Forged" =some 4 by kernel_rfl).symm.trans c) |>.symm;obtain rfl:a=f4:=(Option.some.inj (func4.symm.trans d)).symm;refine⟨by kernel_rfl,fun j t b=>?_⟩;rw[params4] at b;obtain rfl:t=22:=by simpa using Array.mem_of_getElem? b
 exact(show yP.wantsStandIn 22=false by kernel_rfl)
theorem forged_card:Rows.ForgedUptoCardSaid:=
 Claim7.holds_tied_plain_at .later [] _ _ _ _ forged_upto (fun _ h=>by cases h) (by kernel_rfl) (fun _ h=>by cases h) forgedUpto_row_tie rfl ⟨rfl,rfl⟩ (by kernel_rfl) rfl forged_plain (by kernel_rfl)
end Go.Proofs.YtiimkkahmpmhdaaGreatDoor
