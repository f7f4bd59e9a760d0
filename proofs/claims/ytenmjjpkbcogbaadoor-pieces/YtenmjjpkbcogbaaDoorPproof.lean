/-
  ledgerkeep.Pieces: the row proved, and its tied card.
-/
import Derived.Test.YtenmjjpkbcogbaaDoorCards
import Derived.Test.YtenmjjpkbcogbaaDoorTie
import Derived.Test.YtenmjjpkbcogbaaDoorPieces
import Derived.ProofKit
import Derived.LaidMore
import Derived.OpenShut
import Derived.Stop.Joined
import Derived.Lib.LaidTab
import Derived.Stop.LaidErr
import Derived.SevenTiedAt
namespace Go.Proofs.YtenmjjpkbcogbaaDoor
open Go.ChangeShapes Go.WideShapes Go.ChangeAt Go.WideMaps Go.WideElems Go.RowKit
open Go.ChangeMaps (setBlock shut_map_nil open_string shut_string keptBut_setBlock frozen?_setBlock heap_setBlock_same)

theorem own : ownKnob Tryd.prog.godebug = none := by kernel_rfl
theorem gTurns : Tryd.prog.globalNamed "ledger/keccak.turns" = some 1 := by kernel_rfl
theorem gMoves : Tryd.prog.globalNamed "ledger/keccak.moves" = some 2 := by kernel_rfl
theorem gWords : Tryd.prog.globalNamed "ledger/keccak.roundWords" = some 0 := by kernel_rfl
theorem tTurns : (Tryd.prog.globals[1]?).map (·.type) = some 50 := by kernel_rfl
theorem tMoves : (Tryd.prog.globals[2]?).map (·.type) = some 84 := by kernel_rfl
theorem tWords : (Tryd.prog.globals[0]?).map (·.type) = some 71 := by kernel_rfl
theorem c50 : Tryd.prog.cellsOf 50 = 25 := by kernel_rfl
theorem c84 : Tryd.prog.cellsOf 84 = 25 := by kernel_rfl
theorem c71 : Tryd.prog.cellsOf 71 = 24 := by kernel_rfl
theorem c49 : Tryd.prog.cellsOf 49 = 1 := by kernel_rfl
theorem c3 : Tryd.prog.cellsOf 3 = 1 := by kernel_rfl

def turnsZ : List Int := turnsT.map Int.ofNat
def movesZ : List Int := movesT.map Int.ofNat
def wordsZ : List Int := wordsT.map Int.ofNat
theorem dTurns : (Rows.laid_ledger_keccak_turns : DataW Unit) = Lib.tabData .u64 turnsZ := rfl
theorem dMoves : (Rows.laid_ledger_keccak_moves : DataW Unit) = Lib.tabData .i64 movesZ := rfl
theorem dWords : (Rows.laid_ledger_keccak_roundWords : DataW Unit) = Lib.tabData .u64 wordsZ := rfl

def laid3 : List (String × DataW Unit) := [("ledger/keccak.turns", Lib.tabData .u64 turnsZ), ("ledger/keccak.moves", Lib.tabData .i64 movesZ), ("ledger/keccak.roundWords", Lib.tabData .u64 wordsZ)]
theorem laid_is : Rows.piecesRow.laid = laid3 := rfl

theorem turns_cell (j : Nat) (h : j < 25) : turnsZ.getD j 0 = ((turnsAt j : Nat) : Int) := by
  have : ∀ j : Fin 25, turnsZ.getD j 0 = ((turnsAt j : Nat) : Int) := by decide
  exact this ⟨j, h⟩
theorem moves_cell (j : Nat) (h : j < 25) : movesZ.getD j 0 = ((movesAt j : Nat) : Int) := by
  have : ∀ j : Fin 25, movesZ.getD j 0 = ((movesAt j : Nat) : Int) := by decide
  exact this ⟨j, h⟩
theorem words_cell (j : Nat) (_h : j < 24) : wordsZ.getD j 0 = ((wordsAt j : Nat) : Int) := by
  unfold wordsZ wordsAt
  rw [List.getD_eq_getElem?_getD, List.getD_eq_getElem?_getD, List.getElem?_map]
  cases wordsT[j]? <;> rfl

/-- what the condition gives the walks: the three tables -/
theorem of_laid {W : World} (h : laidMetH Tryd.prog laid3 W) : Tabs W := by
  rw [MakeChecks.laidMetH_plain _ _ _ (by kernel_rfl)] at h
  have h1 := Lib.tabIs_of_head gTurns tTurns Tryd.underlying50 Tryd.underlying49 c49 c50 h
  have h2 := Lib.tabIs_of_head gMoves tMoves Tryd.underlying84 Tryd.underlying3 c3 c84 h.tail
  have h3 := Lib.tabIs_of_head gWords tWords Tryd.underlying71 Tryd.underlying49 c49 c71 h.tail.tail
  have k1 : ∀ j, j < 25 → W.cell? ⟨1, j, none⟩ = some (.int .u64 (turnsAt j)) := fun j hj => by
    rw [h1.cell gTurns j (show j < turnsZ.length from hj), turns_cell j hj]
  have k2 : ∀ j, j < 25 → W.cell? ⟨2, j, none⟩ = some (.int .i64 (movesAt j)) := fun j hj => by
    rw [h2.cell gMoves j (show j < movesZ.length from hj), moves_cell j hj]
  have k3 : ∀ j, j < 24 → W.cell? ⟨0, j, none⟩ = some (.int .u64 (wordsAt j)) := fun j hj => by
    rw [h3.cell gWords j (show j < wordsZ.length from hj), words_cell j hj]
  exact ⟨World.block_lt_of_cell? _ _ (k2 0 (by decide)), k3, k1, k2⟩

/-- the door's own heap meets the condition -/
theorem door_met (os : Os) (args : Array Value) : laidMetH Tryd.prog laid3 ((World.doorLaid Tryd.prog 24 os).forCall (fun _ _ => 0) ⟨#[], args, []⟩).memory :=
  laidMetH_of_parts3 (fuel := 8) (laidMet_of_run' 8 (by kernel_rfl) (by kernel_rfl)) (by kernel_rfl) (by kernel_rfl)

set_option maxRecDepth 100000 in
theorem lifted (os : Os) (started : os.Started) (H : Type) (enc : TypeId × Value → H) :
    ReturnsInHanded {} Tryd.checked os 4 .any (fun w args => (Rows.piecesSpec.pre enc Tryd.prog Tryd.f4 [] false w args ∧ laidMetH Tryd.prog laid3 w) ∧ sizedMet enc Tryd.prog Tryd.f4 (OpenSpec.ofChange Rows.piecesSpec) false w args)
      (Rows.piecesSpec.post enc Tryd.prog Tryd.f4 false true false false) := by
  refine returnsInHanded_of_change_and (C := Tryd.checked) (X := fun w _ => laidMetH Tryd.prog laid3 w) (fun _ _ _ hh h => h.of_heap hh) own started (by kernel_rfl) Tryd.func4
    (ChangeSpec.witness_shaped (enc := enc) (C := Tryd.checked) (os := os) (X := fun w _ => laidMetH Tryd.prog laid3 w) false (World.doorLaid Tryd.prog 24 os) #[.string ByteArray.empty] 8 rfl (World.shaped_of_RefB (by kernel_rfl) (by kernel_rfl)) (by kernel_rfl) (by kernel_rfl) (by kernel_rfl) (door_met os _)) ?_
  intro W base args ds gs before hval0 hW _ _ hL _
  have hval : ∀ (j : Nat) t v, Tryd.f4.params[j]? = some t → args[j]? = some v → Value.okWide Tryd.prog W .any base t v := hval0
  have hW' := hW
  obtain ⟨p, q, hA0, hV, rfl, hfz, hnd⟩ := hW
  have hA : DataW.TrodAll enc Tryd.prog W 0 (fun _ => true) true Tryd.f4.params.toList args.toList ds p := hA0
  rw [Tryd.params4] at hA hval
  obtain ⟨v0, d0, rfl, rfl, h0⟩ := trodAll_one hA
  obtain ⟨rfl, rfl⟩ := trodVars_none hV
  obtain ⟨s, rfl, rfl, rfl, hs⟩ := open_string Tryd.underlying9 (hval 0 9 v0 rfl rfl) h0
  have T := of_laid hL
  have e1 : Rows.piecesSpec.fn H ([.lit (.string s.data.toList)] ++ []) = { results := [.lit (.bool true)], args := [.lit (.string s.data.toList)] } := by simp [Rows.piecesSpec]
  refine (Pieces_calls s hs W T).mono fun e W' ⟨he, hw⟩ => ?_
  subst he
  refine ⟨_, rfl, _, _, _, [], [], [], hW', ?_, ?_, ?_, hw.frame _, fun h => by cases h⟩
  · rw [e1]; exact trodAll_mk1 (shut_bool Tryd.underlying4 true)
  · rw [e1]; exact trodAll_mk1 (shut_string Tryd.underlying9 hs)
  · rw [e1]; rfl

theorem pieces_holds : Rows.PiecesSaid :=
  OpenClaim.holds_of_wide 4 Tryd.f4 rfl rfl rfl rfl rfl rfl rfl ⟨rfl, rfl, rfl, rfl, rfl⟩ rfl rfl rfl rfl rfl (by kernel_rfl) Tryd.func4 (by kernel_rfl)
    (of_decide_eq_true (by kernel_rfl)) (by unfold Func.isWrapper; first | (rw [if_pos (by decide +kernel)]; kernel_rfl) | (rw [if_neg (by decide +kernel)]; exact ⟨rfl, rfl⟩))
    (fun os started H enc _ => lifted os started H enc)

theorem pieces_card : Rows.PiecesCardSaid :=
  Claim7.holds_tied_plain_at .later [] [.data, .data, .data] true (true, "88a85f138d2d8103fbcc7102312761e694999961d038497ed6d4a1c938bad2ba") false
    pieces_holds (fun _ h => by cases h) (by kernel_rfl) (fun _ h => by cases h) pieces_row_tie rfl ⟨rfl, rfl⟩ (by kernel_rfl) rfl
    (fun f fn hf hfn => by
      obtain rfl : f = 4 := Option.some.inj ((show Tryd.prog.funcNamed "ledger/ledgerkeep.Pieces" = some 4 by kernel_rfl).symm.trans hf) |>.symm
      obtain rfl : fn = Tryd.f4 := (Option.some.inj (Tryd.func4.symm.trans hfn)).symm
      exact ⟨by kernel_rfl, fun j t ht => by
        rw [Tryd.params4] at ht
        have h9 : t = 9 := by
          rcases j with _ | j
          · simpa using ht.symm
          · simp at ht
        subst h9
        exact (show Tryd.prog.wantsStandIn 9 = false by kernel_rfl)⟩)
    (by kernel_rfl)
#print axioms pieces_card
end Go.Proofs.YtenmjjpkbcogbaaDoor
