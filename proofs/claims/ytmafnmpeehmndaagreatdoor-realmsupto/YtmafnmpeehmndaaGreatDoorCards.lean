/-
  DERIVED. GIVEN WITH THE SEED: THE CARDS: each row of YtmafnmpeehmndaaGreatDoorRows.lean that lists a variable, with what it lists TIED to the program's text (the seventh form; the later family's looks); each row that meets fmt, with fmt's text TOLD by the authors' own Lean function (tested against real Go, not proved from fmt's source: count such statements apart). THE CARD IS WHAT COUNTS. Prove the row's statement (the work); the ties are given (YtmafnmpeehmndaaGreatDoorTie.lean); close each card by the builder's one call (the guide's Derived/Test/ToyasCard.lean, 'card_holds'). Laid BY PROGRAM, IN A SANDBOX (cutbox-door.mjs). By AI agents, Wed Nov 11 2026. No macro, syntax, notation, axiom, sorry.
-/
import Derived.Test.YtmafnmpeehmndaaGreatDoorRows
import GoSem.ClaimSeven
namespace Go.Proofs.YtmafnmpeehmndaaGreatDoor
namespace Rows

/-- THE TIED CARD OF 'ledgerkeep.Realms'. -/
def realmsCard : Claim7 := { stood := { row := realmsRow, standIns := [], harness := (true, "224a644dd2bcce14bb91df2b1a64a4fb9b14ebbabf78c5cdc1720eafea544939"), looks := false }, kinds := [], alts := [], laidByText := true, laidKinds := [.data, .data, .data], laidTests := true, laidLooks := .later }
def RealmsCardSaid : Prop := Claim7.holds Tryz.pinned (.plain (OpenSpec.ofChange realmsSpec)) realmsCard

/-- THE SECOND FORM's CARD OF 'ledgerkeep.Realms'. -/
def realmsUptoCard : Claim7 := { stood := { row := realmsUptoRow, standIns := [], harness := (true, "224a644dd2bcce14bb91df2b1a64a4fb9b14ebbabf78c5cdc1720eafea544939"), looks := false }, kinds := [], alts := [], laidByText := true, laidKinds := [.data, .data, .data], laidTests := true, laidLooks := .later }
def RealmsUptoCardSaid : Prop := Claim7.holds Tryz.pinned (.plain (OpenSpec.upto realmsSpec)) realmsUptoCard
end Rows
end Go.Proofs.YtmafnmpeehmndaaGreatDoor
