/-
  DERIVED. GIVEN WITH THE SEED: THE CARDS: each row of YtiimkkahmpmhdaaGreatDoorRows.lean that lists a variable, with what it lists TIED to the program's text (the seventh form; the later family's looks); each row that meets fmt, with fmt's text TOLD by the authors' own Lean function (tested against real Go, not proved from fmt's source: count such statements apart). THE CARD IS WHAT COUNTS. Prove the row's statement (the work); the ties are given (YtiimkkahmpmhdaaGreatDoorTie.lean); close each card by the builder's one call (the guide's Derived/Test/ToyasCard.lean, 'card_holds'). Laid BY PROGRAM, IN A SANDBOX (cutbox-door.mjs). By AI agents, Wed Nov 11 2026. No macro, syntax, notation, axiom, sorry.
-/
import Derived.Test.YtiimkkahmpmhdaaGreatDoorRows
import GoSem.ClaimSeven
namespace Go.Proofs.YtiimkkahmpmhdaaGreatDoor
namespace Rows

/-- THE TIED CARD OF 'ledgerkeep.Proven'. -/
def provenCard : Claim7 := { stood := { row := provenRow, standIns := [], harness := (true, "7d9f8e8fde4e27278ebb12381c07b157c68e106c9330e549cb901f00111f3018"), looks := false }, kinds := [], alts := [], laidByText := true, laidKinds := [.data, .data, .data], laidTests := true, laidLooks := .later }
def ProvenCardSaid : Prop := Claim7.holds Tryz.pinned (.plain (OpenSpec.ofChange provenSpec)) provenCard

/-- THE TIED CARD OF 'ledgerkeep.Forged'. -/
def forgedCard : Claim7 := { stood := { row := forgedRow, standIns := [], harness := (true, "7d9f8e8fde4e27278ebb12381c07b157c68e106c9330e549cb901f00111f3018"), looks := false }, kinds := [], alts := [], laidByText := true, laidKinds := [.data, .data, .data], laidTests := true, laidLooks := .later }
def ForgedCardSaid : Prop := Claim7.holds Tryz.pinned (.plain (OpenSpec.ofChange forgedSpec)) forgedCard

/-- THE SECOND FORM's CARD OF 'ledgerkeep.Proven'. -/
def provenUptoCard : Claim7 := { stood := { row := provenUptoRow, standIns := [], harness := (true, "7d9f8e8fde4e27278ebb12381c07b157c68e106c9330e549cb901f00111f3018"), looks := false }, kinds := [], alts := [], laidByText := true, laidKinds := [.data, .data, .data], laidTests := true, laidLooks := .later }
def ProvenUptoCardSaid : Prop := Claim7.holds Tryz.pinned (.plain (OpenSpec.upto provenSpec)) provenUptoCard

/-- THE SECOND FORM's CARD OF 'ledgerkeep.Forged'. -/
def forgedUptoCard : Claim7 := { stood := { row := forgedUptoRow, standIns := [], harness := (true, "7d9f8e8fde4e27278ebb12381c07b157c68e106c9330e549cb901f00111f3018"), looks := false }, kinds := [], alts := [], laidByText := true, laidKinds := [.data, .data, .data], laidTests := true, laidLooks := .later }
def ForgedUptoCardSaid : Prop := Claim7.holds Tryz.pinned (.plain (OpenSpec.upto forgedSpec)) forgedUptoCard
end Rows
end Go.Proofs.YtiimkkahmpmhdaaGreatDoor
