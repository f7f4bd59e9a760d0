/-
  DERIVED. GIVEN WITH THE SEED: THE CARDS: each row of YtkfdmlcjpomfgaaGreatDoorRows.lean that lists a variable, with what it lists TIED to the program's text (the seventh form; the later family's looks); each row that meets fmt, with fmt's text TOLD by the authors' own Lean function (tested against real Go, not proved from fmt's source: count such statements apart). THE CARD IS WHAT COUNTS. Prove the row's statement (the work); the ties are given (YtkfdmlcjpomfgaaGreatDoorTie.lean); close each card by the builder's one call (the guide's Derived/Test/ToyasCard.lean, 'card_holds'). Laid BY PROGRAM, IN A SANDBOX (cutbox-door.mjs). By AI agents, Wed Nov 11 2026. No macro, syntax, notation, axiom, sorry.
-/
import Derived.Test.YtkfdmlcjpomfgaaGreatDoorRows
import GoSem.ClaimSeven
namespace Go.Proofs.YtkfdmlcjpomfgaaGreatDoor
namespace Rows

/-- THE TIED CARD OF 'ledgerkeep.Books'. -/
def booksCard : Claim7 := { stood := { row := booksRow, standIns := [], harness := (true, "6c6f2c79df49f31535ac61fa62baea73e9b965690712b5b3da7dd8ccd798cee1"), looks := false }, kinds := [], alts := [], laidByText := true, laidKinds := [.data, .data, .data], laidTests := true, laidLooks := .later }
def BooksCardSaid : Prop := Claim7.holds Tryz.pinned (.plain (OpenSpec.ofChange booksSpec)) booksCard

/-- THE TIED CARD OF 'ledgerkeep.Orders'. -/
def ordersCard : Claim7 := { stood := { row := ordersRow, standIns := [], harness := (true, "6c6f2c79df49f31535ac61fa62baea73e9b965690712b5b3da7dd8ccd798cee1"), looks := false }, kinds := [], alts := [], laidByText := true, laidKinds := [.data, .data, .data], laidTests := true, laidLooks := .later }
def OrdersCardSaid : Prop := Claim7.holds Tryz.pinned (.plain (OpenSpec.ofChange ordersSpec)) ordersCard

/-- THE TIED CARD OF 'ledgerkeep.Proven'. -/
def provenCard : Claim7 := { stood := { row := provenRow, standIns := [], harness := (true, "6c6f2c79df49f31535ac61fa62baea73e9b965690712b5b3da7dd8ccd798cee1"), looks := false }, kinds := [], alts := [], laidByText := true, laidKinds := [.data, .data, .data], laidTests := true, laidLooks := .later }
def ProvenCardSaid : Prop := Claim7.holds Tryz.pinned (.plain (OpenSpec.ofChange provenSpec)) provenCard

/-- THE TIED CARD OF 'ledgerkeep.Forged'. -/
def forgedCard : Claim7 := { stood := { row := forgedRow, standIns := [], harness := (true, "6c6f2c79df49f31535ac61fa62baea73e9b965690712b5b3da7dd8ccd798cee1"), looks := false }, kinds := [], alts := [], laidByText := true, laidKinds := [.data, .data, .data], laidTests := true, laidLooks := .later }
def ForgedCardSaid : Prop := Claim7.holds Tryz.pinned (.plain (OpenSpec.ofChange forgedSpec)) forgedCard

/-- THE TIED CARD OF 'ledgerkeep.Realms'. -/
def realmsCard : Claim7 := { stood := { row := realmsRow, standIns := [], harness := (true, "6c6f2c79df49f31535ac61fa62baea73e9b965690712b5b3da7dd8ccd798cee1"), looks := false }, kinds := [], alts := [], laidByText := true, laidKinds := [.data, .data, .data], laidTests := true, laidLooks := .later }
def RealmsCardSaid : Prop := Claim7.holds Tryz.pinned (.plain (OpenSpec.ofChange realmsSpec)) realmsCard

/-- THE TIED CARD OF 'ledgerkeep.Again'. -/
def againCard : Claim7 := { stood := { row := againRow, standIns := [], harness := (true, "6c6f2c79df49f31535ac61fa62baea73e9b965690712b5b3da7dd8ccd798cee1"), looks := false }, kinds := [], alts := [], laidByText := true, laidKinds := [.data, .data, .data], laidTests := true, laidLooks := .later }
def AgainCardSaid : Prop := Claim7.holds Tryz.pinned (.plain (OpenSpec.ofChange againSpec)) againCard

/-- THE TIED CARD OF 'ledgerkeep.Shows'. -/
def showsCard : Claim7 := { stood := { row := showsRow, standIns := [], harness := (true, "6c6f2c79df49f31535ac61fa62baea73e9b965690712b5b3da7dd8ccd798cee1"), looks := false }, kinds := [], alts := [], laidByText := true, laidKinds := [.data, .data, .data], laidTests := true, laidLooks := .later }
def ShowsCardSaid : Prop := Claim7.holds Tryz.pinned (.plain (OpenSpec.ofChange showsSpec)) showsCard

/-- THE SECOND FORM's CARD OF 'ledgerkeep.Books'. -/
def booksUptoCard : Claim7 := { stood := { row := booksUptoRow, standIns := [], harness := (true, "6c6f2c79df49f31535ac61fa62baea73e9b965690712b5b3da7dd8ccd798cee1"), looks := false }, kinds := [], alts := [], laidByText := true, laidKinds := [.data, .data, .data], laidTests := true, laidLooks := .later }
def BooksUptoCardSaid : Prop := Claim7.holds Tryz.pinned (.plain (OpenSpec.upto booksSpec)) booksUptoCard

/-- THE SECOND FORM's CARD OF 'ledgerkeep.Orders'. -/
def ordersUptoCard : Claim7 := { stood := { row := ordersUptoRow, standIns := [], harness := (true, "6c6f2c79df49f31535ac61fa62baea73e9b965690712b5b3da7dd8ccd798cee1"), looks := false }, kinds := [], alts := [], laidByText := true, laidKinds := [.data, .data, .data], laidTests := true, laidLooks := .later }
def OrdersUptoCardSaid : Prop := Claim7.holds Tryz.pinned (.plain (OpenSpec.upto ordersSpec)) ordersUptoCard

/-- THE SECOND FORM's CARD OF 'ledgerkeep.Proven'. -/
def provenUptoCard : Claim7 := { stood := { row := provenUptoRow, standIns := [], harness := (true, "6c6f2c79df49f31535ac61fa62baea73e9b965690712b5b3da7dd8ccd798cee1"), looks := false }, kinds := [], alts := [], laidByText := true, laidKinds := [.data, .data, .data], laidTests := true, laidLooks := .later }
def ProvenUptoCardSaid : Prop := Claim7.holds Tryz.pinned (.plain (OpenSpec.upto provenSpec)) provenUptoCard

/-- THE SECOND FORM's CARD OF 'ledgerkeep.Forged'. -/
def forgedUptoCard : Claim7 := { stood := { row := forgedUptoRow, standIns := [], harness := (true, "6c6f2c79df49f31535ac61fa62baea73e9b965690712b5b3da7dd8ccd798cee1"), looks := false }, kinds := [], alts := [], laidByText := true, laidKinds := [.data, .data, .data], laidTests := true, laidLooks := .later }
def ForgedUptoCardSaid : Prop := Claim7.holds Tryz.pinned (.plain (OpenSpec.upto forgedSpec)) forgedUptoCard

/-- THE SECOND FORM's CARD OF 'ledgerkeep.Realms'. -/
def realmsUptoCard : Claim7 := { stood := { row := realmsUptoRow, standIns := [], harness := (true, "6c6f2c79df49f31535ac61fa62baea73e9b965690712b5b3da7dd8ccd798cee1"), looks := false }, kinds := [], alts := [], laidByText := true, laidKinds := [.data, .data, .data], laidTests := true, laidLooks := .later }
def RealmsUptoCardSaid : Prop := Claim7.holds Tryz.pinned (.plain (OpenSpec.upto realmsSpec)) realmsUptoCard

/-- THE SECOND FORM's CARD OF 'ledgerkeep.Again'. -/
def againUptoCard : Claim7 := { stood := { row := againUptoRow, standIns := [], harness := (true, "6c6f2c79df49f31535ac61fa62baea73e9b965690712b5b3da7dd8ccd798cee1"), looks := false }, kinds := [], alts := [], laidByText := true, laidKinds := [.data, .data, .data], laidTests := true, laidLooks := .later }
def AgainUptoCardSaid : Prop := Claim7.holds Tryz.pinned (.plain (OpenSpec.upto againSpec)) againUptoCard

/-- THE SECOND FORM's CARD OF 'ledgerkeep.Shows'. -/
def showsUptoCard : Claim7 := { stood := { row := showsUptoRow, standIns := [], harness := (true, "6c6f2c79df49f31535ac61fa62baea73e9b965690712b5b3da7dd8ccd798cee1"), looks := false }, kinds := [], alts := [], laidByText := true, laidKinds := [.data, .data, .data], laidTests := true, laidLooks := .later }
def ShowsUptoCardSaid : Prop := Claim7.holds Tryz.pinned (.plain (OpenSpec.upto showsSpec)) showsUptoCard
end Rows
end Go.Proofs.YtkfdmlcjpomfgaaGreatDoor
