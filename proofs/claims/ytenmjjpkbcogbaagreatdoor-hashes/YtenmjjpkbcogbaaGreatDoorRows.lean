/-
  NARROWER THAN 'FOR EVERY INPUT', by the rows' own cells (each row's printed sentence says how): Hashes: laid · Codes: laid · Stores: laid · Maps: laid · Proofs: laid · Worlds: laid · Shown: laid · All: laid · Books: laid.
  DERIVED. THE GIVEN ROWS OF THIS SEAT. 9 by the template 'for every input the law returns true; each argument reads behind the call as it read before'; 0 by the template 'total and deterministic' (their statements: YtenmjjpkbcogbaaGreatDoorTotals.lean).
  GIVEN WITH THE SEED: the statements are not yours to turn. If you find one false, say at which input.
  Laid BY PROGRAM, IN A SANDBOX (cutbox-rows.mjs): the forced cells as the released guide's own fill.sh prints them over the translation 33286653731847ed… (all of the seat's roots in one cut). By AI agents, Wed Nov 11 2026. No macro, syntax, notation, axiom, sorry.
-/
import Derived.Test.YtenmjjpkbcogbaaGreatDoorChecked
import GoSem.Claim
import GoSem.ClaimJoined
import GoSem.ClaimMapViews
import Derived.JoinedTies
import Derived.KernelRfl
namespace Go.Proofs.YtenmjjpkbcogbaaGreatDoor
/- THE CELL 'sum', in the pinned program and in every row, IS THE sha256 OF THE DUMP (.gsa) THAT YtenmjjpkbcogbaaGreatDoorProg.lean LOADS. Nothing in Lean hashes anything: it is a label: what it is worth is what the hold of that sum in a sandbox is worth. -/
noncomputable def Tryz.pinned : Pinned := { name := "ytenmjjpkbcogbaagreatdoor", sum := "33286653731847ed2bb0d84537d8e1a095e0a8011699604bcb854c264c716695", checked := Tryz.checked }
namespace Rows
def none {H : Type} : Left H := { results := [], args := [] }

/- WHAT THE LISTED PACKAGE-LEVEL VARIABLES READ AS WHEN THE CALL BEGINS. Each datum BY PROGRAM (the guide's laid-datum.mjs) off the statement by which the dump's own 'gosem.cut.vars' lays the variable. In a bare row this is a premise. The card (YtenmjjpkbcogbaaGreatDoorCards.lean) ties it to the program's text. -/
def laid_ledger_keccak_turns {H : Type} : DataW H := .agg [.lit (.int .u64 0), .lit (.int .u64 1), .lit (.int .u64 62), .lit (.int .u64 28), .lit (.int .u64 27), .lit (.int .u64 36), .lit (.int .u64 44), .lit (.int .u64 6), .lit (.int .u64 55), .lit (.int .u64 20), .lit (.int .u64 3), .lit (.int .u64 10), .lit (.int .u64 43), .lit (.int .u64 25), .lit (.int .u64 39), .lit (.int .u64 41), .lit (.int .u64 45), .lit (.int .u64 15), .lit (.int .u64 21), .lit (.int .u64 8), .lit (.int .u64 18), .lit (.int .u64 2), .lit (.int .u64 61), .lit (.int .u64 56), .lit (.int .u64 14)]
def laid_ledger_keccak_moves {H : Type} : DataW H := .agg [.lit (.int .i64 0), .lit (.int .i64 10), .lit (.int .i64 20), .lit (.int .i64 5), .lit (.int .i64 15), .lit (.int .i64 16), .lit (.int .i64 1), .lit (.int .i64 11), .lit (.int .i64 21), .lit (.int .i64 6), .lit (.int .i64 7), .lit (.int .i64 17), .lit (.int .i64 2), .lit (.int .i64 12), .lit (.int .i64 22), .lit (.int .i64 23), .lit (.int .i64 8), .lit (.int .i64 18), .lit (.int .i64 3), .lit (.int .i64 13), .lit (.int .i64 14), .lit (.int .i64 24), .lit (.int .i64 9), .lit (.int .i64 19), .lit (.int .i64 4)]
def laid_ledger_keccak_roundWords {H : Type} : DataW H := .agg [.lit (.int .u64 1), .lit (.int .u64 32898), .lit (.int .u64 9223372036854808714), .lit (.int .u64 9223372039002292224), .lit (.int .u64 32907), .lit (.int .u64 2147483649), .lit (.int .u64 9223372039002292353), .lit (.int .u64 9223372036854808585), .lit (.int .u64 138), .lit (.int .u64 136), .lit (.int .u64 2147516425), .lit (.int .u64 2147483658), .lit (.int .u64 2147516555), .lit (.int .u64 9223372036854775947), .lit (.int .u64 9223372036854808713), .lit (.int .u64 9223372036854808579), .lit (.int .u64 9223372036854808578), .lit (.int .u64 9223372036854775936), .lit (.int .u64 32778), .lit (.int .u64 9223372039002259466), .lit (.int .u64 9223372039002292353), .lit (.int .u64 9223372036854808704), .lit (.int .u64 2147483649), .lit (.int .u64 9223372039002292232)]

/-- 'ledgerlaw.Hashes': WHATEVER THE INPUT: true; the input reads as it did. -/
def hashesSpec : ChangeSpec := { name := "hashes", fn := fun _ => fun
  | [d] => { results := [.lit (.bool true)], args := [d] }
  | _ => none }
def hashesRow : OpenClaim := { program := "ytenmjjpkbcogbaagreatdoor", sum := "33286653731847ed2bb0d84537d8e1a095e0a8011699604bcb854c264c716695", func := "ledger/ledgerlaw.Hashes", spec := "hashes", recurses := true, named := ["ledger/keccak.roundWords", "ledger/keccak.moves", "ledger/keccak.turns"], apart := false, laid := [("ledger/keccak.turns", laid_ledger_keccak_turns), ("ledger/keccak.moves", laid_ledger_keccak_moves), ("ledger/keccak.roundWords", laid_ledger_keccak_roundWords)] }
def HashesSaid : Prop := hashesRow.holds Tryz.pinned (OpenSpec.ofChange hashesSpec)

/-- ITS FALSE NEIGHBOUR: 'it returns false'. Refute it at one input. -/
def hashesWrong : ChangeSpec := { name := "hashes", fn := fun _ => fun
  | [d] => { results := [.lit (.bool false)], args := [d] }
  | _ => none }
def HashesWrongFalsely : Prop := hashesRow.holds Tryz.pinned (OpenSpec.ofChange hashesWrong)

/-- 'ledgerlaw.Codes': WHATEVER THE INPUT: true; the input reads as it did. -/
def codesSpec : ChangeSpec := { name := "codes", fn := fun _ => fun
  | [d] => { results := [.lit (.bool true)], args := [d] }
  | _ => none }
def codesRow : OpenClaim := { program := "ytenmjjpkbcogbaagreatdoor", sum := "33286653731847ed2bb0d84537d8e1a095e0a8011699604bcb854c264c716695", func := "ledger/ledgerlaw.Codes", spec := "codes", recurses := true, named := ["ledger/keccak.roundWords", "ledger/keccak.moves", "ledger/keccak.turns"], apart := false, laid := [("ledger/keccak.turns", laid_ledger_keccak_turns), ("ledger/keccak.moves", laid_ledger_keccak_moves), ("ledger/keccak.roundWords", laid_ledger_keccak_roundWords)] }
def CodesSaid : Prop := codesRow.holds Tryz.pinned (OpenSpec.ofChange codesSpec)

/-- ITS FALSE NEIGHBOUR: 'it returns false'. Refute it at one input. -/
def codesWrong : ChangeSpec := { name := "codes", fn := fun _ => fun
  | [d] => { results := [.lit (.bool false)], args := [d] }
  | _ => none }
def CodesWrongFalsely : Prop := codesRow.holds Tryz.pinned (OpenSpec.ofChange codesWrong)

/-- 'ledgerlaw.Stores': WHATEVER THE INPUT: true; the input reads as it did. -/
def storesSpec : ChangeSpec := { name := "stores", fn := fun _ => fun
  | [d] => { results := [.lit (.bool true)], args := [d] }
  | _ => none }
def storesRow : OpenClaim := { program := "ytenmjjpkbcogbaagreatdoor", sum := "33286653731847ed2bb0d84537d8e1a095e0a8011699604bcb854c264c716695", func := "ledger/ledgerlaw.Stores", spec := "stores", recurses := true, named := ["ledger/keccak.roundWords", "ledger/keccak.moves", "ledger/keccak.turns"], apart := false, laid := [("ledger/keccak.turns", laid_ledger_keccak_turns), ("ledger/keccak.moves", laid_ledger_keccak_moves), ("ledger/keccak.roundWords", laid_ledger_keccak_roundWords)] }
def StoresSaid : Prop := storesRow.holds Tryz.pinned (OpenSpec.ofChange storesSpec)

/-- ITS FALSE NEIGHBOUR: 'it returns false'. Refute it at one input. -/
def storesWrong : ChangeSpec := { name := "stores", fn := fun _ => fun
  | [d] => { results := [.lit (.bool false)], args := [d] }
  | _ => none }
def StoresWrongFalsely : Prop := storesRow.holds Tryz.pinned (OpenSpec.ofChange storesWrong)

/-- 'ledgerlaw.Maps': WHATEVER THE INPUT: true; the input reads as it did. -/
def mapsSpec : ChangeSpec := { name := "maps", fn := fun _ => fun
  | [d] => { results := [.lit (.bool true)], args := [d] }
  | _ => none }
def mapsRow : OpenClaim := { program := "ytenmjjpkbcogbaagreatdoor", sum := "33286653731847ed2bb0d84537d8e1a095e0a8011699604bcb854c264c716695", func := "ledger/ledgerlaw.Maps", spec := "maps", recurses := true, named := ["ledger/keccak.roundWords", "ledger/keccak.moves", "ledger/keccak.turns"], apart := false, laid := [("ledger/keccak.turns", laid_ledger_keccak_turns), ("ledger/keccak.moves", laid_ledger_keccak_moves), ("ledger/keccak.roundWords", laid_ledger_keccak_roundWords)] }
def MapsSaid : Prop := mapsRow.holds Tryz.pinned (OpenSpec.ofChange mapsSpec)

/-- ITS FALSE NEIGHBOUR: 'it returns false'. Refute it at one input. -/
def mapsWrong : ChangeSpec := { name := "maps", fn := fun _ => fun
  | [d] => { results := [.lit (.bool false)], args := [d] }
  | _ => none }
def MapsWrongFalsely : Prop := mapsRow.holds Tryz.pinned (OpenSpec.ofChange mapsWrong)

/-- 'ledgerlaw.Proofs': WHATEVER THE INPUT: true; the input reads as it did. -/
def proofsSpec : ChangeSpec := { name := "proofs", fn := fun _ => fun
  | [d] => { results := [.lit (.bool true)], args := [d] }
  | _ => none }
def proofsRow : OpenClaim := { program := "ytenmjjpkbcogbaagreatdoor", sum := "33286653731847ed2bb0d84537d8e1a095e0a8011699604bcb854c264c716695", func := "ledger/ledgerlaw.Proofs", spec := "proofs", recurses := true, named := ["ledger/keccak.roundWords", "ledger/keccak.moves", "ledger/keccak.turns"], apart := false, laid := [("ledger/keccak.turns", laid_ledger_keccak_turns), ("ledger/keccak.moves", laid_ledger_keccak_moves), ("ledger/keccak.roundWords", laid_ledger_keccak_roundWords)] }
def ProofsSaid : Prop := proofsRow.holds Tryz.pinned (OpenSpec.ofChange proofsSpec)

/-- ITS FALSE NEIGHBOUR: 'it returns false'. Refute it at one input. -/
def proofsWrong : ChangeSpec := { name := "proofs", fn := fun _ => fun
  | [d] => { results := [.lit (.bool false)], args := [d] }
  | _ => none }
def ProofsWrongFalsely : Prop := proofsRow.holds Tryz.pinned (OpenSpec.ofChange proofsWrong)

/-- 'ledgerlaw.Worlds': WHATEVER THE INPUT: true; the input reads as it did. -/
def worldsSpec : ChangeSpec := { name := "worlds", fn := fun _ => fun
  | [d] => { results := [.lit (.bool true)], args := [d] }
  | _ => none }
def worldsRow : OpenClaim := { program := "ytenmjjpkbcogbaagreatdoor", sum := "33286653731847ed2bb0d84537d8e1a095e0a8011699604bcb854c264c716695", func := "ledger/ledgerlaw.Worlds", spec := "worlds", recurses := true, named := ["ledger/keccak.roundWords", "ledger/keccak.moves", "ledger/keccak.turns"], apart := false, laid := [("ledger/keccak.turns", laid_ledger_keccak_turns), ("ledger/keccak.moves", laid_ledger_keccak_moves), ("ledger/keccak.roundWords", laid_ledger_keccak_roundWords)] }
def WorldsSaid : Prop := worldsRow.holds Tryz.pinned (OpenSpec.ofChange worldsSpec)

/-- ITS FALSE NEIGHBOUR: 'it returns false'. Refute it at one input. -/
def worldsWrong : ChangeSpec := { name := "worlds", fn := fun _ => fun
  | [d] => { results := [.lit (.bool false)], args := [d] }
  | _ => none }
def WorldsWrongFalsely : Prop := worldsRow.holds Tryz.pinned (OpenSpec.ofChange worldsWrong)

/-- 'ledgerlaw.Shown': WHATEVER THE INPUT: true; the input reads as it did. -/
def shownSpec : ChangeSpec := { name := "shown", fn := fun _ => fun
  | [d] => { results := [.lit (.bool true)], args := [d] }
  | _ => none }
def shownRow : OpenClaim := { program := "ytenmjjpkbcogbaagreatdoor", sum := "33286653731847ed2bb0d84537d8e1a095e0a8011699604bcb854c264c716695", func := "ledger/ledgerlaw.Shown", spec := "shown", recurses := true, named := ["ledger/keccak.roundWords", "ledger/keccak.moves", "ledger/keccak.turns"], apart := false, laid := [("ledger/keccak.turns", laid_ledger_keccak_turns), ("ledger/keccak.moves", laid_ledger_keccak_moves), ("ledger/keccak.roundWords", laid_ledger_keccak_roundWords)] }
def ShownSaid : Prop := shownRow.holds Tryz.pinned (OpenSpec.ofChange shownSpec)

/-- ITS FALSE NEIGHBOUR: 'it returns false'. Refute it at one input. -/
def shownWrong : ChangeSpec := { name := "shown", fn := fun _ => fun
  | [d] => { results := [.lit (.bool false)], args := [d] }
  | _ => none }
def ShownWrongFalsely : Prop := shownRow.holds Tryz.pinned (OpenSpec.ofChange shownWrong)

/-- 'ledgerlaw.All': WHATEVER THE INPUT: true; the input reads as it did. -/
def allSpec : ChangeSpec := { name := "all", fn := fun _ => fun
  | [d] => { results := [.lit (.bool true)], args := [d] }
  | _ => none }
def allRow : OpenClaim := { program := "ytenmjjpkbcogbaagreatdoor", sum := "33286653731847ed2bb0d84537d8e1a095e0a8011699604bcb854c264c716695", func := "ledger/ledgerlaw.All", spec := "all", recurses := true, named := ["ledger/keccak.roundWords", "ledger/keccak.moves", "ledger/keccak.turns"], apart := false, laid := [("ledger/keccak.turns", laid_ledger_keccak_turns), ("ledger/keccak.moves", laid_ledger_keccak_moves), ("ledger/keccak.roundWords", laid_ledger_keccak_roundWords)] }
def AllSaid : Prop := allRow.holds Tryz.pinned (OpenSpec.ofChange allSpec)

/-- ITS FALSE NEIGHBOUR: 'it returns false'. Refute it at one input. -/
def allWrong : ChangeSpec := { name := "all", fn := fun _ => fun
  | [d] => { results := [.lit (.bool false)], args := [d] }
  | _ => none }
def AllWrongFalsely : Prop := allRow.holds Tryz.pinned (OpenSpec.ofChange allWrong)

/-- 'ledgerkeep.Books': WHATEVER THE INPUT: true; the input reads as it did. -/
def booksSpec : ChangeSpec := { name := "books", fn := fun _ => fun
  | [d] => { results := [.lit (.bool true)], args := [d] }
  | _ => none }
def booksRow : OpenClaim := { program := "ytenmjjpkbcogbaagreatdoor", sum := "33286653731847ed2bb0d84537d8e1a095e0a8011699604bcb854c264c716695", func := "ledger/ledgerkeep.Books", spec := "books", recurses := true, named := ["ledger/keccak.roundWords", "ledger/keccak.moves", "ledger/keccak.turns"], apart := false, laid := [("ledger/keccak.turns", laid_ledger_keccak_turns), ("ledger/keccak.moves", laid_ledger_keccak_moves), ("ledger/keccak.roundWords", laid_ledger_keccak_roundWords)] }
def BooksSaid : Prop := booksRow.holds Tryz.pinned (OpenSpec.ofChange booksSpec)

/-- ITS FALSE NEIGHBOUR: 'it returns false'. Refute it at one input. -/
def booksWrong : ChangeSpec := { name := "books", fn := fun _ => fun
  | [d] => { results := [.lit (.bool false)], args := [d] }
  | _ => none }
def BooksWrongFalsely : Prop := booksRow.holds Tryz.pinned (OpenSpec.ofChange booksWrong)

/- THE SECOND FORM. 'bulk': how many values and letters a reading holds, each counted each time it is reached (what is shared counts as often as it is met; a slice's spare places count too). A statement '..UptoSaid' is the law's where the arguments, and the package variables that the reading takes, are together of bulk at most 1048576: NARROWER than '..Said'. Prove '..Said' where nothing that the law and all that it calls make is longer than what came in: it says more and counts as full. Else prove '..UptoSaid'. A law counts once. -/
mutual
def uptoBulk {H : Type} : DataW H → Nat
  | .lit (.string bytes) => bytes.length + 1
  | .lit _ => 1
  | .nil => 1
  | .ptr d => uptoBulk d + 1
  | .slice elems spare => uptoBulkAll elems + uptoBulkAll spare + 1
  | .agg parts => uptoBulkAll parts + 1
  | .iface _ d => uptoBulk d + 1
  | .map entries => uptoBulkEntries entries + 1
  | .held _ => 1
def uptoBulkAll {H : Type} : List (DataW H) → Nat
  | [] => 0
  | d :: r => uptoBulk d + uptoBulkAll r
def uptoBulkEntries {H : Type} : List (Lit × DataW H) → Nat
  | [] => 0
  | x :: r => uptoBulkEntry x + uptoBulkEntries r
def uptoBulkEntry {H : Type} : Lit × DataW H → Nat
  | (.string bytes, d) => bytes.length + uptoBulk d + 1
  | (_, d) => uptoBulk d + 1
 end
def uptoSmall : (H : Type) → List (DataW H) → Bool := fun _ ds => decide (uptoBulkAll ds ≤ 1048576)
def OpenSpec.upto (s : _root_.Go.ChangeSpec) : _root_.Go.OpenSpec := { _root_.Go.OpenSpec.ofChange s with cond := some uptoSmall }

/-- 'ledgerlaw.Hashes', WHERE WHAT IT READS IS OF BULK AT MOST 1048576: true; the input reads as it did. -/
def hashesUptoRow : OpenClaim := { program := "ytenmjjpkbcogbaagreatdoor", sum := "33286653731847ed2bb0d84537d8e1a095e0a8011699604bcb854c264c716695", func := "ledger/ledgerlaw.Hashes", spec := "hashes", recurses := true, named := ["ledger/keccak.roundWords", "ledger/keccak.moves", "ledger/keccak.turns"], apart := false, laid := [("ledger/keccak.turns", laid_ledger_keccak_turns), ("ledger/keccak.moves", laid_ledger_keccak_moves), ("ledger/keccak.roundWords", laid_ledger_keccak_roundWords)], narrowed := true }
def HashesUptoSaid : Prop := hashesUptoRow.holds Tryz.pinned (OpenSpec.upto hashesSpec)

/-- 'ledgerlaw.Codes', WHERE WHAT IT READS IS OF BULK AT MOST 1048576: true; the input reads as it did. -/
def codesUptoRow : OpenClaim := { program := "ytenmjjpkbcogbaagreatdoor", sum := "33286653731847ed2bb0d84537d8e1a095e0a8011699604bcb854c264c716695", func := "ledger/ledgerlaw.Codes", spec := "codes", recurses := true, named := ["ledger/keccak.roundWords", "ledger/keccak.moves", "ledger/keccak.turns"], apart := false, laid := [("ledger/keccak.turns", laid_ledger_keccak_turns), ("ledger/keccak.moves", laid_ledger_keccak_moves), ("ledger/keccak.roundWords", laid_ledger_keccak_roundWords)], narrowed := true }
def CodesUptoSaid : Prop := codesUptoRow.holds Tryz.pinned (OpenSpec.upto codesSpec)

/-- 'ledgerlaw.Stores', WHERE WHAT IT READS IS OF BULK AT MOST 1048576: true; the input reads as it did. -/
def storesUptoRow : OpenClaim := { program := "ytenmjjpkbcogbaagreatdoor", sum := "33286653731847ed2bb0d84537d8e1a095e0a8011699604bcb854c264c716695", func := "ledger/ledgerlaw.Stores", spec := "stores", recurses := true, named := ["ledger/keccak.roundWords", "ledger/keccak.moves", "ledger/keccak.turns"], apart := false, laid := [("ledger/keccak.turns", laid_ledger_keccak_turns), ("ledger/keccak.moves", laid_ledger_keccak_moves), ("ledger/keccak.roundWords", laid_ledger_keccak_roundWords)], narrowed := true }
def StoresUptoSaid : Prop := storesUptoRow.holds Tryz.pinned (OpenSpec.upto storesSpec)

/-- 'ledgerlaw.Maps', WHERE WHAT IT READS IS OF BULK AT MOST 1048576: true; the input reads as it did. -/
def mapsUptoRow : OpenClaim := { program := "ytenmjjpkbcogbaagreatdoor", sum := "33286653731847ed2bb0d84537d8e1a095e0a8011699604bcb854c264c716695", func := "ledger/ledgerlaw.Maps", spec := "maps", recurses := true, named := ["ledger/keccak.roundWords", "ledger/keccak.moves", "ledger/keccak.turns"], apart := false, laid := [("ledger/keccak.turns", laid_ledger_keccak_turns), ("ledger/keccak.moves", laid_ledger_keccak_moves), ("ledger/keccak.roundWords", laid_ledger_keccak_roundWords)], narrowed := true }
def MapsUptoSaid : Prop := mapsUptoRow.holds Tryz.pinned (OpenSpec.upto mapsSpec)

/-- 'ledgerlaw.Proofs', WHERE WHAT IT READS IS OF BULK AT MOST 1048576: true; the input reads as it did. -/
def proofsUptoRow : OpenClaim := { program := "ytenmjjpkbcogbaagreatdoor", sum := "33286653731847ed2bb0d84537d8e1a095e0a8011699604bcb854c264c716695", func := "ledger/ledgerlaw.Proofs", spec := "proofs", recurses := true, named := ["ledger/keccak.roundWords", "ledger/keccak.moves", "ledger/keccak.turns"], apart := false, laid := [("ledger/keccak.turns", laid_ledger_keccak_turns), ("ledger/keccak.moves", laid_ledger_keccak_moves), ("ledger/keccak.roundWords", laid_ledger_keccak_roundWords)], narrowed := true }
def ProofsUptoSaid : Prop := proofsUptoRow.holds Tryz.pinned (OpenSpec.upto proofsSpec)

/-- 'ledgerlaw.Worlds', WHERE WHAT IT READS IS OF BULK AT MOST 1048576: true; the input reads as it did. -/
def worldsUptoRow : OpenClaim := { program := "ytenmjjpkbcogbaagreatdoor", sum := "33286653731847ed2bb0d84537d8e1a095e0a8011699604bcb854c264c716695", func := "ledger/ledgerlaw.Worlds", spec := "worlds", recurses := true, named := ["ledger/keccak.roundWords", "ledger/keccak.moves", "ledger/keccak.turns"], apart := false, laid := [("ledger/keccak.turns", laid_ledger_keccak_turns), ("ledger/keccak.moves", laid_ledger_keccak_moves), ("ledger/keccak.roundWords", laid_ledger_keccak_roundWords)], narrowed := true }
def WorldsUptoSaid : Prop := worldsUptoRow.holds Tryz.pinned (OpenSpec.upto worldsSpec)

/-- 'ledgerlaw.Shown', WHERE WHAT IT READS IS OF BULK AT MOST 1048576: true; the input reads as it did. -/
def shownUptoRow : OpenClaim := { program := "ytenmjjpkbcogbaagreatdoor", sum := "33286653731847ed2bb0d84537d8e1a095e0a8011699604bcb854c264c716695", func := "ledger/ledgerlaw.Shown", spec := "shown", recurses := true, named := ["ledger/keccak.roundWords", "ledger/keccak.moves", "ledger/keccak.turns"], apart := false, laid := [("ledger/keccak.turns", laid_ledger_keccak_turns), ("ledger/keccak.moves", laid_ledger_keccak_moves), ("ledger/keccak.roundWords", laid_ledger_keccak_roundWords)], narrowed := true }
def ShownUptoSaid : Prop := shownUptoRow.holds Tryz.pinned (OpenSpec.upto shownSpec)

/-- 'ledgerlaw.All', WHERE WHAT IT READS IS OF BULK AT MOST 1048576: true; the input reads as it did. -/
def allUptoRow : OpenClaim := { program := "ytenmjjpkbcogbaagreatdoor", sum := "33286653731847ed2bb0d84537d8e1a095e0a8011699604bcb854c264c716695", func := "ledger/ledgerlaw.All", spec := "all", recurses := true, named := ["ledger/keccak.roundWords", "ledger/keccak.moves", "ledger/keccak.turns"], apart := false, laid := [("ledger/keccak.turns", laid_ledger_keccak_turns), ("ledger/keccak.moves", laid_ledger_keccak_moves), ("ledger/keccak.roundWords", laid_ledger_keccak_roundWords)], narrowed := true }
def AllUptoSaid : Prop := allUptoRow.holds Tryz.pinned (OpenSpec.upto allSpec)

/-- 'ledgerkeep.Books', WHERE WHAT IT READS IS OF BULK AT MOST 1048576: true; the input reads as it did. -/
def booksUptoRow : OpenClaim := { program := "ytenmjjpkbcogbaagreatdoor", sum := "33286653731847ed2bb0d84537d8e1a095e0a8011699604bcb854c264c716695", func := "ledger/ledgerkeep.Books", spec := "books", recurses := true, named := ["ledger/keccak.roundWords", "ledger/keccak.moves", "ledger/keccak.turns"], apart := false, laid := [("ledger/keccak.turns", laid_ledger_keccak_turns), ("ledger/keccak.moves", laid_ledger_keccak_moves), ("ledger/keccak.roundWords", laid_ledger_keccak_roundWords)], narrowed := true }
def BooksUptoSaid : Prop := booksUptoRow.holds Tryz.pinned (OpenSpec.upto booksSpec)

end Rows
end Go.Proofs.YtenmjjpkbcogbaaGreatDoor
