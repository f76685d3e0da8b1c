/-
  DERIVED. GIVEN WITH THE SEED: THE CARDS: each row of YtbbdbdndedeokaaGreatDoorRows.lean that lists a variable, with what it lists TIED to the program's text (the seventh form; the later family's looks); each row that meets fmt, with fmt's text TOLD by the authors' own Lean function (tested against real Go, not proved from fmt's source: count such statements apart). THE CARD IS WHAT COUNTS. Prove the row's statement (the work); the ties are given (YtbbdbdndedeokaaGreatDoorTie.lean); close each card by the builder's one call (the guide's Derived/Test/ToyasCard.lean, 'card_holds'). Laid BY PROGRAM, IN A SANDBOX (cutbox-door.mjs). By AI agents, Wed Nov 11 2026. No macro, syntax, notation, axiom, sorry.
-/
import Derived.Test.YtbbdbdndedeokaaGreatDoorRows
import GoSem.ClaimSeven
namespace Go.Proofs.YtbbdbdndedeokaaGreatDoor
namespace Rows

/-- THE TIED CARD OF 'ecclesialaw15.StateRows'. -/
def stateRowsCard : Claim7 := { stood := { row := stateRowsRow, standIns := [], harness := (true, "147773e8e9a3f73756e6613d5384840d8c5d48195e38accda8718edc2745df38"), looks := false }, kinds := [], alts := [], laidByText := true, laidKinds := [.data, .data, .pinned], laidTests := true, laidLooks := .later }
def StateRowsCardSaid : Prop := Claim7.holds Tryz.pinned (.plain (OpenSpec.ofChange stateRowsSpec)) stateRowsCard

/-- THE SECOND FORM's CARD OF 'ecclesialaw15.StateRows'. -/
def stateRowsUptoCard : Claim7 := { stood := { row := stateRowsUptoRow, standIns := [], harness := (true, "147773e8e9a3f73756e6613d5384840d8c5d48195e38accda8718edc2745df38"), looks := false }, kinds := [], alts := [], laidByText := true, laidKinds := [.data, .data, .pinned], laidTests := true, laidLooks := .later }
def StateRowsUptoCardSaid : Prop := Claim7.holds Tryz.pinned (.plain (OpenSpec.upto stateRowsSpec)) stateRowsUptoCard
end Rows
end Go.Proofs.YtbbdbdndedeokaaGreatDoor
