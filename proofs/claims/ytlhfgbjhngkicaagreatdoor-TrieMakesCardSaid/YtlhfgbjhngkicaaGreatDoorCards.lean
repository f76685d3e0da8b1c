/-
  DERIVED. GIVEN WITH THE SEED: THE CARDS: each row of YtlhfgbjhngkicaaGreatDoorRows.lean that lists a variable, with what it lists TIED to the program's text (the seventh form; the later family's looks); each row that meets fmt, with fmt's text TOLD by the authors' own Lean function (tested against real Go, not proved from fmt's source: count such statements apart). THE CARD IS WHAT COUNTS. Prove the row's statement (the work); the ties are given (YtlhfgbjhngkicaaGreatDoorTie.lean); close each card by the builder's one call (the guide's Derived/Test/ToyasCard.lean, 'card_holds'). Laid BY PROGRAM, IN A SANDBOX (cutbox-door.mjs). By AI agents, Wed Nov 11 2026. No macro, syntax, notation, axiom, sorry.
-/
import Derived.Test.YtlhfgbjhngkicaaGreatDoorRows
import GoSem.ClaimSeven
namespace Go.Proofs.YtlhfgbjhngkicaaGreatDoor
namespace Rows

/-- THE TIED CARD OF 'ecclesialaw10.TrieMakes'. -/
def trieMakesCard : Claim7 := { stood := { row := trieMakesRow, standIns := [], harness := (true, "84158e036172675e94b3856626453d5722c57fb1b0ab9eaf344f4071b4e6c806"), looks := false }, kinds := [], alts := [], laidByText := true, laidKinds := [.data, .data, .pinned], laidTests := true, laidLooks := .later }
def TrieMakesCardSaid : Prop := Claim7.holds Tryz.pinned (.plain (OpenSpec.ofChange trieMakesSpec)) trieMakesCard

/-- THE TIED CARD OF 'ecclesialaw10.TrieWild'. -/
def trieWildCard : Claim7 := { stood := { row := trieWildRow, standIns := [], harness := (true, "84158e036172675e94b3856626453d5722c57fb1b0ab9eaf344f4071b4e6c806"), looks := false }, kinds := [], alts := [], laidByText := true, laidKinds := [.data, .data, .pinned], laidTests := true, laidLooks := .later }
def TrieWildCardSaid : Prop := Claim7.holds Tryz.pinned (.plain (OpenSpec.ofChange trieWildSpec)) trieWildCard

/-- THE TIED CARD OF 'ecclesialaw10.TrieGets'. -/
def trieGetsCard : Claim7 := { stood := { row := trieGetsRow, standIns := [], harness := (true, "84158e036172675e94b3856626453d5722c57fb1b0ab9eaf344f4071b4e6c806"), looks := false }, kinds := [], alts := [], laidByText := true, laidKinds := [.data, .data, .pinned], laidTests := true, laidLooks := .later }
def TrieGetsCardSaid : Prop := Claim7.holds Tryz.pinned (.plain (OpenSpec.ofChange trieGetsSpec)) trieGetsCard

/-- THE SECOND FORM's CARD OF 'ecclesialaw10.TrieMakes'. -/
def trieMakesUptoCard : Claim7 := { stood := { row := trieMakesUptoRow, standIns := [], harness := (true, "84158e036172675e94b3856626453d5722c57fb1b0ab9eaf344f4071b4e6c806"), looks := false }, kinds := [], alts := [], laidByText := true, laidKinds := [.data, .data, .pinned], laidTests := true, laidLooks := .later }
def TrieMakesUptoCardSaid : Prop := Claim7.holds Tryz.pinned (.plain (OpenSpec.upto trieMakesSpec)) trieMakesUptoCard

/-- THE SECOND FORM's CARD OF 'ecclesialaw10.TrieWild'. -/
def trieWildUptoCard : Claim7 := { stood := { row := trieWildUptoRow, standIns := [], harness := (true, "84158e036172675e94b3856626453d5722c57fb1b0ab9eaf344f4071b4e6c806"), looks := false }, kinds := [], alts := [], laidByText := true, laidKinds := [.data, .data, .pinned], laidTests := true, laidLooks := .later }
def TrieWildUptoCardSaid : Prop := Claim7.holds Tryz.pinned (.plain (OpenSpec.upto trieWildSpec)) trieWildUptoCard

/-- THE SECOND FORM's CARD OF 'ecclesialaw10.TrieGets'. -/
def trieGetsUptoCard : Claim7 := { stood := { row := trieGetsUptoRow, standIns := [], harness := (true, "84158e036172675e94b3856626453d5722c57fb1b0ab9eaf344f4071b4e6c806"), looks := false }, kinds := [], alts := [], laidByText := true, laidKinds := [.data, .data, .pinned], laidTests := true, laidLooks := .later }
def TrieGetsUptoCardSaid : Prop := Claim7.holds Tryz.pinned (.plain (OpenSpec.upto trieGetsSpec)) trieGetsUptoCard
end Rows
end Go.Proofs.YtlhfgbjhngkicaaGreatDoor
