/-
  DERIVED. GIVEN WITH THE SEED: THE CARDS: each row of YtdgoaaaagpeaaaaDoorRows.lean that lists a variable, with what it lists TIED to the program's text (the seventh form; the later family's looks); each row that meets fmt, with fmt's text TOLD by the authors' own Lean function (tested against real Go, not proved from fmt's source: count such statements apart). THE CARD IS WHAT COUNTS. Prove the row's statement (the work); the ties are given (YtdgoaaaagpeaaaaDoorTie.lean); close each card by the builder's one call (the guide's Derived/Test/ToyasCard.lean, 'card_holds'). Laid BY PROGRAM, IN A SANDBOX (cutbox-door.mjs). By AI agents, Wed Nov 11 2026. No macro, syntax, notation, axiom, sorry.
-/
import Derived.Test.YtdgoaaaagpeaaaaDoorRows
import GoSem.ClaimSeven
namespace Go.Proofs.YtdgoaaaagpeaaaaDoor
namespace Rows

/-- THE TIED CARD OF 'ecclesialaw08.RlpWrites'. -/
def rlpWritesCard : Claim7 := { stood := { row := rlpWritesRow, standIns := [], harness := (true, "edcc83a4d3a6c92e112ab5bd448d2e4d52a1ef4e3cf69af6c5b67f0eb7d0e7f2"), looks := false }, kinds := [], alts := [], laidByText := true, laidKinds := [.data, .pinned], laidTests := true, laidLooks := .later }
def RlpWritesCardSaid : Prop := Claim7.holds Tryd.pinned (.plain (OpenSpec.ofChange rlpWritesSpec)) rlpWritesCard

/-- THE TIED CARD OF 'ecclesialaw08.RlpReads'. -/
def rlpReadsCard : Claim7 := { stood := { row := rlpReadsRow, standIns := [], harness := (true, "edcc83a4d3a6c92e112ab5bd448d2e4d52a1ef4e3cf69af6c5b67f0eb7d0e7f2"), looks := false }, kinds := [], alts := [], laidByText := true, laidKinds := [.data, .pinned], laidTests := true, laidLooks := .later }
def RlpReadsCardSaid : Prop := Claim7.holds Tryd.pinned (.plain (OpenSpec.ofChange rlpReadsSpec)) rlpReadsCard

/-- THE TIED CARD OF 'ecclesialaw08.RlpNumbers'. -/
def rlpNumbersCard : Claim7 := { stood := { row := rlpNumbersRow, standIns := [], harness := (true, "edcc83a4d3a6c92e112ab5bd448d2e4d52a1ef4e3cf69af6c5b67f0eb7d0e7f2"), looks := false }, kinds := [], alts := [], laidByText := true, laidKinds := [.data, .pinned], laidTests := true, laidLooks := .later }
def RlpNumbersCardSaid : Prop := Claim7.holds Tryd.pinned (.plain (OpenSpec.ofChange rlpNumbersSpec)) rlpNumbersCard

/-- THE TIED CARD OF 'ecclesialaw08.RlpBack'. -/
def rlpBackCard : Claim7 := { stood := { row := rlpBackRow, standIns := [], harness := (true, "edcc83a4d3a6c92e112ab5bd448d2e4d52a1ef4e3cf69af6c5b67f0eb7d0e7f2"), looks := false }, kinds := [], alts := [], laidByText := true, laidKinds := [.data, .pinned], laidTests := true, laidLooks := .later }
def RlpBackCardSaid : Prop := Claim7.holds Tryd.pinned (.plain (OpenSpec.ofChange rlpBackSpec)) rlpBackCard

/-- THE TIED CARD OF 'ecclesialaw08.RlpOne'. -/
def rlpOneCard : Claim7 := { stood := { row := rlpOneRow, standIns := [], harness := (true, "edcc83a4d3a6c92e112ab5bd448d2e4d52a1ef4e3cf69af6c5b67f0eb7d0e7f2"), looks := false }, kinds := [], alts := [], laidByText := true, laidKinds := [.data, .pinned], laidTests := true, laidLooks := .later }
def RlpOneCardSaid : Prop := Claim7.holds Tryd.pinned (.plain (OpenSpec.ofChange rlpOneSpec)) rlpOneCard

/-- THE TIED CARD OF 'ecclesialaw08.RlpLists'. -/
def rlpListsCard : Claim7 := { stood := { row := rlpListsRow, standIns := [], harness := (true, "edcc83a4d3a6c92e112ab5bd448d2e4d52a1ef4e3cf69af6c5b67f0eb7d0e7f2"), looks := false }, kinds := [], alts := [], laidByText := true, laidKinds := [.data, .pinned], laidTests := true, laidLooks := .later }
def RlpListsCardSaid : Prop := Claim7.holds Tryd.pinned (.plain (OpenSpec.ofChange rlpListsSpec)) rlpListsCard

/-- THE TIED CARD OF 'ecclesialaw08.RlpHeads'. -/
def rlpHeadsCard : Claim7 := { stood := { row := rlpHeadsRow, standIns := [], harness := (true, "edcc83a4d3a6c92e112ab5bd448d2e4d52a1ef4e3cf69af6c5b67f0eb7d0e7f2"), looks := false }, kinds := [], alts := [], laidByText := true, laidKinds := [.data, .pinned], laidTests := true, laidLooks := .later }
def RlpHeadsCardSaid : Prop := Claim7.holds Tryd.pinned (.plain (OpenSpec.ofChange rlpHeadsSpec)) rlpHeadsCard

/-- THE SECOND FORM's CARD OF 'ecclesialaw08.RlpWrites'. -/
def rlpWritesUptoCard : Claim7 := { stood := { row := rlpWritesUptoRow, standIns := [], harness := (true, "edcc83a4d3a6c92e112ab5bd448d2e4d52a1ef4e3cf69af6c5b67f0eb7d0e7f2"), looks := false }, kinds := [], alts := [], laidByText := true, laidKinds := [.data, .pinned], laidTests := true, laidLooks := .later }
def RlpWritesUptoCardSaid : Prop := Claim7.holds Tryd.pinned (.plain (OpenSpec.upto rlpWritesSpec)) rlpWritesUptoCard

/-- THE SECOND FORM's CARD OF 'ecclesialaw08.RlpReads'. -/
def rlpReadsUptoCard : Claim7 := { stood := { row := rlpReadsUptoRow, standIns := [], harness := (true, "edcc83a4d3a6c92e112ab5bd448d2e4d52a1ef4e3cf69af6c5b67f0eb7d0e7f2"), looks := false }, kinds := [], alts := [], laidByText := true, laidKinds := [.data, .pinned], laidTests := true, laidLooks := .later }
def RlpReadsUptoCardSaid : Prop := Claim7.holds Tryd.pinned (.plain (OpenSpec.upto rlpReadsSpec)) rlpReadsUptoCard

/-- THE SECOND FORM's CARD OF 'ecclesialaw08.RlpNumbers'. -/
def rlpNumbersUptoCard : Claim7 := { stood := { row := rlpNumbersUptoRow, standIns := [], harness := (true, "edcc83a4d3a6c92e112ab5bd448d2e4d52a1ef4e3cf69af6c5b67f0eb7d0e7f2"), looks := false }, kinds := [], alts := [], laidByText := true, laidKinds := [.data, .pinned], laidTests := true, laidLooks := .later }
def RlpNumbersUptoCardSaid : Prop := Claim7.holds Tryd.pinned (.plain (OpenSpec.upto rlpNumbersSpec)) rlpNumbersUptoCard

/-- THE SECOND FORM's CARD OF 'ecclesialaw08.RlpBack'. -/
def rlpBackUptoCard : Claim7 := { stood := { row := rlpBackUptoRow, standIns := [], harness := (true, "edcc83a4d3a6c92e112ab5bd448d2e4d52a1ef4e3cf69af6c5b67f0eb7d0e7f2"), looks := false }, kinds := [], alts := [], laidByText := true, laidKinds := [.data, .pinned], laidTests := true, laidLooks := .later }
def RlpBackUptoCardSaid : Prop := Claim7.holds Tryd.pinned (.plain (OpenSpec.upto rlpBackSpec)) rlpBackUptoCard

/-- THE SECOND FORM's CARD OF 'ecclesialaw08.RlpOne'. -/
def rlpOneUptoCard : Claim7 := { stood := { row := rlpOneUptoRow, standIns := [], harness := (true, "edcc83a4d3a6c92e112ab5bd448d2e4d52a1ef4e3cf69af6c5b67f0eb7d0e7f2"), looks := false }, kinds := [], alts := [], laidByText := true, laidKinds := [.data, .pinned], laidTests := true, laidLooks := .later }
def RlpOneUptoCardSaid : Prop := Claim7.holds Tryd.pinned (.plain (OpenSpec.upto rlpOneSpec)) rlpOneUptoCard

/-- THE SECOND FORM's CARD OF 'ecclesialaw08.RlpLists'. -/
def rlpListsUptoCard : Claim7 := { stood := { row := rlpListsUptoRow, standIns := [], harness := (true, "edcc83a4d3a6c92e112ab5bd448d2e4d52a1ef4e3cf69af6c5b67f0eb7d0e7f2"), looks := false }, kinds := [], alts := [], laidByText := true, laidKinds := [.data, .pinned], laidTests := true, laidLooks := .later }
def RlpListsUptoCardSaid : Prop := Claim7.holds Tryd.pinned (.plain (OpenSpec.upto rlpListsSpec)) rlpListsUptoCard

/-- THE SECOND FORM's CARD OF 'ecclesialaw08.RlpHeads'. -/
def rlpHeadsUptoCard : Claim7 := { stood := { row := rlpHeadsUptoRow, standIns := [], harness := (true, "edcc83a4d3a6c92e112ab5bd448d2e4d52a1ef4e3cf69af6c5b67f0eb7d0e7f2"), looks := false }, kinds := [], alts := [], laidByText := true, laidKinds := [.data, .pinned], laidTests := true, laidLooks := .later }
def RlpHeadsUptoCardSaid : Prop := Claim7.holds Tryd.pinned (.plain (OpenSpec.upto rlpHeadsSpec)) rlpHeadsUptoCard
end Rows
end Go.Proofs.YtdgoaaaagpeaaaaDoor
