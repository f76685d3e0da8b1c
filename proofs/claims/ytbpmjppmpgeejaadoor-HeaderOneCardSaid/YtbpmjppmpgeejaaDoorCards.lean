/-
  DERIVED. GIVEN WITH THE SEED: THE CARDS: each row of YtbpmjppmpgeejaaDoorRows.lean that lists a variable, with what it lists TIED to the program's text (the seventh form; the later family's looks); each row that meets fmt, with fmt's text TOLD by the authors' own Lean function (tested against real Go, not proved from fmt's source: count such statements apart). THE CARD IS WHAT COUNTS. Prove the row's statement (the work); the ties are given (YtbpmjppmpgeejaaDoorTie.lean); close each card by the builder's one call (the guide's Derived/Test/ToyasCard.lean, 'card_holds'). Laid BY PROGRAM, IN A SANDBOX (cutbox-door.mjs). By AI agents, Wed Nov 11 2026. No macro, syntax, notation, axiom, sorry.
-/
import Derived.Test.YtbpmjppmpgeejaaDoorRows
import GoSem.ClaimSeven
namespace Go.Proofs.YtbpmjppmpgeejaaDoor
namespace Rows

/-- THE TIED CARD OF 'ecclesialaw17.HeaderSums'. -/
def headerSumsCard : Claim7 := { stood := { row := headerSumsRow, standIns := [], harness := (true, "ef33464a602ddedadaff6e9a1f938ea458642111a6f49bc3ef6d4031540aca5c"), looks := false }, kinds := [], alts := [], laidByText := true, laidKinds := [.data, .data, .pinned], laidTests := true, laidLooks := .later }
def HeaderSumsCardSaid : Prop := Claim7.holds Tryd.pinned (.plain (OpenSpec.ofChange headerSumsSpec)) headerSumsCard

/-- THE TIED CARD OF 'ecclesialaw17.HeaderOne'. -/
def headerOneCard : Claim7 := { stood := { row := headerOneRow, standIns := [], harness := (true, "ef33464a602ddedadaff6e9a1f938ea458642111a6f49bc3ef6d4031540aca5c"), looks := false }, kinds := [], alts := [], laidByText := true, laidKinds := [.data, .pinned], laidTests := true, laidLooks := .later }
def HeaderOneCardSaid : Prop := Claim7.holds Tryd.pinned (.plain (OpenSpec.ofChange headerOneSpec)) headerOneCard

/-- THE SECOND FORM's CARD OF 'ecclesialaw17.HeaderSums'. -/
def headerSumsUptoCard : Claim7 := { stood := { row := headerSumsUptoRow, standIns := [], harness := (true, "ef33464a602ddedadaff6e9a1f938ea458642111a6f49bc3ef6d4031540aca5c"), looks := false }, kinds := [], alts := [], laidByText := true, laidKinds := [.data, .data, .pinned], laidTests := true, laidLooks := .later }
def HeaderSumsUptoCardSaid : Prop := Claim7.holds Tryd.pinned (.plain (OpenSpec.upto headerSumsSpec)) headerSumsUptoCard

/-- THE SECOND FORM's CARD OF 'ecclesialaw17.HeaderOne'. -/
def headerOneUptoCard : Claim7 := { stood := { row := headerOneUptoRow, standIns := [], harness := (true, "ef33464a602ddedadaff6e9a1f938ea458642111a6f49bc3ef6d4031540aca5c"), looks := false }, kinds := [], alts := [], laidByText := true, laidKinds := [.data, .pinned], laidTests := true, laidLooks := .later }
def HeaderOneUptoCardSaid : Prop := Claim7.holds Tryd.pinned (.plain (OpenSpec.upto headerOneSpec)) headerOneUptoCard
end Rows
end Go.Proofs.YtbpmjppmpgeejaaDoor
