/-
  DERIVED. GIVEN WITH THE SEED: THE CARDS: each row of YtddhadddpllbcaaDoorRows.lean that lists a variable, with what it lists TIED to the program's text (the seventh form; the later family's looks); each row that meets fmt, with fmt's text TOLD by the authors' own Lean function (tested against real Go, not proved from fmt's source: count such statements apart). THE CARD IS WHAT COUNTS. Prove the row's statement (the work); the ties are given (YtddhadddpllbcaaDoorTie.lean); close each card by the builder's one call (the guide's Derived/Test/ToyasCard.lean, 'card_holds'). Laid BY PROGRAM, IN A SANDBOX (cutbox-door.mjs). By AI agents, Wed Nov 11 2026. No macro, syntax, notation, axiom, sorry.
-/
import Derived.Test.YtddhadddpllbcaaDoorRows
import GoSem.ClaimSeven
namespace Go.Proofs.YtddhadddpllbcaaDoor
namespace Rows

/-- THE TIED CARD OF 'ecclesialaw03.KeccakSums'. -/
def keccakSumsCard : Claim7 := { stood := { row := keccakSumsRow, standIns := [], harness := (true, "60ffd61b84b3b2862a3ab125f92e750b502ceb022a9f4301d7b078eb169257c8"), looks := false }, kinds := [], alts := [], laidByText := true, laidKinds := [.data], laidTests := true, laidLooks := .later }
def KeccakSumsCardSaid : Prop := Claim7.holds Tryd.pinned (.plain (OpenSpec.ofChange keccakSumsSpec)) keccakSumsCard

/-- THE TIED CARD OF 'ecclesialaw03.KeccakMixes'. -/
def keccakMixesCard : Claim7 := { stood := { row := keccakMixesRow, standIns := [], harness := (true, "60ffd61b84b3b2862a3ab125f92e750b502ceb022a9f4301d7b078eb169257c8"), looks := false }, kinds := [], alts := [], laidByText := true, laidKinds := [.data], laidTests := true, laidLooks := .later }
def KeccakMixesCardSaid : Prop := Claim7.holds Tryd.pinned (.plain (OpenSpec.ofChange keccakMixesSpec)) keccakMixesCard

/-- THE TIED CARD OF 'ecclesialaw03.KeccakParts'. -/
def keccakPartsCard : Claim7 := { stood := { row := keccakPartsRow, standIns := [], harness := (true, "60ffd61b84b3b2862a3ab125f92e750b502ceb022a9f4301d7b078eb169257c8"), looks := false }, kinds := [], alts := [], laidByText := true, laidKinds := [.data], laidTests := true, laidLooks := .later }
def KeccakPartsCardSaid : Prop := Claim7.holds Tryd.pinned (.plain (OpenSpec.ofChange keccakPartsSpec)) keccakPartsCard

/-- THE TIED CARD OF 'ecclesialaw03.KeccakTurns'. -/
def keccakTurnsCard : Claim7 := { stood := { row := keccakTurnsRow, standIns := [], harness := (true, "60ffd61b84b3b2862a3ab125f92e750b502ceb022a9f4301d7b078eb169257c8"), looks := false }, kinds := [], alts := [], laidByText := true, laidKinds := [.data], laidTests := true, laidLooks := .later }
def KeccakTurnsCardSaid : Prop := Claim7.holds Tryd.pinned (.plain (OpenSpec.ofChange keccakTurnsSpec)) keccakTurnsCard

/-- THE SECOND FORM's CARD OF 'ecclesialaw03.KeccakSums'. -/
def keccakSumsUptoCard : Claim7 := { stood := { row := keccakSumsUptoRow, standIns := [], harness := (true, "60ffd61b84b3b2862a3ab125f92e750b502ceb022a9f4301d7b078eb169257c8"), looks := false }, kinds := [], alts := [], laidByText := true, laidKinds := [.data], laidTests := true, laidLooks := .later }
def KeccakSumsUptoCardSaid : Prop := Claim7.holds Tryd.pinned (.plain (OpenSpec.upto keccakSumsSpec)) keccakSumsUptoCard

/-- THE SECOND FORM's CARD OF 'ecclesialaw03.KeccakMixes'. -/
def keccakMixesUptoCard : Claim7 := { stood := { row := keccakMixesUptoRow, standIns := [], harness := (true, "60ffd61b84b3b2862a3ab125f92e750b502ceb022a9f4301d7b078eb169257c8"), looks := false }, kinds := [], alts := [], laidByText := true, laidKinds := [.data], laidTests := true, laidLooks := .later }
def KeccakMixesUptoCardSaid : Prop := Claim7.holds Tryd.pinned (.plain (OpenSpec.upto keccakMixesSpec)) keccakMixesUptoCard

/-- THE SECOND FORM's CARD OF 'ecclesialaw03.KeccakParts'. -/
def keccakPartsUptoCard : Claim7 := { stood := { row := keccakPartsUptoRow, standIns := [], harness := (true, "60ffd61b84b3b2862a3ab125f92e750b502ceb022a9f4301d7b078eb169257c8"), looks := false }, kinds := [], alts := [], laidByText := true, laidKinds := [.data], laidTests := true, laidLooks := .later }
def KeccakPartsUptoCardSaid : Prop := Claim7.holds Tryd.pinned (.plain (OpenSpec.upto keccakPartsSpec)) keccakPartsUptoCard

/-- THE SECOND FORM's CARD OF 'ecclesialaw03.KeccakTurns'. -/
def keccakTurnsUptoCard : Claim7 := { stood := { row := keccakTurnsUptoRow, standIns := [], harness := (true, "60ffd61b84b3b2862a3ab125f92e750b502ceb022a9f4301d7b078eb169257c8"), looks := false }, kinds := [], alts := [], laidByText := true, laidKinds := [.data], laidTests := true, laidLooks := .later }
def KeccakTurnsUptoCardSaid : Prop := Claim7.holds Tryd.pinned (.plain (OpenSpec.upto keccakTurnsSpec)) keccakTurnsUptoCard
end Rows
end Go.Proofs.YtddhadddpllbcaaDoor
