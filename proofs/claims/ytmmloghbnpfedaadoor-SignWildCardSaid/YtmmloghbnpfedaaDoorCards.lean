/-
  DERIVED. GIVEN WITH THE SEED: THE CARDS: each row of YtmmloghbnpfedaaDoorRows.lean that lists a variable, with what it lists TIED to the program's text (the seventh form; the later family's looks); each row that meets fmt, with fmt's text TOLD by the authors' own Lean function (tested against real Go, not proved from fmt's source: count such statements apart). THE CARD IS WHAT COUNTS. Prove the row's statement (the work); the ties are given (YtmmloghbnpfedaaDoorTie.lean); close each card by the builder's one call (the guide's Derived/Test/ToyasCard.lean, 'card_holds'). Laid BY PROGRAM, IN A SANDBOX (cutbox-door.mjs). By AI agents, Wed Nov 11 2026. No macro, syntax, notation, axiom, sorry.
-/
import Derived.Test.YtmmloghbnpfedaaDoorRows
import GoSem.ClaimSeven
namespace Go.Proofs.YtmmloghbnpfedaaDoor
namespace Rows

/-- THE TIED CARD OF 'ecclesialaw07.SignAddresses'. -/
def signAddressesCard : Claim7 := { stood := { row := signAddressesRow, standIns := [], harness := (true, "d4860321f870efe0f33cf4b6003135acfdabeb9f6849289761e6b2f51b2a79e3"), looks := false }, kinds := [], alts := [], laidByText := true, laidKinds := [.data], laidTests := true, laidLooks := .later }
def SignAddressesCardSaid : Prop := Claim7.holds Tryd.pinned (.plain (OpenSpec.ofChange signAddressesSpec)) signAddressesCard

/-- THE TIED CARD OF 'ecclesialaw07.SignBytes'. -/
def signBytesCard : Claim7 := { stood := { row := signBytesRow, standIns := [], harness := (true, "d4860321f870efe0f33cf4b6003135acfdabeb9f6849289761e6b2f51b2a79e3"), looks := false }, kinds := [], alts := [], laidByText := true, laidKinds := [.data], laidTests := true, laidLooks := .later }
def SignBytesCardSaid : Prop := Claim7.holds Tryd.pinned (.plain (OpenSpec.ofChange signBytesSpec)) signBytesCard

/-- THE TIED CARD OF 'ecclesialaw07.SignWild'. -/
def signWildCard : Claim7 := { stood := { row := signWildRow, standIns := [], harness := (true, "d4860321f870efe0f33cf4b6003135acfdabeb9f6849289761e6b2f51b2a79e3"), looks := false }, kinds := [], alts := [], laidByText := true, laidKinds := [.data], laidTests := true, laidLooks := .later }
def SignWildCardSaid : Prop := Claim7.holds Tryd.pinned (.plain (OpenSpec.ofChange signWildSpec)) signWildCard

/-- THE SECOND FORM's CARD OF 'ecclesialaw07.SignAddresses'. -/
def signAddressesUptoCard : Claim7 := { stood := { row := signAddressesUptoRow, standIns := [], harness := (true, "d4860321f870efe0f33cf4b6003135acfdabeb9f6849289761e6b2f51b2a79e3"), looks := false }, kinds := [], alts := [], laidByText := true, laidKinds := [.data], laidTests := true, laidLooks := .later }
def SignAddressesUptoCardSaid : Prop := Claim7.holds Tryd.pinned (.plain (OpenSpec.upto signAddressesSpec)) signAddressesUptoCard

/-- THE SECOND FORM's CARD OF 'ecclesialaw07.SignBytes'. -/
def signBytesUptoCard : Claim7 := { stood := { row := signBytesUptoRow, standIns := [], harness := (true, "d4860321f870efe0f33cf4b6003135acfdabeb9f6849289761e6b2f51b2a79e3"), looks := false }, kinds := [], alts := [], laidByText := true, laidKinds := [.data], laidTests := true, laidLooks := .later }
def SignBytesUptoCardSaid : Prop := Claim7.holds Tryd.pinned (.plain (OpenSpec.upto signBytesSpec)) signBytesUptoCard

/-- THE SECOND FORM's CARD OF 'ecclesialaw07.SignWild'. -/
def signWildUptoCard : Claim7 := { stood := { row := signWildUptoRow, standIns := [], harness := (true, "d4860321f870efe0f33cf4b6003135acfdabeb9f6849289761e6b2f51b2a79e3"), looks := false }, kinds := [], alts := [], laidByText := true, laidKinds := [.data], laidTests := true, laidLooks := .later }
def SignWildUptoCardSaid : Prop := Claim7.holds Tryd.pinned (.plain (OpenSpec.upto signWildSpec)) signWildUptoCard
end Rows
end Go.Proofs.YtmmloghbnpfedaaDoor
