/-
  No cell of these rows narrows 'for every input' (looked for: loops, veiled, ifaces, maps, wideKeys, modest, calm, conditions, laid).
  DERIVED. THE GIVEN ROWS OF THIS SEAT. 4 by the template 'for every input the law returns true; each argument reads behind the call as it read before'; 0 by the template 'total and deterministic' (their statements: YthomanpefekaaaaTotals.lean).
  GIVEN WITH THE SEED: the statements are not yours to turn. If you find one false, say at which input.
  Laid BY PROGRAM, IN A SANDBOX (cutbox-rows.mjs): the forced cells as the released guide's own fill.sh prints them over the translation 72fe86cf6f36ac46… (all of the seat's roots in one cut). By AI agents, Wed Nov 11 2026. No macro, syntax, notation, axiom, sorry.
-/
import Derived.Test.YthomanpefekaaaaChecked
import GoSem.Claim
import GoSem.ClaimJoined
import GoSem.ClaimMapViews
import Derived.JoinedTies
import Derived.KernelRfl
namespace Go.Proofs.Ythomanpefekaaaa
/- THE CELL 'sum', in the pinned program and in every row, IS THE sha256 OF THE DUMP (.gsa) THAT YthomanpefekaaaaProg.lean LOADS. Nothing in Lean hashes anything: it is a label: what it is worth is what the hold of that sum in a sandbox is worth. -/
noncomputable def Try.pinned : Pinned := { name := "ythomanpefekaaaa", sum := "72fe86cf6f36ac46832ce911efa7bbfa3aa32f341038e19569aa43e5cb83ecb1", checked := Try.checked }
namespace Rows
def none {H : Type} : Left H := { results := [], args := [] }

/-- 'ecclesialaw01.U256Lefts': WHATEVER THE INPUT: true; the input reads as it did. -/
def u256LeftsSpec : ChangeSpec := { name := "u256Lefts", fn := fun _ => fun
  | [d1, d2, d3] => { results := [.lit (.bool true)], args := [d1, d2, d3] }
  | _ => none }
def u256LeftsRow : OpenClaim := { program := "ythomanpefekaaaa", sum := "72fe86cf6f36ac46832ce911efa7bbfa3aa32f341038e19569aa43e5cb83ecb1", func := "ecclesia/ecclesialaw01.U256Lefts", spec := "u256Lefts", inPlace := ["math/bits.Add64", "math/bits.Sub64"], named := ["math/bits.divideError", "math/bits.overflowError"], apart := false }
def U256LeftsSaid : Prop := u256LeftsRow.holds Try.pinned (OpenSpec.ofChange u256LeftsSpec)

/-- ITS FALSE NEIGHBOUR: 'it returns false'. Refute it at one input. -/
def u256LeftsWrong : ChangeSpec := { name := "u256Lefts", fn := fun _ => fun
  | [d1, d2, d3] => { results := [.lit (.bool false)], args := [d1, d2, d3] }
  | _ => none }
def U256LeftsWrongFalsely : Prop := u256LeftsRow.holds Try.pinned (OpenSpec.ofChange u256LeftsWrong)

/-- 'ecclesialaw01.U256Bytes': WHATEVER THE INPUT: true; the input reads as it did. -/
def u256BytesSpec : ChangeSpec := { name := "u256Bytes", fn := fun _ => fun
  | [d1, d2, d3, d4] => { results := [.lit (.bool true)], args := [d1, d2, d3, d4] }
  | _ => none }
def u256BytesRow : OpenClaim := { program := "ythomanpefekaaaa", sum := "72fe86cf6f36ac46832ce911efa7bbfa3aa32f341038e19569aa43e5cb83ecb1", func := "ecclesia/ecclesialaw01.U256Bytes", spec := "u256Bytes", inPlace := ["math/bits.Add64"], apart := false }
def U256BytesSaid : Prop := u256BytesRow.holds Try.pinned (OpenSpec.ofChange u256BytesSpec)

/-- ITS FALSE NEIGHBOUR: 'it returns false'. Refute it at one input. -/
def u256BytesWrong : ChangeSpec := { name := "u256Bytes", fn := fun _ => fun
  | [d1, d2, d3, d4] => { results := [.lit (.bool false)], args := [d1, d2, d3, d4] }
  | _ => none }
def U256BytesWrongFalsely : Prop := u256BytesRow.holds Try.pinned (OpenSpec.ofChange u256BytesWrong)

/-- 'ecclesialaw01.U256Shares': WHATEVER THE INPUT: true; the input reads as it did. -/
def u256SharesSpec : ChangeSpec := { name := "u256Shares", fn := fun _ => fun
  | [d1, d2, d3, d4] => { results := [.lit (.bool true)], args := [d1, d2, d3, d4] }
  | _ => none }
def u256SharesRow : OpenClaim := { program := "ythomanpefekaaaa", sum := "72fe86cf6f36ac46832ce911efa7bbfa3aa32f341038e19569aa43e5cb83ecb1", func := "ecclesia/ecclesialaw01.U256Shares", spec := "u256Shares", inPlace := ["math/bits.Add64", "math/bits.Sub64"], named := ["math/bits.divideError", "math/bits.overflowError"], apart := false }
def U256SharesSaid : Prop := u256SharesRow.holds Try.pinned (OpenSpec.ofChange u256SharesSpec)

/-- ITS FALSE NEIGHBOUR: 'it returns false'. Refute it at one input. -/
def u256SharesWrong : ChangeSpec := { name := "u256Shares", fn := fun _ => fun
  | [d1, d2, d3, d4] => { results := [.lit (.bool false)], args := [d1, d2, d3, d4] }
  | _ => none }
def U256SharesWrongFalsely : Prop := u256SharesRow.holds Try.pinned (OpenSpec.ofChange u256SharesWrong)

/-- 'ecclesialaw02.FieldReckons': WHATEVER THE INPUT: true; the input reads as it did. -/
def fieldReckonsSpec : ChangeSpec := { name := "fieldReckons", fn := fun _ => fun
  | [d1, d2, d3] => { results := [.lit (.bool true)], args := [d1, d2, d3] }
  | _ => none }
def fieldReckonsRow : OpenClaim := { program := "ythomanpefekaaaa", sum := "72fe86cf6f36ac46832ce911efa7bbfa3aa32f341038e19569aa43e5cb83ecb1", func := "ecclesia/ecclesialaw02.FieldReckons", spec := "fieldReckons", inPlace := ["math/bits.Add64", "math/bits.Sub64"], apart := false }
def FieldReckonsSaid : Prop := fieldReckonsRow.holds Try.pinned (OpenSpec.ofChange fieldReckonsSpec)

/-- ITS FALSE NEIGHBOUR: 'it returns false'. Refute it at one input. -/
def fieldReckonsWrong : ChangeSpec := { name := "fieldReckons", fn := fun _ => fun
  | [d1, d2, d3] => { results := [.lit (.bool false)], args := [d1, d2, d3] }
  | _ => none }
def FieldReckonsWrongFalsely : Prop := fieldReckonsRow.holds Try.pinned (OpenSpec.ofChange fieldReckonsWrong)

/- THE SECOND FORM. 'bulk': how many values and letters a reading holds, each counted each time it is reached (what is shared counts as often as it is met; a slice's spare places count too). A statement '..UptoSaid' is the law's where the arguments, and the package variables that the reading takes, are together of bulk at most 1048576: NARROWER than '..Said'. Prove '..Said' where nothing that the law and all that it calls make is longer than what came in: it says more and counts as full. Else prove '..UptoSaid'. A law counts once. -/
mutual
def uptoBulk {H : Type} : DataW H → Nat
  | .lit (.string bytes) => bytes.length + 1
  | .lit _ => 1
  | .nil => 1
  | .ptr d => uptoBulk d + 1
  | .slice elems spare => uptoBulkAll elems + uptoBulkAll spare + 1
  | .agg parts => uptoBulkAll parts + 1
  | .iface _ d => uptoBulk d + 1
  | .map entries => uptoBulkEntries entries + 1
  | .held _ => 1
def uptoBulkAll {H : Type} : List (DataW H) → Nat
  | [] => 0
  | d :: r => uptoBulk d + uptoBulkAll r
def uptoBulkEntries {H : Type} : List (Lit × DataW H) → Nat
  | [] => 0
  | x :: r => uptoBulkEntry x + uptoBulkEntries r
def uptoBulkEntry {H : Type} : Lit × DataW H → Nat
  | (.string bytes, d) => bytes.length + uptoBulk d + 1
  | (_, d) => uptoBulk d + 1
 end
def uptoSmall : (H : Type) → List (DataW H) → Bool := fun _ ds => decide (uptoBulkAll ds ≤ 1048576)
def OpenSpec.upto (s : _root_.Go.ChangeSpec) : _root_.Go.OpenSpec := { _root_.Go.OpenSpec.ofChange s with cond := some uptoSmall }

/-- 'ecclesialaw01.U256Lefts', WHERE WHAT IT READS IS OF BULK AT MOST 1048576: true; the input reads as it did. -/
def u256LeftsUptoRow : OpenClaim := { program := "ythomanpefekaaaa", sum := "72fe86cf6f36ac46832ce911efa7bbfa3aa32f341038e19569aa43e5cb83ecb1", func := "ecclesia/ecclesialaw01.U256Lefts", spec := "u256Lefts", inPlace := ["math/bits.Add64", "math/bits.Sub64"], named := ["math/bits.divideError", "math/bits.overflowError"], apart := false, narrowed := true }
def U256LeftsUptoSaid : Prop := u256LeftsUptoRow.holds Try.pinned (OpenSpec.upto u256LeftsSpec)

/-- 'ecclesialaw01.U256Bytes', WHERE WHAT IT READS IS OF BULK AT MOST 1048576: true; the input reads as it did. -/
def u256BytesUptoRow : OpenClaim := { program := "ythomanpefekaaaa", sum := "72fe86cf6f36ac46832ce911efa7bbfa3aa32f341038e19569aa43e5cb83ecb1", func := "ecclesia/ecclesialaw01.U256Bytes", spec := "u256Bytes", inPlace := ["math/bits.Add64"], apart := false, narrowed := true }
def U256BytesUptoSaid : Prop := u256BytesUptoRow.holds Try.pinned (OpenSpec.upto u256BytesSpec)

/-- 'ecclesialaw01.U256Shares', WHERE WHAT IT READS IS OF BULK AT MOST 1048576: true; the input reads as it did. -/
def u256SharesUptoRow : OpenClaim := { program := "ythomanpefekaaaa", sum := "72fe86cf6f36ac46832ce911efa7bbfa3aa32f341038e19569aa43e5cb83ecb1", func := "ecclesia/ecclesialaw01.U256Shares", spec := "u256Shares", inPlace := ["math/bits.Add64", "math/bits.Sub64"], named := ["math/bits.divideError", "math/bits.overflowError"], apart := false, narrowed := true }
def U256SharesUptoSaid : Prop := u256SharesUptoRow.holds Try.pinned (OpenSpec.upto u256SharesSpec)

/-- 'ecclesialaw02.FieldReckons', WHERE WHAT IT READS IS OF BULK AT MOST 1048576: true; the input reads as it did. -/
def fieldReckonsUptoRow : OpenClaim := { program := "ythomanpefekaaaa", sum := "72fe86cf6f36ac46832ce911efa7bbfa3aa32f341038e19569aa43e5cb83ecb1", func := "ecclesia/ecclesialaw02.FieldReckons", spec := "fieldReckons", inPlace := ["math/bits.Add64", "math/bits.Sub64"], apart := false, narrowed := true }
def FieldReckonsUptoSaid : Prop := fieldReckonsUptoRow.holds Try.pinned (OpenSpec.upto fieldReckonsSpec)

end Rows
end Go.Proofs.Ythomanpefekaaaa
