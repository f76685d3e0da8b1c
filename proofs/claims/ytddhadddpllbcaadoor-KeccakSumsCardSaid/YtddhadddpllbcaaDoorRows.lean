/-
  NARROWER THAN 'FOR EVERY INPUT', by the rows' own cells (each row's printed sentence says how): KeccakSums: laid · KeccakMixes: laid · KeccakParts: laid · KeccakTurns: laid.
  DERIVED. THE GIVEN ROWS OF THIS SEAT. 4 by the template 'for every input the law returns true; each argument reads behind the call as it read before'; 0 by the template 'total and deterministic' (their statements: YtddhadddpllbcaaDoorTotals.lean).
  GIVEN WITH THE SEED: the statements are not yours to turn. If you find one false, say at which input.
  Laid BY PROGRAM, IN A SANDBOX (cutbox-rows.mjs): the forced cells as the released guide's own fill.sh prints them over the translation d8fc8fcb2b4d1af7… (all of the seat's roots in one cut). By AI agents, Wed Nov 11 2026. No macro, syntax, notation, axiom, sorry.
-/
import Derived.Test.YtddhadddpllbcaaDoorChecked
import GoSem.Claim
import GoSem.ClaimJoined
import GoSem.ClaimMapViews
import Derived.JoinedTies
import Derived.KernelRfl
namespace Go.Proofs.YtddhadddpllbcaaDoor
/- THE CELL 'sum', in the pinned program and in every row, IS THE sha256 OF THE DUMP (.gsa) THAT YtddhadddpllbcaaDoorProg.lean LOADS. Nothing in Lean hashes anything: it is a label: what it is worth is what the hold of that sum in a sandbox is worth. -/
noncomputable def Tryd.pinned : Pinned := { name := "ytddhadddpllbcaadoor", sum := "d8fc8fcb2b4d1af7a114197b642228f21e29ba97ed6b2ebc1d0bc58e029f19f6", checked := Tryd.checked }
namespace Rows
def none {H : Type} : Left H := { results := [], args := [] }

/- WHAT THE LISTED PACKAGE-LEVEL VARIABLES READ AS WHEN THE CALL BEGINS. Each datum BY PROGRAM (the guide's laid-datum.mjs) off the statement by which the dump's own 'gosem.cut.vars' lays the variable. In a bare row this is a premise. The card (YtddhadddpllbcaaDoorCards.lean) ties it to the program's text. -/
def laid_ecclesia_keccak_marks {H : Type} : DataW H := .agg [.lit (.int .u64 1), .lit (.int .u64 32898), .lit (.int .u64 9223372036854808714), .lit (.int .u64 9223372039002292224), .lit (.int .u64 32907), .lit (.int .u64 2147483649), .lit (.int .u64 9223372039002292353), .lit (.int .u64 9223372036854808585), .lit (.int .u64 138), .lit (.int .u64 136), .lit (.int .u64 2147516425), .lit (.int .u64 2147483658), .lit (.int .u64 2147516555), .lit (.int .u64 9223372036854775947), .lit (.int .u64 9223372036854808713), .lit (.int .u64 9223372036854808579), .lit (.int .u64 9223372036854808578), .lit (.int .u64 9223372036854775936), .lit (.int .u64 32778), .lit (.int .u64 9223372039002259466), .lit (.int .u64 9223372039002292353), .lit (.int .u64 9223372036854808704), .lit (.int .u64 2147483649), .lit (.int .u64 9223372039002292232)]

/-- 'ecclesialaw03.KeccakSums': WHATEVER THE INPUT: true; the input reads as it did. -/
def keccakSumsSpec : ChangeSpec := { name := "keccakSums", fn := fun _ => fun
  | [d] => { results := [.lit (.bool true)], args := [d] }
  | _ => none }
def keccakSumsRow : OpenClaim := { program := "ytddhadddpllbcaadoor", sum := "d8fc8fcb2b4d1af7a114197b642228f21e29ba97ed6b2ebc1d0bc58e029f19f6", func := "ecclesia/ecclesialaw03.KeccakSums", spec := "keccakSums", named := ["ecclesia/keccak.marks"], apart := false, laid := [("ecclesia/keccak.marks", laid_ecclesia_keccak_marks)] }
def KeccakSumsSaid : Prop := keccakSumsRow.holds Tryd.pinned (OpenSpec.ofChange keccakSumsSpec)

/-- ITS FALSE NEIGHBOUR: 'it returns false'. Refute it at one input. -/
def keccakSumsWrong : ChangeSpec := { name := "keccakSums", fn := fun _ => fun
  | [d] => { results := [.lit (.bool false)], args := [d] }
  | _ => none }
def KeccakSumsWrongFalsely : Prop := keccakSumsRow.holds Tryd.pinned (OpenSpec.ofChange keccakSumsWrong)

/-- 'ecclesialaw03.KeccakMixes': WHATEVER THE INPUT: true; the input reads as it did. -/
def keccakMixesSpec : ChangeSpec := { name := "keccakMixes", fn := fun _ => fun
  | [d] => { results := [.lit (.bool true)], args := [d] }
  | _ => none }
def keccakMixesRow : OpenClaim := { program := "ytddhadddpllbcaadoor", sum := "d8fc8fcb2b4d1af7a114197b642228f21e29ba97ed6b2ebc1d0bc58e029f19f6", func := "ecclesia/ecclesialaw03.KeccakMixes", spec := "keccakMixes", named := ["ecclesia/keccak.marks"], apart := false, laid := [("ecclesia/keccak.marks", laid_ecclesia_keccak_marks)] }
def KeccakMixesSaid : Prop := keccakMixesRow.holds Tryd.pinned (OpenSpec.ofChange keccakMixesSpec)

/-- ITS FALSE NEIGHBOUR: 'it returns false'. Refute it at one input. -/
def keccakMixesWrong : ChangeSpec := { name := "keccakMixes", fn := fun _ => fun
  | [d] => { results := [.lit (.bool false)], args := [d] }
  | _ => none }
def KeccakMixesWrongFalsely : Prop := keccakMixesRow.holds Tryd.pinned (OpenSpec.ofChange keccakMixesWrong)

/-- 'ecclesialaw03.KeccakParts': WHATEVER THE INPUT: true; the input reads as it did. -/
def keccakPartsSpec : ChangeSpec := { name := "keccakParts", fn := fun _ => fun
  | [d1, d2, d3] => { results := [.lit (.bool true)], args := [d1, d2, d3] }
  | _ => none }
def keccakPartsRow : OpenClaim := { program := "ytddhadddpllbcaadoor", sum := "d8fc8fcb2b4d1af7a114197b642228f21e29ba97ed6b2ebc1d0bc58e029f19f6", func := "ecclesia/ecclesialaw03.KeccakParts", spec := "keccakParts", named := ["ecclesia/keccak.marks"], apart := false, laid := [("ecclesia/keccak.marks", laid_ecclesia_keccak_marks)] }
def KeccakPartsSaid : Prop := keccakPartsRow.holds Tryd.pinned (OpenSpec.ofChange keccakPartsSpec)

/-- ITS FALSE NEIGHBOUR: 'it returns false'. Refute it at one input. -/
def keccakPartsWrong : ChangeSpec := { name := "keccakParts", fn := fun _ => fun
  | [d1, d2, d3] => { results := [.lit (.bool false)], args := [d1, d2, d3] }
  | _ => none }
def KeccakPartsWrongFalsely : Prop := keccakPartsRow.holds Tryd.pinned (OpenSpec.ofChange keccakPartsWrong)

/-- 'ecclesialaw03.KeccakTurns': WHATEVER THE INPUT: true; the input reads as it did. -/
def keccakTurnsSpec : ChangeSpec := { name := "keccakTurns", fn := fun _ => fun
  | [d1, d2, d3] => { results := [.lit (.bool true)], args := [d1, d2, d3] }
  | _ => none }
def keccakTurnsRow : OpenClaim := { program := "ytddhadddpllbcaadoor", sum := "d8fc8fcb2b4d1af7a114197b642228f21e29ba97ed6b2ebc1d0bc58e029f19f6", func := "ecclesia/ecclesialaw03.KeccakTurns", spec := "keccakTurns", named := ["ecclesia/keccak.marks"], apart := false, laid := [("ecclesia/keccak.marks", laid_ecclesia_keccak_marks)] }
def KeccakTurnsSaid : Prop := keccakTurnsRow.holds Tryd.pinned (OpenSpec.ofChange keccakTurnsSpec)

/-- ITS FALSE NEIGHBOUR: 'it returns false'. Refute it at one input. -/
def keccakTurnsWrong : ChangeSpec := { name := "keccakTurns", fn := fun _ => fun
  | [d1, d2, d3] => { results := [.lit (.bool false)], args := [d1, d2, d3] }
  | _ => none }
def KeccakTurnsWrongFalsely : Prop := keccakTurnsRow.holds Tryd.pinned (OpenSpec.ofChange keccakTurnsWrong)

/- THE SECOND FORM. 'bulk': how many values and letters a reading holds, each counted each time it is reached (what is shared counts as often as it is met; a slice's spare places count too). A statement '..UptoSaid' is the law's where the arguments, and the package variables that the reading takes, are together of bulk at most 1048576: NARROWER than '..Said'. Prove '..Said' where nothing that the law and all that it calls make is longer than what came in: it says more and counts as full. Else prove '..UptoSaid'. A law counts once. -/
mutual
def uptoBulk {H : Type} : DataW H → Nat
  | .lit (.string bytes) => bytes.length + 1
  | .lit _ => 1
  | .nil => 1
  | .ptr d => uptoBulk d + 1
  | .slice elems spare => uptoBulkAll elems + uptoBulkAll spare + 1
  | .agg parts => uptoBulkAll parts + 1
  | .iface _ d => uptoBulk d + 1
  | .map entries => uptoBulkEntries entries + 1
  | .held _ => 1
def uptoBulkAll {H : Type} : List (DataW H) → Nat
  | [] => 0
  | d :: r => uptoBulk d + uptoBulkAll r
def uptoBulkEntries {H : Type} : List (Lit × DataW H) → Nat
  | [] => 0
  | x :: r => uptoBulkEntry x + uptoBulkEntries r
def uptoBulkEntry {H : Type} : Lit × DataW H → Nat
  | (.string bytes, d) => bytes.length + uptoBulk d + 1
  | (_, d) => uptoBulk d + 1
 end
def uptoSmall : (H : Type) → List (DataW H) → Bool := fun _ ds => decide (uptoBulkAll ds ≤ 1048576)
def OpenSpec.upto (s : _root_.Go.ChangeSpec) : _root_.Go.OpenSpec := { _root_.Go.OpenSpec.ofChange s with cond := some uptoSmall }

/-- 'ecclesialaw03.KeccakSums', WHERE WHAT IT READS IS OF BULK AT MOST 1048576: true; the input reads as it did. -/
def keccakSumsUptoRow : OpenClaim := { program := "ytddhadddpllbcaadoor", sum := "d8fc8fcb2b4d1af7a114197b642228f21e29ba97ed6b2ebc1d0bc58e029f19f6", func := "ecclesia/ecclesialaw03.KeccakSums", spec := "keccakSums", named := ["ecclesia/keccak.marks"], apart := false, laid := [("ecclesia/keccak.marks", laid_ecclesia_keccak_marks)], narrowed := true }
def KeccakSumsUptoSaid : Prop := keccakSumsUptoRow.holds Tryd.pinned (OpenSpec.upto keccakSumsSpec)

/-- 'ecclesialaw03.KeccakMixes', WHERE WHAT IT READS IS OF BULK AT MOST 1048576: true; the input reads as it did. -/
def keccakMixesUptoRow : OpenClaim := { program := "ytddhadddpllbcaadoor", sum := "d8fc8fcb2b4d1af7a114197b642228f21e29ba97ed6b2ebc1d0bc58e029f19f6", func := "ecclesia/ecclesialaw03.KeccakMixes", spec := "keccakMixes", named := ["ecclesia/keccak.marks"], apart := false, laid := [("ecclesia/keccak.marks", laid_ecclesia_keccak_marks)], narrowed := true }
def KeccakMixesUptoSaid : Prop := keccakMixesUptoRow.holds Tryd.pinned (OpenSpec.upto keccakMixesSpec)

/-- 'ecclesialaw03.KeccakParts', WHERE WHAT IT READS IS OF BULK AT MOST 1048576: true; the input reads as it did. -/
def keccakPartsUptoRow : OpenClaim := { program := "ytddhadddpllbcaadoor", sum := "d8fc8fcb2b4d1af7a114197b642228f21e29ba97ed6b2ebc1d0bc58e029f19f6", func := "ecclesia/ecclesialaw03.KeccakParts", spec := "keccakParts", named := ["ecclesia/keccak.marks"], apart := false, laid := [("ecclesia/keccak.marks", laid_ecclesia_keccak_marks)], narrowed := true }
def KeccakPartsUptoSaid : Prop := keccakPartsUptoRow.holds Tryd.pinned (OpenSpec.upto keccakPartsSpec)

/-- 'ecclesialaw03.KeccakTurns', WHERE WHAT IT READS IS OF BULK AT MOST 1048576: true; the input reads as it did. -/
def keccakTurnsUptoRow : OpenClaim := { program := "ytddhadddpllbcaadoor", sum := "d8fc8fcb2b4d1af7a114197b642228f21e29ba97ed6b2ebc1d0bc58e029f19f6", func := "ecclesia/ecclesialaw03.KeccakTurns", spec := "keccakTurns", named := ["ecclesia/keccak.marks"], apart := false, laid := [("ecclesia/keccak.marks", laid_ecclesia_keccak_marks)], narrowed := true }
def KeccakTurnsUptoSaid : Prop := keccakTurnsUptoRow.holds Tryd.pinned (OpenSpec.upto keccakTurnsSpec)

end Rows
end Go.Proofs.YtddhadddpllbcaaDoor
