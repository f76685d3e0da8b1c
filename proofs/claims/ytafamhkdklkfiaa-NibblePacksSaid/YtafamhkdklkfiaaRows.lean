/-
  No cell of these rows narrows 'for every input' (looked for: loops, veiled, ifaces, maps, wideKeys, modest, calm, conditions, laid).
  DERIVED. THE GIVEN ROWS OF THIS SEAT. 4 by the template 'for every input the law returns true; each argument reads behind the call as it read before'; 0 by the template 'total and deterministic' (their statements: YtafamhkdklkfiaaTotals.lean).
  GIVEN WITH THE SEED: the statements are not yours to turn. If you find one false, say at which input.
  Laid BY PROGRAM, IN A SANDBOX (cutbox-rows.mjs): the forced cells as the released guide's own fill.sh prints them over the translation a04d13032bdd7c4b… (all of the seat's roots in one cut). By AI agents, Wed Nov 11 2026. No macro, syntax, notation, axiom, sorry.
-/
import Derived.Test.YtafamhkdklkfiaaChecked
import GoSem.Claim
import GoSem.ClaimJoined
import GoSem.ClaimMapViews
import Derived.JoinedTies
import Derived.KernelRfl
namespace Go.Proofs.Ytafamhkdklkfiaa
/- THE CELL 'sum', in the pinned program and in every row, IS THE sha256 OF THE DUMP (.gsa) THAT YtafamhkdklkfiaaProg.lean LOADS. Nothing in Lean hashes anything: it is a label: what it is worth is what the hold of that sum in a sandbox is worth. -/
noncomputable def Try.pinned : Pinned := { name := "ytafamhkdklkfiaa", sum := "a04d13032bdd7c4bce32281528a008ef2860b21b460c6422e180cd757c2a7c16", checked := Try.checked }
namespace Rows
def none {H : Type} : Left H := { results := [], args := [] }

/-- 'ecclesialaw09.NibbleKeys': WHATEVER THE INPUT: true; the input reads as it did. -/
def nibbleKeysSpec : ChangeSpec := { name := "nibbleKeys", fn := fun _ => fun
  | [d1, d2] => { results := [.lit (.bool true)], args := [d1, d2] }
  | _ => none }
def nibbleKeysRow : OpenClaim := { program := "ytafamhkdklkfiaa", sum := "a04d13032bdd7c4bce32281528a008ef2860b21b460c6422e180cd757c2a7c16", func := "ecclesia/ecclesialaw09.NibbleKeys", spec := "nibbleKeys", apart := false }
def NibbleKeysSaid : Prop := nibbleKeysRow.holds Try.pinned (OpenSpec.ofChange nibbleKeysSpec)

/-- ITS FALSE NEIGHBOUR: 'it returns false'. Refute it at one input. -/
def nibbleKeysWrong : ChangeSpec := { name := "nibbleKeys", fn := fun _ => fun
  | [d1, d2] => { results := [.lit (.bool false)], args := [d1, d2] }
  | _ => none }
def NibbleKeysWrongFalsely : Prop := nibbleKeysRow.holds Try.pinned (OpenSpec.ofChange nibbleKeysWrong)

/-- 'ecclesialaw09.NibblePacks': WHATEVER THE INPUT: true; the input reads as it did. -/
def nibblePacksSpec : ChangeSpec := { name := "nibblePacks", fn := fun _ => fun
  | [d1, d2, d3] => { results := [.lit (.bool true)], args := [d1, d2, d3] }
  | _ => none }
def nibblePacksRow : OpenClaim := { program := "ytafamhkdklkfiaa", sum := "a04d13032bdd7c4bce32281528a008ef2860b21b460c6422e180cd757c2a7c16", func := "ecclesia/ecclesialaw09.NibblePacks", spec := "nibblePacks", apart := false }
def NibblePacksSaid : Prop := nibblePacksRow.holds Try.pinned (OpenSpec.ofChange nibblePacksSpec)

/-- ITS FALSE NEIGHBOUR: 'it returns false'. Refute it at one input. -/
def nibblePacksWrong : ChangeSpec := { name := "nibblePacks", fn := fun _ => fun
  | [d1, d2, d3] => { results := [.lit (.bool false)], args := [d1, d2, d3] }
  | _ => none }
def NibblePacksWrongFalsely : Prop := nibblePacksRow.holds Try.pinned (OpenSpec.ofChange nibblePacksWrong)

/-- 'ecclesialaw09.NibbleBack': WHATEVER THE INPUT: true; the input reads as it did. -/
def nibbleBackSpec : ChangeSpec := { name := "nibbleBack", fn := fun _ => fun
  | [d1, d2, d3] => { results := [.lit (.bool true)], args := [d1, d2, d3] }
  | _ => none }
def nibbleBackRow : OpenClaim := { program := "ytafamhkdklkfiaa", sum := "a04d13032bdd7c4bce32281528a008ef2860b21b460c6422e180cd757c2a7c16", func := "ecclesia/ecclesialaw09.NibbleBack", spec := "nibbleBack", apart := false }
def NibbleBackSaid : Prop := nibbleBackRow.holds Try.pinned (OpenSpec.ofChange nibbleBackSpec)

/-- ITS FALSE NEIGHBOUR: 'it returns false'. Refute it at one input. -/
def nibbleBackWrong : ChangeSpec := { name := "nibbleBack", fn := fun _ => fun
  | [d1, d2, d3] => { results := [.lit (.bool false)], args := [d1, d2, d3] }
  | _ => none }
def NibbleBackWrongFalsely : Prop := nibbleBackRow.holds Try.pinned (OpenSpec.ofChange nibbleBackWrong)

/-- 'ecclesialaw09.NibbleShared': WHATEVER THE INPUT: true; the input reads as it did. -/
def nibbleSharedSpec : ChangeSpec := { name := "nibbleShared", fn := fun _ => fun
  | [d1, d2, d3] => { results := [.lit (.bool true)], args := [d1, d2, d3] }
  | _ => none }
def nibbleSharedRow : OpenClaim := { program := "ytafamhkdklkfiaa", sum := "a04d13032bdd7c4bce32281528a008ef2860b21b460c6422e180cd757c2a7c16", func := "ecclesia/ecclesialaw09.NibbleShared", spec := "nibbleShared", apart := false }
def NibbleSharedSaid : Prop := nibbleSharedRow.holds Try.pinned (OpenSpec.ofChange nibbleSharedSpec)

/-- ITS FALSE NEIGHBOUR: 'it returns false'. Refute it at one input. -/
def nibbleSharedWrong : ChangeSpec := { name := "nibbleShared", fn := fun _ => fun
  | [d1, d2, d3] => { results := [.lit (.bool false)], args := [d1, d2, d3] }
  | _ => none }
def NibbleSharedWrongFalsely : Prop := nibbleSharedRow.holds Try.pinned (OpenSpec.ofChange nibbleSharedWrong)

/- THE SECOND FORM. 'bulk': how many values and letters a reading holds, each counted each time it is reached (what is shared counts as often as it is met; a slice's spare places count too). A statement '..UptoSaid' is the law's where the arguments, and the package variables that the reading takes, are together of bulk at most 1048576: NARROWER than '..Said'. Prove '..Said' where nothing that the law and all that it calls make is longer than what came in: it says more and counts as full. Else prove '..UptoSaid'. A law counts once. -/
mutual
def uptoBulk {H : Type} : DataW H → Nat
  | .lit (.string bytes) => bytes.length + 1
  | .lit _ => 1
  | .nil => 1
  | .ptr d => uptoBulk d + 1
  | .slice elems spare => uptoBulkAll elems + uptoBulkAll spare + 1
  | .agg parts => uptoBulkAll parts + 1
  | .iface _ d => uptoBulk d + 1
  | .map entries => uptoBulkEntries entries + 1
  | .held _ => 1
def uptoBulkAll {H : Type} : List (DataW H) → Nat
  | [] => 0
  | d :: r => uptoBulk d + uptoBulkAll r
def uptoBulkEntries {H : Type} : List (Lit × DataW H) → Nat
  | [] => 0
  | x :: r => uptoBulkEntry x + uptoBulkEntries r
def uptoBulkEntry {H : Type} : Lit × DataW H → Nat
  | (.string bytes, d) => bytes.length + uptoBulk d + 1
  | (_, d) => uptoBulk d + 1
 end
def uptoSmall : (H : Type) → List (DataW H) → Bool := fun _ ds => decide (uptoBulkAll ds ≤ 1048576)
def OpenSpec.upto (s : _root_.Go.ChangeSpec) : _root_.Go.OpenSpec := { _root_.Go.OpenSpec.ofChange s with cond := some uptoSmall }

/-- 'ecclesialaw09.NibbleKeys', WHERE WHAT IT READS IS OF BULK AT MOST 1048576: true; the input reads as it did. -/
def nibbleKeysUptoRow : OpenClaim := { program := "ytafamhkdklkfiaa", sum := "a04d13032bdd7c4bce32281528a008ef2860b21b460c6422e180cd757c2a7c16", func := "ecclesia/ecclesialaw09.NibbleKeys", spec := "nibbleKeys", apart := false, narrowed := true }
def NibbleKeysUptoSaid : Prop := nibbleKeysUptoRow.holds Try.pinned (OpenSpec.upto nibbleKeysSpec)

/-- 'ecclesialaw09.NibblePacks', WHERE WHAT IT READS IS OF BULK AT MOST 1048576: true; the input reads as it did. -/
def nibblePacksUptoRow : OpenClaim := { program := "ytafamhkdklkfiaa", sum := "a04d13032bdd7c4bce32281528a008ef2860b21b460c6422e180cd757c2a7c16", func := "ecclesia/ecclesialaw09.NibblePacks", spec := "nibblePacks", apart := false, narrowed := true }
def NibblePacksUptoSaid : Prop := nibblePacksUptoRow.holds Try.pinned (OpenSpec.upto nibblePacksSpec)

/-- 'ecclesialaw09.NibbleBack', WHERE WHAT IT READS IS OF BULK AT MOST 1048576: true; the input reads as it did. -/
def nibbleBackUptoRow : OpenClaim := { program := "ytafamhkdklkfiaa", sum := "a04d13032bdd7c4bce32281528a008ef2860b21b460c6422e180cd757c2a7c16", func := "ecclesia/ecclesialaw09.NibbleBack", spec := "nibbleBack", apart := false, narrowed := true }
def NibbleBackUptoSaid : Prop := nibbleBackUptoRow.holds Try.pinned (OpenSpec.upto nibbleBackSpec)

/-- 'ecclesialaw09.NibbleShared', WHERE WHAT IT READS IS OF BULK AT MOST 1048576: true; the input reads as it did. -/
def nibbleSharedUptoRow : OpenClaim := { program := "ytafamhkdklkfiaa", sum := "a04d13032bdd7c4bce32281528a008ef2860b21b460c6422e180cd757c2a7c16", func := "ecclesia/ecclesialaw09.NibbleShared", spec := "nibbleShared", apart := false, narrowed := true }
def NibbleSharedUptoSaid : Prop := nibbleSharedUptoRow.holds Try.pinned (OpenSpec.upto nibbleSharedSpec)

end Rows
end Go.Proofs.Ytafamhkdklkfiaa
