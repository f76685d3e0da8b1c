/-
  No cell of these rows narrows 'for every input' (looked for: loops, veiled, ifaces, maps, wideKeys, modest, calm, conditions, laid).
  DERIVED. THE GIVEN ROWS OF THIS SEAT. 5 by the template 'for every input the law returns true; each argument reads behind the call as it read before'; 0 by the template 'total and deterministic' (their statements: YtdaeahhkiilbaaaTotals.lean).
  GIVEN WITH THE SEED: the statements are not yours to turn. If you find one false, say at which input.
  Laid BY PROGRAM, IN A SANDBOX (cutbox-rows.mjs): the forced cells as the released guide's own fill.sh prints them over the translation cd843073342d1fea… (all of the seat's roots in one cut). By AI agents, Wed Nov 11 2026. No macro, syntax, notation, axiom, sorry.
-/
import Derived.Test.YtdaeahhkiilbaaaChecked
import GoSem.Claim
import GoSem.ClaimJoined
import GoSem.ClaimMapViews
import Derived.JoinedTies
import Derived.KernelRfl
namespace Go.Proofs.Ytdaeahhkiilbaaa
/- THE CELL 'sum', in the pinned program and in every row, IS THE sha256 OF THE DUMP (.gsa) THAT YtdaeahhkiilbaaaProg.lean LOADS. Nothing in Lean hashes anything: it is a label: what it is worth is what the hold of that sum in a sandbox is worth. -/
noncomputable def Try.pinned : Pinned := { name := "ytdaeahhkiilbaaa", sum := "cd843073342d1fea363578c5880157912061fab1d7e7bac67c0534afdbe6fe55", checked := Try.checked }
namespace Rows
def none {H : Type} : Left H := { results := [], args := [] }

/-- 'ecclesialaw20.VsetCounts': WHATEVER THE INPUT: true; the input reads as it did. -/
def vsetCountsSpec : ChangeSpec := { name := "vsetCounts", fn := fun _ => fun
  | [d1, d2, d3, d4] => { results := [.lit (.bool true)], args := [d1, d2, d3, d4] }
  | _ => none }
def vsetCountsRow : OpenClaim := { program := "ytdaeahhkiilbaaa", sum := "cd843073342d1fea363578c5880157912061fab1d7e7bac67c0534afdbe6fe55", func := "ecclesia/ecclesialaw20.VsetCounts", spec := "vsetCounts", apart := false }
def VsetCountsSaid : Prop := vsetCountsRow.holds Try.pinned (OpenSpec.ofChange vsetCountsSpec)

/-- ITS FALSE NEIGHBOUR: 'it returns false'. Refute it at one input. -/
def vsetCountsWrong : ChangeSpec := { name := "vsetCounts", fn := fun _ => fun
  | [d1, d2, d3, d4] => { results := [.lit (.bool false)], args := [d1, d2, d3, d4] }
  | _ => none }
def VsetCountsWrongFalsely : Prop := vsetCountsRow.holds Try.pinned (OpenSpec.ofChange vsetCountsWrong)

/-- 'ecclesialaw20.VsetNext': WHATEVER THE INPUT: true; the input reads as it did. -/
def vsetNextSpec : ChangeSpec := { name := "vsetNext", fn := fun _ => fun
  | [d1, d2, d3, d4] => { results := [.lit (.bool true)], args := [d1, d2, d3, d4] }
  | _ => none }
def vsetNextRow : OpenClaim := { program := "ytdaeahhkiilbaaa", sum := "cd843073342d1fea363578c5880157912061fab1d7e7bac67c0534afdbe6fe55", func := "ecclesia/ecclesialaw20.VsetNext", spec := "vsetNext", inPlace := ["math/bits.Sub64", "math/bits.Add64", "slices.overlaps[ecclesia/api.Ballot]", "slices.overlaps[string]"], unfollowed := true, recurses := true, apart := false }
def VsetNextSaid : Prop := vsetNextRow.holds Try.pinned (OpenSpec.ofChange vsetNextSpec)

/-- ITS FALSE NEIGHBOUR: 'it returns false'. Refute it at one input. -/
def vsetNextWrong : ChangeSpec := { name := "vsetNext", fn := fun _ => fun
  | [d1, d2, d3, d4] => { results := [.lit (.bool false)], args := [d1, d2, d3, d4] }
  | _ => none }
def VsetNextWrongFalsely : Prop := vsetNextRow.holds Try.pinned (OpenSpec.ofChange vsetNextWrong)

/-- 'ecclesialaw20.VsetQuorums': WHATEVER THE INPUT: true; the input reads as it did. -/
def vsetQuorumsSpec : ChangeSpec := { name := "vsetQuorums", fn := fun _ => fun
  | [d1, d2, d3] => { results := [.lit (.bool true)], args := [d1, d2, d3] }
  | _ => none }
def vsetQuorumsRow : OpenClaim := { program := "ytdaeahhkiilbaaa", sum := "cd843073342d1fea363578c5880157912061fab1d7e7bac67c0534afdbe6fe55", func := "ecclesia/ecclesialaw20.VsetQuorums", spec := "vsetQuorums", apart := false }
def VsetQuorumsSaid : Prop := vsetQuorumsRow.holds Try.pinned (OpenSpec.ofChange vsetQuorumsSpec)

/-- ITS FALSE NEIGHBOUR: 'it returns false'. Refute it at one input. -/
def vsetQuorumsWrong : ChangeSpec := { name := "vsetQuorums", fn := fun _ => fun
  | [d1, d2, d3] => { results := [.lit (.bool false)], args := [d1, d2, d3] }
  | _ => none }
def VsetQuorumsWrongFalsely : Prop := vsetQuorumsRow.holds Try.pinned (OpenSpec.ofChange vsetQuorumsWrong)

/-- 'ecclesialaw20.VsetParts': WHATEVER THE INPUT: true; the input reads as it did. -/
def vsetPartsSpec : ChangeSpec := { name := "vsetParts", fn := fun _ => fun
  | [d1, d2, d3, d4] => { results := [.lit (.bool true)], args := [d1, d2, d3, d4] }
  | _ => none }
def vsetPartsRow : OpenClaim := { program := "ytdaeahhkiilbaaa", sum := "cd843073342d1fea363578c5880157912061fab1d7e7bac67c0534afdbe6fe55", func := "ecclesia/ecclesialaw20.VsetParts", spec := "vsetParts", inPlace := ["math/bits.Sub64", "math/bits.Add64", "slices.overlaps[ecclesia/api.Ballot]", "slices.overlaps[string]"], unfollowed := true, recurses := true, apart := false }
def VsetPartsSaid : Prop := vsetPartsRow.holds Try.pinned (OpenSpec.ofChange vsetPartsSpec)

/-- ITS FALSE NEIGHBOUR: 'it returns false'. Refute it at one input. -/
def vsetPartsWrong : ChangeSpec := { name := "vsetParts", fn := fun _ => fun
  | [d1, d2, d3, d4] => { results := [.lit (.bool false)], args := [d1, d2, d3, d4] }
  | _ => none }
def VsetPartsWrongFalsely : Prop := vsetPartsRow.holds Try.pinned (OpenSpec.ofChange vsetPartsWrong)

/-- 'ecclesialaw20.VsetTurns': WHATEVER THE INPUT: true; the input reads as it did. -/
def vsetTurnsSpec : ChangeSpec := { name := "vsetTurns", fn := fun _ => fun
  | [d1, d2, d3] => { results := [.lit (.bool true)], args := [d1, d2, d3] }
  | _ => none }
def vsetTurnsRow : OpenClaim := { program := "ytdaeahhkiilbaaa", sum := "cd843073342d1fea363578c5880157912061fab1d7e7bac67c0534afdbe6fe55", func := "ecclesia/ecclesialaw20.VsetTurns", spec := "vsetTurns", apart := false }
def VsetTurnsSaid : Prop := vsetTurnsRow.holds Try.pinned (OpenSpec.ofChange vsetTurnsSpec)

/-- ITS FALSE NEIGHBOUR: 'it returns false'. Refute it at one input. -/
def vsetTurnsWrong : ChangeSpec := { name := "vsetTurns", fn := fun _ => fun
  | [d1, d2, d3] => { results := [.lit (.bool false)], args := [d1, d2, d3] }
  | _ => none }
def VsetTurnsWrongFalsely : Prop := vsetTurnsRow.holds Try.pinned (OpenSpec.ofChange vsetTurnsWrong)

/- THE SECOND FORM. 'bulk': how many values and letters a reading holds, each counted each time it is reached (what is shared counts as often as it is met; a slice's spare places count too). A statement '..UptoSaid' is the law's where the arguments, and the package variables that the reading takes, are together of bulk at most 1048576: NARROWER than '..Said'. Prove '..Said' where nothing that the law and all that it calls make is longer than what came in: it says more and counts as full. Else prove '..UptoSaid'. A law counts once. -/
mutual
def uptoBulk {H : Type} : DataW H → Nat
  | .lit (.string bytes) => bytes.length + 1
  | .lit _ => 1
  | .nil => 1
  | .ptr d => uptoBulk d + 1
  | .slice elems spare => uptoBulkAll elems + uptoBulkAll spare + 1
  | .agg parts => uptoBulkAll parts + 1
  | .iface _ d => uptoBulk d + 1
  | .map entries => uptoBulkEntries entries + 1
  | .held _ => 1
def uptoBulkAll {H : Type} : List (DataW H) → Nat
  | [] => 0
  | d :: r => uptoBulk d + uptoBulkAll r
def uptoBulkEntries {H : Type} : List (Lit × DataW H) → Nat
  | [] => 0
  | x :: r => uptoBulkEntry x + uptoBulkEntries r
def uptoBulkEntry {H : Type} : Lit × DataW H → Nat
  | (.string bytes, d) => bytes.length + uptoBulk d + 1
  | (_, d) => uptoBulk d + 1
 end
def uptoSmall : (H : Type) → List (DataW H) → Bool := fun _ ds => decide (uptoBulkAll ds ≤ 1048576)
def OpenSpec.upto (s : _root_.Go.ChangeSpec) : _root_.Go.OpenSpec := { _root_.Go.OpenSpec.ofChange s with cond := some uptoSmall }

/-- 'ecclesialaw20.VsetCounts', WHERE WHAT IT READS IS OF BULK AT MOST 1048576: true; the input reads as it did. -/
def vsetCountsUptoRow : OpenClaim := { program := "ytdaeahhkiilbaaa", sum := "cd843073342d1fea363578c5880157912061fab1d7e7bac67c0534afdbe6fe55", func := "ecclesia/ecclesialaw20.VsetCounts", spec := "vsetCounts", apart := false, narrowed := true }
def VsetCountsUptoSaid : Prop := vsetCountsUptoRow.holds Try.pinned (OpenSpec.upto vsetCountsSpec)

/-- 'ecclesialaw20.VsetNext', WHERE WHAT IT READS IS OF BULK AT MOST 1048576: true; the input reads as it did. -/
def vsetNextUptoRow : OpenClaim := { program := "ytdaeahhkiilbaaa", sum := "cd843073342d1fea363578c5880157912061fab1d7e7bac67c0534afdbe6fe55", func := "ecclesia/ecclesialaw20.VsetNext", spec := "vsetNext", inPlace := ["math/bits.Sub64", "math/bits.Add64", "slices.overlaps[ecclesia/api.Ballot]", "slices.overlaps[string]"], unfollowed := true, recurses := true, apart := false, narrowed := true }
def VsetNextUptoSaid : Prop := vsetNextUptoRow.holds Try.pinned (OpenSpec.upto vsetNextSpec)

/-- 'ecclesialaw20.VsetQuorums', WHERE WHAT IT READS IS OF BULK AT MOST 1048576: true; the input reads as it did. -/
def vsetQuorumsUptoRow : OpenClaim := { program := "ytdaeahhkiilbaaa", sum := "cd843073342d1fea363578c5880157912061fab1d7e7bac67c0534afdbe6fe55", func := "ecclesia/ecclesialaw20.VsetQuorums", spec := "vsetQuorums", apart := false, narrowed := true }
def VsetQuorumsUptoSaid : Prop := vsetQuorumsUptoRow.holds Try.pinned (OpenSpec.upto vsetQuorumsSpec)

/-- 'ecclesialaw20.VsetParts', WHERE WHAT IT READS IS OF BULK AT MOST 1048576: true; the input reads as it did. -/
def vsetPartsUptoRow : OpenClaim := { program := "ytdaeahhkiilbaaa", sum := "cd843073342d1fea363578c5880157912061fab1d7e7bac67c0534afdbe6fe55", func := "ecclesia/ecclesialaw20.VsetParts", spec := "vsetParts", inPlace := ["math/bits.Sub64", "math/bits.Add64", "slices.overlaps[ecclesia/api.Ballot]", "slices.overlaps[string]"], unfollowed := true, recurses := true, apart := false, narrowed := true }
def VsetPartsUptoSaid : Prop := vsetPartsUptoRow.holds Try.pinned (OpenSpec.upto vsetPartsSpec)

/-- 'ecclesialaw20.VsetTurns', WHERE WHAT IT READS IS OF BULK AT MOST 1048576: true; the input reads as it did. -/
def vsetTurnsUptoRow : OpenClaim := { program := "ytdaeahhkiilbaaa", sum := "cd843073342d1fea363578c5880157912061fab1d7e7bac67c0534afdbe6fe55", func := "ecclesia/ecclesialaw20.VsetTurns", spec := "vsetTurns", apart := false, narrowed := true }
def VsetTurnsUptoSaid : Prop := vsetTurnsUptoRow.holds Try.pinned (OpenSpec.upto vsetTurnsSpec)

end Rows
end Go.Proofs.Ytdaeahhkiilbaaa
