/-
  The contract of alive.
-/
import Derived.Test.YthomanpefekaaaaEq
namespace Go.Proofs.Ythomanpefekaaaa
open Go.ChangeShapes Go.WideShapes Go.ChangeAt Go.RowKit
set_option linter.unusedVariables false

theorem add_12 (w : World) : Calls Try.prog 21 #[.agg #[.int .u64 1, .int .u64 0, .int .u64 0, .int .u64 0], .agg #[.int .u64 2, .int .u64 0, .int .u64 0, .int .u64 0]] w fun e w' => e = .returned (.tuple #[.agg #[.int .u64 3, .int .u64 0, .int .u64 0, .int .u64 0], .bool false]) ∧ Below w.heap.size w w' :=
  add_any 1 2 (by decide) (by decide) w

set_option maxHeartbeats 400000 in
theorem alive_any (w : World) : Calls Try.prog 8 #[] w fun e w' => e = .returned (.bool true) ∧ Below w.heap.size w w' := by
  have q := eqU_self
  go_enter Try.func8, Try.ntmps8
  go_wp2_with fail
  refine (small_any _ _).mono ?_
  rintro e v1 ⟨rfl, b1⟩
  go_wp2_with fail
  refine (small_any _ _).mono ?_
  rintro e v2 ⟨rfl, b2⟩
  go_wp2_with fail
  refine (add_12 _).mono ?_
  rintro e v3 ⟨rfl, b3⟩
  go_wp2
  go_ret
  exact ⟨rfl, (b1.trans (b2.mono b1.size)).trans (((b3.mono (Nat.le_trans b1.size b2.size))).alloc (Nat.le_trans b1.size (Nat.le_trans b2.size b3.size)) _)⟩
end Go.Proofs.Ythomanpefekaaaa
