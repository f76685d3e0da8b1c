/-
  '==' of two numbers of four words.
-/
import Derived.Test.YtljhbhhpfkmemaaWords
namespace Go.Proofs.Ytljhbhhpfkmemaa
open Go.ChangeShapes Go.WideShapes Go.ChangeAt Go.RowKit
set_option linter.unusedVariables false

theorem eqU_any (d : Nat) (a0 a1 a2 a3 b0 b1 b2 b3 : Int) (w : World) :
    (Op.equalIn (d + 2) 24 (.agg #[.int .u64 a0, .int .u64 a1, .int .u64 a2, .int .u64 a3]) (.agg #[.int .u64 b0, .int .u64 b1, .int .u64 b2, .int .u64 b3])).run Try.prog w
      = .ok (a0 == b0 && (a1 == b1 && (a2 == b2 && a3 == b3))) w := by
  have e : ∀ x y : Int, (Op.equalIn (d + 1) 22 (.int .u64 x) (.int .u64 y)).run Try.prog w = .ok (x == y) w := fun x y => run_equalIn_int w d 22 .u64 .u64 x y Try.underlying22
  have s : (sizeOf 22).run Try.prog w = .ok 1 w := by kernel_rfl
  have p0 : ∀ x y z u : Int, (part 22 #[.int .u64 x, .int .u64 y, .int .u64 z, .int .u64 u] 0).run Try.prog w = .ok (.int .u64 x) w := fun x y z u => by kernel_rfl
  have p1 : ∀ x y z u : Int, (part 22 #[.int .u64 x, .int .u64 y, .int .u64 z, .int .u64 u] 1).run Try.prog w = .ok (.int .u64 y) w := fun x y z u => by kernel_rfl
  have p2 : ∀ x y z u : Int, (part 22 #[.int .u64 x, .int .u64 y, .int .u64 z, .int .u64 u] 2).run Try.prog w = .ok (.int .u64 z) w := fun x y z u => by kernel_rfl
  have p3 : ∀ x y z u : Int, (part 22 #[.int .u64 x, .int .u64 y, .int .u64 z, .int .u64 u] 3).run Try.prog w = .ok (.int .u64 u) w := fun x y z u => by kernel_rfl
  rw [Op.equalIn]
  simp only [Sem.run_bind, run_underlying Try.underlying24, Result.andThen_ok, s, Std.Legacy.Range.forIn_eq_forIn_range', Std.Legacy.Range.size]
  simp only [show (4 - 0 + 1 - 1) / 1 = 4 from rfl, List.range', List.forIn_cons, List.forIn_nil]
  cases c0 : (a0 == b0)
  · simp [p0, e, c0]
  · cases c1 : (a1 == b1)
    · simp [p0, p1, e, c0, c1]
    · cases c2 : (a2 == b2)
      · simp [p0, p1, p2, e, c0, c1, c2]
      · cases c3 : (a3 == b3)
        · simp [p0, p1, p2, p3, e, c0, c1, c2, c3]
        · simp [p0, p1, p2, p3, e, c0, c1, c2, c3]

/-- In the form in which the walk asks it. -/
theorem eqU (a0 a1 a2 a3 b0 b1 b2 b3 : Int) (w : World) :
    (Op.equalIn 10000 24 (.agg #[.int .u64 a0, .int .u64 a1, .int .u64 a2, .int .u64 a3]) (.agg #[.int .u64 b0, .int .u64 b1, .int .u64 b2, .int .u64 b3])).run Try.prog w
      = .ok (a0 == b0 && (a1 == b1 && (a2 == b2 && a3 == b3))) w := eqU_any 9998 a0 a1 a2 a3 b0 b1 b2 b3 w
/-- A number is itself. -/
theorem eqU_self (a0 a1 a2 a3 : Int) (w : World) :
    (Op.equalIn 10000 24 (.agg #[.int .u64 a0, .int .u64 a1, .int .u64 a2, .int .u64 a3]) (.agg #[.int .u64 a0, .int .u64 a1, .int .u64 a2, .int .u64 a3])).run Try.prog w
      = .ok true w := by rw [eqU]; simp
end Go.Proofs.Ytljhbhhpfkmemaa
