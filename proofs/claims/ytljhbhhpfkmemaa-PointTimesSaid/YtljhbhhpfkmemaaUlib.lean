/-
  The numbers' calls, as the steps ask them; '==' of two numbers.
-/
import Derived.Test.YtljhbhhpfkmemaaDraw
import Derived.Test.YtljhbhhpfkmemaaMulWalk
import Derived.Test.YtljhbhhpfkmemaaLenMath
import Derived.Test.YtljhbhhpfkmemaaCmp
import Derived.Test.YtljhbhhpfkmemaaEq
namespace Go.Proofs.Ytljhbhhpfkmemaa
open Go Go.RowKit
set_option linter.unusedVariables false
theorem add_fn (A B : Nat) (hA : A < big) (hB : B < big) : Fn Try.prog 18 #[uv A, uv B] (.tuple #[uv (sm A B), .bool (ov A B)]) := add_any A B hA hB
theorem sub_fn (A B : Nat) (hA : A < big) (hB : B < big) : Fn Try.prog 50 #[uv A, uv B] (.tuple #[uv (df A B), .bool (lo A B)]) := sub_any A B hA hB
theorem mul_fn (A B : Nat) (hA : A < big) (hB : B < big) : Fn Try.prog 43 #[uv A, uv B] (.tuple #[uv (pl A B), uv (ph A B)]) := mul_any A B hA hB
theorem cmp_fn (A B : Nat) (hA : A < big) (hB : B < big) : Fn Try.prog 51 #[uv A, uv B] (.int .i64 (cm A B)) := cmp_any A B hA hB
theorem small_fn (n : Nat) (h : n < 18446744073709551616) : Fn Try.prog 44 #[.int .u64 (n : Int)] (uv n) := fun w => (small_any n w).mono fun e w' ⟨he, hb⟩ => ⟨by
  rw [he]
  have e0 : w0 n = (n : Int) := by unfold w0; omega
  have e1 : w1 n = 0 := by unfold w1; omega
  have e2 : w2 n = 0 := by unfold w2; omega
  have e3 : w3 n = 0 := by unfold w3; omega
  unfold uv; rw [e0, e1, e2, e3], hb⟩
theorem bit_fn (A : Nat) (i : Int) : Fn Try.prog 62 #[uv A, .int .i64 i] (.bool (bt A i)) := bit_any A i
theorem len_fn (A : Nat) (hA : A < big) : Fn Try.prog 70 #[uv A] (.int .i64 (len A : Int)) := fun w => by
  have := len_any A w
  rwa [lenOf_eq A hA] at this
theorem uv_words {A B : Nat} (hA : A < big) (hB : B < big) : (w0 A == w0 B && (w1 A == w1 B && (w2 A == w2 B && w3 A == w3 B))) = decide (A = B) := by
  rw [Bool.eq_iff_iff]
  simp only [Bool.and_eq_true, beq_iff_eq, decide_eq_true_eq]
  exact ⟨fun ⟨a, b, c, d⟩ => words_inj hA hB a b c d, fun h => by subst h; exact ⟨rfl, rfl, rfl, rfl⟩⟩
/-- '==' of two numbers. -/
theorem eqU_run {ρ : Env} (A B : Nat) (hA : A < big) (hB : B < big) {x y : Operand} {o : Oper} (w : World) (ho : o.op = .binOp .eql 24 x y 24) (hx : ev ρ x = uv A) (hy : ev ρ y = uv B) :
    (execOp (ev ρ) o).run Try.prog w = .ok (.value (.bool (decide (A = B)))) w := by
  have q := eqU
  unfold execOp
  simp only [ho, hx, hy]
  go_simp
  exact uv_words hA hB
theorem neU_run {ρ : Env} (A B : Nat) (hA : A < big) (hB : B < big) {x y : Operand} {o : Oper} (w : World) (ho : o.op = .binOp .neq 24 x y 24) (hx : ev ρ x = uv A) (hy : ev ρ y = uv B) :
    (execOp (ev ρ) o).run Try.prog w = .ok (.value (.bool (!decide (A = B)))) w := by
  have q := eqU
  have e := uv_words hA hB
  unfold execOp
  simp only [ho, hx, hy]
  go_simp
end Go.Proofs.Ytljhbhhpfkmemaa
