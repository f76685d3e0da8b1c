/-
  The contracts of u256.Small, u256.Add and u256.Sub.
-/
import Derived.Test.YtljhbhhpfkmemaaProg
import Derived.WalkKit
import Derived.ProofKit
import Derived.OpenShut
import Derived.Handy
import Derived.WalkLawsBesides
import Derived.Shelf.Spec.BitsCarry
import Derived.Test.YtljhbhhpfkmemaaMath
namespace Go.Proofs.Ytljhbhhpfkmemaa
open Go.ChangeShapes Go.WideShapes Go.ChangeAt Go.RowKit
set_option linter.unusedVariables false

@[reducible] def uv (n : Nat) : Value := .agg #[.int .u64 (w0 n), .int .u64 (w1 n), .int .u64 (w2 n), .int .u64 (w3 n)]

theorem add64_ex {x y c : Int} (hx : Wd x) (hy : Wd y) (hc : Bt c) : ∃ s d, (∀ w, (callFunc 42 #[.int .u64 x, .int .u64 y, .int .u64 c]).run Try.prog w = .ok (.value (.tuple #[.int .u64 s, .int .u64 d])) w) ∧ AddS x y c s d := by
  obtain ⟨hx0, hx1⟩ := hx; obtain ⟨hy0, hy1⟩ := hy; obtain ⟨hc0, hc1⟩ := hc
  obtain ⟨X, rfl⟩ := Int.eq_ofNat_of_zero_le hx0
  obtain ⟨Y, rfl⟩ := Int.eq_ofNat_of_zero_le hy0
  obtain ⟨C, rfl⟩ := Int.eq_ofNat_of_zero_le hc0
  refine ⟨(((X + Y + C) % 18446744073709551616 : Nat) : Int), (((X + Y + C) / 18446744073709551616 : Nat) : Int), fun w => ?_, ?_⟩
  · rw [run_callFunc_extern Try.func42 (by kernel_rfl) (by kernel_rfl) (by kernel_rfl) (e := add64Entry) (by kernel_rfl), run_add64 X Y C (by omega) (by omega) (by omega) (by omega)]
    simp only [Result.andThen]
    congr 5 <;> omega
  · unfold AddS Wd Bt; omega

theorem sub64_ex {x y c : Int} (hx : Wd x) (hy : Wd y) (hc : Bt c) : ∃ s d, (∀ w, (callFunc 64 #[.int .u64 x, .int .u64 y, .int .u64 c]).run Try.prog w = .ok (.value (.tuple #[.int .u64 s, .int .u64 d])) w) ∧ SubS x y c s d := by
  obtain ⟨hx0, hx1⟩ := hx; obtain ⟨hy0, hy1⟩ := hy; obtain ⟨hc0, hc1⟩ := hc
  obtain ⟨X, rfl⟩ := Int.eq_ofNat_of_zero_le hx0
  obtain ⟨Y, rfl⟩ := Int.eq_ofNat_of_zero_le hy0
  obtain ⟨C, rfl⟩ := Int.eq_ofNat_of_zero_le hc0
  refine ⟨(((X + 18446744073709551616 - Y - C) % 18446744073709551616 : Nat) : Int), ((if X < Y + C then 1 else 0 : Nat) : Int), fun w => ?_, ?_⟩
  · rw [run_callFunc_extern Try.func64 (by kernel_rfl) (by kernel_rfl) (by kernel_rfl) (e := sub64Entry) (by kernel_rfl), run_sub64 X Y C (by omega)]
    rfl
  · unfold SubS Wd Bt; split <;> omega

theorem ix0 (x0 x1 x2 x3 : Value) (w : World) : (Instr.index 24 (.agg #[x0, x1, x2, x3]) (.int .i64 0)).run Try.prog w = .ok x0 w := by kernel_rfl
theorem ix1 (x0 x1 x2 x3 : Value) (w : World) : (Instr.index 24 (.agg #[x0, x1, x2, x3]) (.int .i64 1)).run Try.prog w = .ok x1 w := by kernel_rfl
theorem ix2 (x0 x1 x2 x3 : Value) (w : World) : (Instr.index 24 (.agg #[x0, x1, x2, x3]) (.int .i64 2)).run Try.prog w = .ok x2 w := by kernel_rfl
theorem ix3 (x0 x1 x2 x3 : Value) (w : World) : (Instr.index 24 (.agg #[x0, x1, x2, x3]) (.int .i64 3)).run Try.prog w = .ok x3 w := by kernel_rfl

set_option maxHeartbeats 400000 in
theorem small_any (n : Int) (w : World) : Calls Try.prog 44 #[.int .u64 n] w fun e w' => e = .returned (.agg #[.int .u64 n, .int .u64 0, .int .u64 0, .int .u64 0]) ∧ Below w.heap.size w w' := by
  go_enter Try.func44, Try.ntmps44
  go_wp2
  go_returns
  exact ⟨rfl, by go_grown⟩

set_option maxHeartbeats 1000000 in
theorem add_any (A B : Nat) (hA : A < big) (hB : B < big) (w : World) : Calls Try.prog 18 #[uv A, uv B] w fun e w' => e = .returned (.tuple #[uv (sm A B), .bool (ov A B)]) ∧ Below w.heap.size w w' := by
  obtain ⟨s0, c0, r0, e0⟩ := add64_ex (wd0 A) (wd0 B) (c := 0) (by unfold Bt; omega)
  obtain ⟨s1, c1, r1, e1⟩ := add64_ex (wd1 A) (wd1 B) e0.2.2
  obtain ⟨s2, c2, r2, e2⟩ := add64_ex (wd2 A) (wd2 B) e1.2.2
  obtain ⟨s3, c3, r3, e3⟩ := add64_ex (wd3 A) (wd3 B) e2.2.2
  obtain ⟨⟨q0, q1, q2, q3⟩, q4⟩ := add_words hA hB e0 e1 e2 e3
  clear e0 e1 e2 e3
  unfold uv
  rw [← q0, ← q1, ← q2, ← q3, ← q4]
  clear q0 q1 q2 q3 q4
  have i0 := ix0; have i1 := ix1; have i2 := ix2; have i3 := ix3
  go_enter Try.func18, Try.ntmps18
  go_wp2
  go_rounds 5
  go_returns
  exact ⟨rfl, by go_grown⟩

set_option maxHeartbeats 1000000 in
theorem sub_any (A B : Nat) (hA : A < big) (hB : B < big) (w : World) : Calls Try.prog 50 #[uv A, uv B] w fun e w' => e = .returned (.tuple #[uv (df A B), .bool (lo A B)]) ∧ Below w.heap.size w w' := by
  obtain ⟨s0, c0, r0, e0⟩ := sub64_ex (wd0 A) (wd0 B) (c := 0) (by unfold Bt; omega)
  obtain ⟨s1, c1, r1, e1⟩ := sub64_ex (wd1 A) (wd1 B) e0.2.2
  obtain ⟨s2, c2, r2, e2⟩ := sub64_ex (wd2 A) (wd2 B) e1.2.2
  obtain ⟨s3, c3, r3, e3⟩ := sub64_ex (wd3 A) (wd3 B) e2.2.2
  obtain ⟨⟨q0, q1, q2, q3⟩, q4⟩ := sub_words hA hB e0 e1 e2 e3
  clear e0 e1 e2 e3
  unfold uv
  rw [← q0, ← q1, ← q2, ← q3, ← q4]
  clear q0 q1 q2 q3 q4
  have i0 := ix0; have i1 := ix1; have i2 := ix2; have i3 := ix3
  go_enter Try.func50, Try.ntmps50
  go_wp2
  go_rounds 5
  go_returns
  exact ⟨rfl, by go_grown⟩
end Go.Proofs.Ytljhbhhpfkmemaa
