/-
  What the walks of the division ask of words.
-/
import Derived.Test.YthomanpefekaaaaStr
import Derived.Test.YthomanpefekaaaaUlib
import Derived.Test.YthomanpefekaaaaModM
import Derived.Test.YthomanpefekaaaaRefM
namespace Go.Proofs.Ythomanpefekaaaa
open Go Go.RowKit
set_option linter.unusedVariables false
theorem modAdd {a b : Nat} : IntKind.u64.wrap ((a : Int) + (b : Int)) = (((a + b) % 18446744073709551616 : Nat) : Int) := by rw [wr_u64]; omega
theorem modMul {a b : Nat} : IntKind.u64.wrap ((a : Int) * (b : Int)) = ((a * b % 18446744073709551616 : Nat) : Int) := by rw [wr_u64, ← Int.natCast_mul]; omega
theorem modSub {a b : Nat} (h : b ≤ 18446744073709551616) : IntKind.u64.wrap ((a : Int) - (b : Int)) = (((a + 18446744073709551616 - b) % 18446744073709551616 : Nat) : Int) := by rw [wr_u64]; omega
theorem shl0 {a : Nat} (h : a < 18446744073709551616) : IntKind.u64.wrap ((a : Int) * 2 ^ 0) = (a : Int) := by rw [Int.pow_zero, Int.mul_one]; exact wrap_u64 (by omega) (by omega)
theorem shr0 {a : Nat} (h : a < 18446744073709551616) : Int.fdiv (a : Int) (2 ^ 0) = (a : Int) := by rw [Int.pow_zero, Int.fdiv_one]
theorem shlN (a s : Nat) : IntKind.u64.wrap ((a : Int) * 2 ^ (min s 64)) = ((a * 2 ^ s % 18446744073709551616 : Nat) : Int) := by rw [wr_u64]; exact shl_mod a s 64 18446744073709551616 rfl
theorem and32 {a : Nat} (h : a < 18446744073709551616) : Go.bits .and .u64 (a : Int) 4294967295 = ((a % 4294967296 : Nat) : Int) := by
  have := u64_and_nat a 4294967295 h (by omega)
  rw [Nat.and_two_pow_sub_one_eq_mod a 32] at this
  exact this
theorem or_zero (a : Nat) : a ||| 0 = a := Nat.or_zero a
theorem add64_runC (x y c : Nat) (hx : x < 18446744073709551616) (hy : y < 18446744073709551616) (hc : c ≤ 1) : ∀ w, (callFunc 43 #[.int .u64 ((x : Nat) : Int), .int .u64 ((y : Nat) : Int), .int .u64 ((c : Nat) : Int)]).run Try.prog w = .ok (.value (.tuple #[.int .u64 (((x + y + c) % 18446744073709551616 : Nat) : Int), .int .u64 (((x + y + c) / 18446744073709551616 : Nat) : Int)])) w := fun w => by
  rw [run_callFunc_extern Try.func43 (by kernel_rfl) (by kernel_rfl) (by kernel_rfl) (e := add64Entry) (by kernel_rfl), run_add64 x y c (by omega) (by omega) (by omega) (by omega)]
  simp only [Result.andThen]
  congr 5 <;> omega
theorem add64_run (x y : Nat) (hx : x < 18446744073709551616) (hy : y < 18446744073709551616) : ∀ w, (callFunc 43 #[.int .u64 ((x : Nat) : Int), .int .u64 ((y : Nat) : Int), .int .u64 0]).run Try.prog w = .ok (.value (.tuple #[.int .u64 (((x + y) % 18446744073709551616 : Nat) : Int), .int .u64 (((x + y) / 18446744073709551616 : Nat) : Int)])) w := add64_runC x y 0 hx hy (by omega)
theorem bitLen_top (y : Nat) (h1 : 9223372036854775808 ≤ y) (h2 : y < 18446744073709551616) : Lib.bitLen y = 64 := by
  obtain ⟨a, b⟩ := bitLen_spec 64 y h2 (Nat.le_refl _)
  obtain ⟨b1, b2⟩ := b (by omega)
  rcases Nat.lt_or_ge (Lib.bitLen y) 64 with h | h
  · have : 2 ^ Lib.bitLen y ≤ 2 ^ 63 := Nat.pow_le_pow_right (by omega) (by omega)
    omega
  · rcases Nat.lt_or_ge 64 (Lib.bitLen y) with h3 | h3
    · have : 2 ^ 64 ≤ 2 ^ (Lib.bitLen y - 1) := Nat.pow_le_pow_right (by omega) (by omega)
      omega
    · omega
theorem len64_top (y : Nat) (h1 : 9223372036854775808 ≤ y) (h2 : y < 18446744073709551616) : Fn Try.prog 41 #[.int .u64 ((y : Nat) : Int)] (.int .i64 64) := fun w =>
  (len64_any (x := (y : Int)) ⟨by omega, by omega⟩ w).mono fun e w' ⟨he, hw⟩ => ⟨by
    rw [he]; unfold lw; rw [Int.toNat_natCast, bitLen_top y h1 h2]; rfl, by subst hw; exact Below.refl _ _⟩
theorem mul64_fn (x y : Nat) (hx : x < 18446744073709551616) (hy : y < 18446744073709551616) : Fn Try.prog 44 #[.int .u64 ((x : Nat) : Int), .int .u64 ((y : Nat) : Int)] (.tuple #[.int .u64 ((x * y / 18446744073709551616 : Nat) : Int), .int .u64 ((x * y % 18446744073709551616 : Nat) : Int)]) := fun w =>
  (mul64_nat x y hx hy w).mono fun e w' ⟨he, hw⟩ => ⟨he, by subst hw; exact Below.refl _ _⟩
/-- What is left, modulo 2^64. -/
theorem sub_mods {T S M : Nat} (hM : 0 < M) (h : S ≤ T) : (T % M + M - S % M) % M = (T - S) % M := by
  have h1 := Nat.div_add_mod T M; have h2 := Nat.div_add_mod S M
  have h3 := Nat.mod_lt T hM; have h4 := Nat.mod_lt S hM
  have h5 : S / M ≤ T / M := Nat.div_le_div_right h
  have e : T - S + M * (S / M) + M = (T % M + M - S % M) + M * (T / M) := by omega
  have e1 : (T - S) % M = (T - S + M * (S / M) + M) % M := by rw [Nat.add_mod_right, Nat.add_mul_mod_self_left]
  rw [e1, e, Nat.add_mul_mod_self_left]
theorem left_mods {u e q y : Nat} (hy : 0 < y) (hy2 : y < 18446744073709551616) (hq : q = (u * 4294967296 + e) / y) :
    (((u * 4294967296 % 18446744073709551616 + e) % 18446744073709551616) + 18446744073709551616 - q * y % 18446744073709551616) % 18446744073709551616 = (u * 4294967296 + e) % y := by
  have hd := Nat.div_add_mod (u * 4294967296 + e) y
  have hl := Nat.mod_lt (u * 4294967296 + e) hy
  rw [← hq, Nat.mul_comm] at hd
  rw [Nat.mod_add_mod, sub_mods (by omega) (by omega)]
  rw [show u * 4294967296 + e - q * y = (u * 4294967296 + e) % y by omega]
  exact Nat.mod_eq_of_lt (by omega)
def extOp (f : Nat) (args : Array Operand) (ts : Array TypeId) : Op := .call { callee := .value (.func f), args := args, argTypes := ts }
theorem ext_run {P : Program} {ρ : Env} {f : Nat} {args : Array Operand} {ts : Array TypeId} {vals : Array Value} {v : Value} (hv : args.map (ev ρ) = vals) (hc : ∀ w, (callFunc f vals).run P w = .ok (.value v) w) :
    ∀ (o : Oper) w, o.op = extOp f args ts → (execOp (ev ρ) o).run P w = .ok (.value v) w := fun o w ho => by
  rw [run_ext (c := { callee := .value (.func f), args := args, argTypes := ts }) (x := .func f) (f := f) (args := vals) ho rfl rfl hv]; exact hc w
theorem prod_words {A f : Nat} (hA : A < big) : A * f = (A % 18446744073709551616) * f + 18446744073709551616 * ((A / 18446744073709551616 % 18446744073709551616) * f) + 340282366920938463463374607431768211456 * ((A / 340282366920938463463374607431768211456 % 18446744073709551616) * f) + 6277101735386680763835789423207666416102355444464034512896 * ((A / 6277101735386680763835789423207666416102355444464034512896 % 18446744073709551616) * f) := by
  unfold big at hA
  rw [← Nat.mul_assoc, ← Nat.mul_assoc, ← Nat.mul_assoc, ← Nat.add_mul, ← Nat.add_mul, ← Nat.add_mul]
  congr 1; omega
theorem times_pack {A f s0 s1 s2 s3 c : Nat} (h0 : s0 = A * f % 18446744073709551616) (h1 : s1 = A * f / 18446744073709551616 % 18446744073709551616) (h2 : s2 = A * f / 340282366920938463463374607431768211456 % 18446744073709551616)
    (h3 : s3 = A * f / 6277101735386680763835789423207666416102355444464034512896 % 18446744073709551616) (h4 : c = A * f / 115792089237316195423570985008687907853269984665640564039457584007913129639936) :
    pack [.agg #[.int .u64 ((s0 : Nat) : Int), .int .u64 ((s1 : Nat) : Int), .int .u64 ((s2 : Nat) : Int), .int .u64 ((s3 : Nat) : Int)], .int .u64 ((c : Nat) : Int)] = .tuple #[uv (pl A f), .int .u64 ((ph A f : Nat) : Int)] := by
  subst h0 h1 h2 h3 h4
  unfold uv pl ph
  rw [ow_mod0, ow_mod1, ow_mod2, ow_mod3]
  rfl
end Go.Proofs.Ythomanpefekaaaa
