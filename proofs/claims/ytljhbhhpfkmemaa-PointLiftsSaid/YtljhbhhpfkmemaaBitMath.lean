/-
  Bits and lengths of numbers of four words: plain arithmetic.
-/
import Derived.Test.YtljhbhhpfkmemaaMath
import Derived.Laws.Bits64b
import Derived.Lib.BitFns
namespace Go.Proofs.Ytljhbhhpfkmemaa
open Go.RowKit

theorem testBit_word (A n m : Nat) (k : Nat) (hn : n = 64 * k + m) (hm : m < 64) (v : Nat) (hv : v = A / 2 ^ (64 * k) % 18446744073709551616) : A.testBit n = (v / 2 ^ m % 2 == 1) := by
  subst hv hn
  rw [Nat.testBit_eq_decide_div_mod_eq, Nat.pow_add, ← Nat.div_div_eq_div_mul]
  generalize A / 2 ^ (64 * k) = x
  have e : x % 18446744073709551616 / 2 ^ m % 2 = x / 2 ^ m % 2 := by
    have e1 : 18446744073709551616 = 2 ^ m * 2 ^ (64 - m) := by rw [← Nat.pow_add, show m + (64 - m) = 64 by omega]
    have e2 : 2 ^ (64 - m) = 2 * 2 ^ (63 - m) := by rw [show 64 - m = (63 - m) + 1 by omega, Nat.pow_succ, Nat.mul_comm]
    rw [e1, Nat.mod_mul_right_div_self, e2, Nat.mod_mul_right_mod]
  rw [e, Bool.eq_iff_iff]; simp

theorem and_one (v m : Nat) (hv : v < 18446744073709551616) : (bits BinOp.and IntKind.u64 ((v : Int) / 2 ^ m) 1 == 1) = (v / 2 ^ m % 2 == 1) := by
  have h1 : ((v : Int) / 2 ^ m) = ((v / 2 ^ m : Nat) : Int) := by push_cast; rfl
  have h2 : v / 2 ^ m < 18446744073709551616 := Nat.lt_of_le_of_lt (Nat.div_le_self _ _) hv
  have h3 := bits_and_u64_nat (v / 2 ^ m) 1 h2 (by omega)
  rw [h1]
  have h4 : (v / 2 ^ m) &&& 1 = v / 2 ^ m % 2 := Nat.and_one_is_mod _
  rw [h4] at h3
  have h5 : bits BinOp.and IntKind.u64 ((v / 2 ^ m : Nat) : Int) 1 = ((v / 2 ^ m % 2 : Nat) : Int) := h3
  rw [h5, Bool.eq_iff_iff]; simp; omega

theorem bit_word0 (A n : Nat) (h : n / 64 = 0) : (bits BinOp.and IntKind.u64 (w0 A / 2 ^ (n % 64)) 1 == 1) = A.testBit n := by
  unfold w0
  rw [and_one _ _ (Nat.mod_lt _ (by omega)), testBit_word A n (n % 64) 0 (by omega) (by omega) (A % 18446744073709551616) (by simp)]
theorem bit_word1 (A n : Nat) (h : n / 64 = 1) : (bits BinOp.and IntKind.u64 (w1 A / 2 ^ (n % 64)) 1 == 1) = A.testBit n := by
  unfold w1
  rw [and_one _ _ (Nat.mod_lt _ (by omega)), testBit_word A n (n % 64) 1 (by omega) (by omega) _ rfl]
theorem bit_word2 (A n : Nat) (h : n / 64 = 2) : (bits BinOp.and IntKind.u64 (w2 A / 2 ^ (n % 64)) 1 == 1) = A.testBit n := by
  unfold w2
  rw [and_one _ _ (Nat.mod_lt _ (by omega)), testBit_word A n (n % 64) 2 (by omega) (by omega) _ rfl]
theorem bit_word3 (A n : Nat) (h : n / 64 = 3) : (bits BinOp.and IntKind.u64 (w3 A / 2 ^ (n % 64)) 1 == 1) = A.testBit n := by
  unfold w3
  rw [and_one _ _ (Nat.mod_lt _ (by omega)), testBit_word A n (n % 64) 3 (by omega) (by omega) _ rfl]
end Go.Proofs.Ytljhbhhpfkmemaa
