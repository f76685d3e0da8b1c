/-
  What the law on bytes asks of numbers.
-/
import Derived.Test.YthomanpefekaaaaNum
import Derived.Test.YthomanpefekaaaaUlib
import Derived.Test.YthomanpefekaaaaRefM
import Derived.Test.YthomanpefekaaaaRefL
import Derived.Test.YthomanpefekaaaaStr
import Derived.Test.YthomanpefekaaaaFrom
import Derived.Test.YthomanpefekaaaaBytes
import Derived.Test.YthomanpefekaaaaLenMath
namespace Go.Proofs.Ythomanpefekaaaa
open Go Go.RowKit
set_option linter.unusedVariables false
theorem dAt_dgs (A q : Nat) (h : q < 16) : (dgs A 16).getD q 0 = dg A q := by
  unfold dgs
  simp [List.getD, List.getElem?_map, List.getElem?_range h]
theorem dg_bit (A q m : Nat) (hm : m < 16) : dg A q / 2 ^ m % 2 = A / 2 ^ (16 * q + m) % 2 := by
  unfold dg
  rw [show (65536 : Nat) ^ q = 2 ^ (16 * q) by rw [Nat.pow_mul], Nat.pow_add, ← Nat.div_div_eq_div_mul]
  generalize A / 2 ^ (16 * q) = x
  have e1 : 65536 = 2 ^ m * 2 ^ (16 - m) := by rw [← Nat.pow_add, show m + (16 - m) = 16 by omega]
  have e2 : 2 ^ (16 - m) = 2 * 2 ^ (15 - m) := by rw [show 16 - m = (15 - m) + 1 by omega, Nat.pow_succ, Nat.mul_comm]
  rw [e1, Nat.mod_mul_right_div_self, e2, Nat.mod_mul_right_mod]
theorem bit_at (A k : Nat) (h : k < 256) : (dgs A 16).getD (k / 16) 0 / 2 ^ (k % 16) % 2 = A / 2 ^ k % 2 := by
  rw [dAt_dgs A _ (by omega), dg_bit A _ _ (Nat.mod_lt _ (by omega)), show 16 * (k / 16) + k % 16 = k by omega]
theorem len_step (A k : Nat) : (A / 2 ^ k % 2 = 1 → len (A % 2 ^ (k + 1)) = k + 1) ∧ (A / 2 ^ k % 2 ≠ 1 → len (A % 2 ^ (k + 1)) = len (A % 2 ^ k)) := by
  have hs : A % 2 ^ (k + 1) = A % 2 ^ k + 2 ^ k * (A / 2 ^ k % 2) := by rw [Nat.pow_succ, Nat.mod_mul]
  have hl : A % 2 ^ k < 2 ^ k := Nat.mod_lt _ (Nat.two_pow_pos k)
  have hp : 2 ^ (k + 1) = 2 ^ k + 2 ^ k := by rw [Nat.pow_succ]; omega
  refine ⟨fun hc => ?_, fun hc => ?_⟩
  · rw [hc, Nat.mul_one] at hs
    exact len_of (by rw [Nat.add_sub_cancel, hs]; omega) (by rw [hs, hp]; omega) (by omega)
  · have h0 : A / 2 ^ k % 2 = 0 := by omega
    rw [hs, h0, Nat.mul_zero, Nat.add_zero]
theorem len_mod (A : Nat) (hA : A < big) : len (A % 2 ^ 256) = len A := by
  rw [Nat.mod_eq_of_lt (show A < 2 ^ 256 by rw [show (2 : Nat) ^ 256 = big by rfl]; exact hA)]
theorem uv_small (n : Nat) (h : n < 18446744073709551616) : Value.agg #[.int .u64 ((n : Nat) : Int), .int .u64 0, .int .u64 0, .int .u64 0] = uv n := by
  have e0 : w0 n = (n : Int) := by unfold w0; omega
  have e1 : w1 n = 0 := by unfold w1; omega
  have e2 : w2 n = 0 := by unfold w2; omega
  have e3 : w3 n = 0 := by unfold w3; omega
  unfold uv; rw [e0, e1, e2, e3]
theorem sv_big (s : ByteArray) (h : s.size ≤ 32) : sv (tl s) < big := by
  have h1 := sv_lt (tl s)
  have h2 : 256 ^ (tl s).length ≤ 256 ^ 32 := Nat.pow_le_pow_right (by omega) h
  have h3 : (256 : Nat) ^ 32 = big := rfl
  omega
theorem sv_take (s : ByteArray) (k : Nat) (h : k < s.size) : sv ((tl s).take (k + 1)) = 256 * sv ((tl s).take k) + by_ s k := by
  have h1 : k < (tl s).length := h
  rw [List.take_succ_eq_append_getElem h1, sv_snoc]
  unfold by_; rw [List.getD_eq_getElem?_getD, List.getElem?_eq_getElem h1]; rfl
end Go.Proofs.Ythomanpefekaaaa
