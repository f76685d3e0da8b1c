/-
  What the laws of package field ask: plain arithmetic.
-/
import Derived.Test.YtljhbhhpfkmemaaField3
import Derived.Laws.BitsLemmas
namespace Go.Proofs.Ytljhbhhpfkmemaa
open Go Go.RowKit
set_option linter.unusedVariables false
theorem i64_and1 (n : Int) : bits .and .i64 n 1 = n % 2 := by
  have h1 : (BitVec.ofInt 64 1).toNat = 2 ^ 1 - 1 := by decide
  have key : (BitVec.ofInt 64 n &&& BitVec.ofInt 64 1).toNat = (n % ((2 ^ 64 : Nat) : Int)).toNat % 2 ^ 1 := by
    rw [BitVec.toNat_and, BitVec.toNat_ofInt, h1, Nat.and_two_pow_sub_one_eq_mod]
  show IntKind.i64.wrap ((BitVec.ofInt 64 n &&& BitVec.ofInt 64 1).toNat : Nat) = n % 2
  rw [key, IntKind.wrap_i64]
  omega
theorem cm_lt {A B : Nat} (h : A < B) : cm A B < 0 := by unfold cm; split <;> (try split) <;> omega
theorem rs_zero (A M : Nat) : rs A 0 M = A % M := by unfold rs; rw [Nat.mul_zero, Nat.add_zero]
theorem fold_stays {M : Nat} (h : MOK M) (A B : Nat) : rs (rs A B M) 0 M = rs A B M := by rw [rs_zero]; exact Nat.mod_eq_of_lt (rs_ltM h)
theorem fold_none (M A : Nat) : rs (pl M A) (ph M A) M = 0 := by rw [rs_mul]; exact Nat.mul_mod_right _ _
theorem fAdd_comm (A B M : Nat) : fAdd A B M = fAdd B A M := by unfold fAdd; rw [Nat.add_comm]
theorem fMul_comm (A B M : Nat) : fMul A B M = fMul B A M := by unfold fMul; rw [Nat.mul_comm]
theorem fAdd_assoc (A B C M : Nat) : fAdd (fAdd A B M) C M = fAdd A (fAdd B C M) M := by unfold fAdd; rw [Nat.mod_add_mod, Nat.add_mod_mod, Nat.add_assoc]
theorem fMul_assoc (A B C M : Nat) : fMul (fMul A B M) C M = fMul A (fMul B C M) M := by
  unfold fMul; rw [Nat.mod_mul_mod, Nat.mul_mod_mod, Nat.mul_assoc]
theorem fMul_share (A B C M : Nat) : fMul A (fAdd B C M) M = fAdd (fMul A B M) (fMul A C M) M := by
  unfold fMul fAdd; rw [Nat.mul_mod_mod, Nat.mul_add, ← Nat.add_mod]
theorem fSub_back {M : Nat} (h : MOK M) (A B : Nat) : fSub (fAdd A B M) B M = fAdd A 0 M := by
  unfold fSub fAdd
  rw [Nat.mod_mod, Nat.add_zero]
  have hp : 0 < M := by unfold MOK big at h; omega
  have hb : B % M < M := Nat.mod_lt _ hp
  rw [Nat.add_mod A B, Nat.mod_add_mod, Nat.add_assoc, Nat.add_sub_cancel' (Nat.le_of_lt hb), Nat.add_mod_right, Nat.mod_mod]
theorem fSub_self {M : Nat} (h : MOK M) (A : Nat) : fSub A A M = 0 := by
  unfold fSub
  have hp : 0 < M := by unfold MOK big at h; omega
  have ha : A % M < M := Nat.mod_lt _ hp
  rw [Nat.add_sub_cancel' (Nat.le_of_lt ha), Nat.mod_self]
theorem fpw_sum (A n m M : Nat) (ho : ov n m = false) : fpw A (sm n m) M = fMul (fpw A n M) (fpw A m M) M := by
  have : sm n m = n + m := by
    unfold ov at ho; have := of_decide_eq_false ho
    unfold sm; exact Nat.mod_eq_of_lt (by omega)
  rw [this]; simp only [fpw_eq]; unfold fMul; rw [← Nat.mul_mod, ← Nat.pow_add]
theorem fpw_none {M : Nat} (h : MOK M) (A : Nat) : fpw A 0 M = 1 := fpw_zero h
theorem fpw_one (A M : Nat) : fpw A 1 M = rs A 0 M := by rw [fpw_eq, rs_zero, Nat.pow_one]
end Go.Proofs.Ytljhbhhpfkmemaa
