/-
  How long a number of four words is: plain arithmetic.
-/
import Derived.Test.YtljhbhhpfkmemaaBit
namespace Go.Proofs.Ytljhbhhpfkmemaa
open Go.RowKit

theorem bitLen_spec : ∀ f x, x < 2 ^ f → f ≤ 64 → (x < 2 ^ Lib.bitLen x) ∧ (x ≠ 0 → 2 ^ (Lib.bitLen x - 1) ≤ x ∧ 1 ≤ Lib.bitLen x) := by
  intro f
  induction f with
  | zero =>
    intro x hx _
    have : x = 0 := by simpa using hx
    subst this
    exact ⟨by decide, fun h => absurd rfl h⟩
  | succ f ih =>
    intro x hx hf
    by_cases h0 : x = 0
    · subst h0; exact ⟨by decide, fun h => absurd rfl h⟩
    · have hx64 : x < 2 ^ 64 := Nat.lt_of_lt_of_le hx (Nat.pow_le_pow_right (by omega) hf)
      have e := Lib.bitLen_half x h0 hx64
      have hy : x / 2 < 2 ^ f := by rw [Nat.pow_succ] at hx; omega
      obtain ⟨a, b⟩ := ih (x / 2) hy (by omega)
      rw [e]
      have e2 : 2 ^ (1 + Lib.bitLen (x / 2)) = 2 * 2 ^ Lib.bitLen (x / 2) := by rw [Nat.add_comm, Nat.pow_succ, Nat.mul_comm]
      refine ⟨by omega, fun _ => ⟨?_, by omega⟩⟩
      by_cases hz : x / 2 = 0
      · have : x = 1 := by omega
        subst this; decide
      · obtain ⟨b1, b2⟩ := b hz
        have e3 : 2 ^ (1 + Lib.bitLen (x / 2) - 1) = 2 * 2 ^ (Lib.bitLen (x / 2) - 1) := by
          rw [show 1 + Lib.bitLen (x / 2) - 1 = (Lib.bitLen (x / 2) - 1) + 1 by omega, Nat.pow_succ, Nat.mul_comm]
        omega

/-- How many bits a number has. -/
def len (A : Nat) : Nat := if A = 0 then 0 else Nat.log2 A + 1

theorem len_of {A k : Nat} (h1 : 2 ^ (k - 1) ≤ A) (h2 : A < 2 ^ k) (hk : 1 ≤ k) : len A = k := by
  have h0 : A ≠ 0 := by have := Nat.two_pow_pos (k - 1); omega
  unfold len
  rw [if_neg h0]
  have a := (Nat.le_log2 h0).2 h1
  have b := (Nat.log2_lt h0).2 h2
  omega

theorem len_word {A v k : Nat} (hv : v < 18446744073709551616) (h0 : v ≠ 0) (hA1 : 2 ^ k * v ≤ A) (hA2 : A < 2 ^ k * (v + 1)) : len A = k + Lib.bitLen v := by
  obtain ⟨a, b⟩ := bitLen_spec 64 v hv (Nat.le_refl _)
  obtain ⟨b1, b2⟩ := b h0
  refine len_of ?_ ?_ (by omega)
  · rw [show k + Lib.bitLen v - 1 = k + (Lib.bitLen v - 1) by omega, Nat.pow_add]
    exact Nat.le_trans (Nat.mul_le_mul_left _ b1) hA1
  · rw [Nat.pow_add]
    exact Nat.lt_of_lt_of_le hA2 (Nat.mul_le_mul_left _ a)

theorem lenOf_eq (A : Nat) (hA : A < big) : lenOf A = (len A : Int) := by
  unfold big at hA
  have e0 : w0 A = ((A % 18446744073709551616 : Nat) : Int) := rfl
  have e1 : w1 A = ((A / 18446744073709551616 % 18446744073709551616 : Nat) : Int) := rfl
  have e2 : w2 A = ((A / 340282366920938463463374607431768211456 % 18446744073709551616 : Nat) : Int) := rfl
  have e3 : w3 A = ((A / 6277101735386680763835789423207666416102355444464034512896 % 18446744073709551616 : Nat) : Int) := rfl
  unfold lenOf
  by_cases c3 : w3 A = 0
  · rw [if_neg (by simp [c3])]
    by_cases c2 : w2 A = 0
    · rw [if_neg (by simp [c2])]
      by_cases c1 : w1 A = 0
      · rw [if_neg (by simp [c1])]
        by_cases c0 : w0 A = 0
        · rw [if_neg (by simp [c0])]
          have : A = 0 := by omega
          subst this; rfl
        · rw [if_pos (by simpa using c0)]
          have hw : (w0 A).toNat = A := by omega
          unfold lw; rw [hw]
          rw [len_word (A := A) (v := A) (k := 0) (by omega) (by omega) (by simp) (by simp)]
          simp
      · rw [if_pos (by simpa using c1)]
        have hw : (w1 A).toNat = A / 18446744073709551616 := by omega
        unfold lw; rw [hw]
        rw [len_word (A := A) (v := A / 18446744073709551616) (k := 64) (by omega) (by omega) (by rw [show 2 ^ 64 = 18446744073709551616 from rfl]; omega) (by rw [show 2 ^ 64 = 18446744073709551616 from rfl]; omega)]
        omega
    · rw [if_pos (by simpa using c2)]
      have hw : (w2 A).toNat = A / 340282366920938463463374607431768211456 := by omega
      unfold lw; rw [hw]
      rw [len_word (A := A) (v := A / 340282366920938463463374607431768211456) (k := 128) (by omega) (by omega) (by rw [show 2 ^ 128 = 340282366920938463463374607431768211456 from rfl]; omega) (by rw [show 2 ^ 128 = 340282366920938463463374607431768211456 from rfl]; omega)]
      omega
  · rw [if_pos (by simpa using c3)]
    have hw : (w3 A).toNat = A / 6277101735386680763835789423207666416102355444464034512896 := by omega
    unfold lw; rw [hw]
    rw [len_word (A := A) (v := A / 6277101735386680763835789423207666416102355444464034512896) (k := 192) (by omega) (by omega) (by rw [show 2 ^ 192 = 6277101735386680763835789423207666416102355444464034512896 from rfl]; omega) (by rw [show 2 ^ 192 = 6277101735386680763835789423207666416102355444464034512896 from rfl]; omega)]
    omega

theorem len_le {A : Nat} (hA : A < big) : len A ≤ 256 := by
  unfold len; split
  · omega
  · have h : A < 2 ^ 256 := hA
    have := (Nat.log2_lt ‹_›).2 h
    omega
theorem len_pos {A : Nat} : 0 < len A ↔ A ≠ 0 := by
  unfold len; split <;> omega
theorem lt_two_pow_len (A : Nat) : A < 2 ^ len A := by
  unfold len; split
  · omega
  · exact Nat.lt_log2_self
theorem two_pow_len_le {A : Nat} (h : A ≠ 0) : 2 ^ (len A - 1) ≤ A := by
  unfold len; rw [if_neg h]; exact Nat.log2_self_le h
theorem topBit {A : Nat} (h : 0 < len A) : A.testBit (len A - 1) = true := by
  have h0 := len_pos.1 h
  have a := two_pow_len_le h0
  have b := lt_two_pow_len A
  rw [Nat.testBit_eq_decide_div_mod_eq, decide_eq_true_eq]
  have e : 2 ^ len A = 2 ^ (len A - 1) * 2 := by rw [← Nat.pow_succ]; congr 1; omega
  rw [e] at b
  have : A / 2 ^ (len A - 1) = 1 := by
    apply Nat.div_eq_of_lt_le <;> omega
  rw [this]
theorem bit_above {A n : Nat} (h : len A ≤ n) : A.testBit n = false :=
  Nat.testBit_lt_two_pow (Nat.lt_of_lt_of_le (lt_two_pow_len A) (Nat.pow_le_pow_right (by omega) h))
theorem ov_self {A : Nat} (hA : A < big) : ov A A = decide (len A = 256) := by
  unfold ov
  rw [Bool.eq_iff_iff, decide_eq_true_eq, decide_eq_true_eq]
  have hb : big = 2 ^ 255 * 2 := rfl
  constructor
  · intro h
    exact len_of (k := 256) (by simp; omega) (by simpa [big] using hA) (by omega)
  · intro h
    have := two_pow_len_le (A := A) (len_pos.1 (by omega))
    rw [h] at this
    have : 2 ^ (256 - 1) = 2 ^ 255 := rfl
    omega
theorem sm_self {A : Nat} (h : ov A A = false) : sm A A = 2 * A := by
  unfold ov at h; rw [decide_eq_false_iff_not] at h
  unfold sm; rw [Nat.mod_eq_of_lt (by omega)]; omega
theorem len_double {A : Nat} (h0 : 0 < len A) (h : ov A A = false) : len (sm A A) = len A + 1 := by
  rw [sm_self h]
  have a := two_pow_len_le (len_pos.1 h0)
  have b := lt_two_pow_len A
  have e : 2 ^ len A = 2 ^ (len A - 1) * 2 := by rw [← Nat.pow_succ]; congr 1; omega
  refine len_of ?_ ?_ (by omega)
  · rw [Nat.add_sub_cancel]; omega
  · rw [Nat.pow_succ]; omega
theorem bit_double {A n : Nat} (hn : n < 255) : (sm A A).testBit (n + 1) = A.testBit n := by
  unfold sm
  have e : big = 2 ^ 256 := rfl
  rw [e, Nat.testBit_mod_two_pow, show A + A = 2 * A by omega, Nat.testBit_succ, Nat.mul_div_cancel_left _ (by omega)]
  simp; omega
theorem bit_double0 {A : Nat} : (sm A A).testBit 0 = false := by
  unfold sm
  have e : big = 2 ^ 256 := rfl
  rw [e, Nat.testBit_mod_two_pow]
  have : (A + A).testBit 0 = false := by rw [Nat.testBit_zero]; simp; omega
  rw [this]; simp
end Go.Proofs.Ytljhbhhpfkmemaa
