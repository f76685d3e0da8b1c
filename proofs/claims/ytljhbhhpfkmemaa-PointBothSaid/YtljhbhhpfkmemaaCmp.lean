/-
  The contract of u256.Cmp.
-/
import Derived.Test.YtljhbhhpfkmemaaWords
import Derived.Lib.Hide
namespace Go.Proofs.Ytljhbhhpfkmemaa
open Go.ChangeShapes Go.WideShapes Go.ChangeAt Go.RowKit
set_option linter.unusedVariables false

def cm (A B : Nat) : Int := if A = B then 0 else if A < B then -1 else 1
/-- How the first k words stand. -/
def cmK (A B k : Nat) : Int := cm (A % 18446744073709551616 ^ k) (B % 18446744073709551616 ^ k)
theorem cmK_0 (A B : Nat) : cmK A B 0 = 0 := by unfold cmK cm; simp [Nat.mod_one]
theorem cm_next (a b x y W : Nat) (hx : x < W) (hy : y < W) : cm (x + W * a) (y + W * b) = if a < b then -1 else if b < a then 1 else cm x y := by
  unfold cm
  rcases Nat.lt_trichotomy a b with h | h | h
  · have : W * (a + 1) ≤ W * b := Nat.mul_le_mul_left _ h
    rw [Nat.mul_add] at this
    rw [if_pos h, if_neg (by omega), if_pos (by omega)]
  · subst h
    have h1 : (x + W * a = y + W * a) = (x = y) := by rw [eq_iff_iff]; omega
    have h2 : (x + W * a < y + W * a) = (x < y) := by rw [eq_iff_iff]; omega
    simp only [h1, h2, Nat.lt_irrefl, if_false]
  · have : W * (b + 1) ≤ W * a := Nat.mul_le_mul_left _ h
    rw [Nat.mul_add] at this
    rw [if_neg (by omega), if_pos h, if_neg (by omega), if_neg (by omega)]
/-- Word k of a number. -/
def wk (A k : Nat) : Nat := A / 18446744073709551616 ^ k % 18446744073709551616
theorem cmK_next (A B k : Nat) : cmK A B (k + 1) = if wk A k < wk B k then -1 else if wk B k < wk A k then 1 else cmK A B k := by
  unfold cmK wk
  rw [Nat.pow_succ, Nat.mod_mul, Nat.mod_mul, cm_next _ _ _ _ _ (Nat.mod_lt _ (Nat.pow_pos (by omega))) (Nat.mod_lt _ (Nat.pow_pos (by omega)))]
theorem cmK_fin (A B : Nat) (hA : A < big) (hB : B < big) : cmK A B 4 = cm A B := by
  unfold cmK
  have e : 18446744073709551616 ^ 4 = big := rfl
  rw [e, Nat.mod_eq_of_lt hA, Nat.mod_eq_of_lt hB]
theorem wk0 (A : Nat) : w0 A = ((wk A 0 : Nat) : Int) := by unfold w0 wk; simp
theorem wk1 (A : Nat) : w1 A = ((wk A 1 : Nat) : Int) := rfl
theorem wk2 (A : Nat) : w2 A = ((wk A 2 : Nat) : Int) := rfl
theorem wk3 (A : Nat) : w3 A = ((wk A 3 : Nat) : Int) := rfl

set_option maxHeartbeats 2000000 in
set_option maxRecDepth 100000 in
theorem cmp_any (A B : Nat) (hA : A < big) (hB : B < big) (w : World) : Calls Try.prog 51 #[uv A, uv B] w fun e w' => e = .returned (.int .i64 (cm A B)) ∧ Below w.heap.size w w' := by
  have i0 := ix0; have i1 := ix1; have i2 := ix2; have i3 := ix3
  have HF := Lib.hid (cmK_fin A B hA hB)
  unfold uv
  go_enter Try.func51, Try.ntmps51
  go_wp2
  go_loop [5, 9] (fun r i => ∃ k : Nat, k ≤ 4 ∧ i = .int .i64 k ∧ r = .int .i64 (cmK A B k)) (fun _ i => 4 - (intOf i).toNat)
  case atStart => exact ⟨0, by omega, rfl, by rw [cmK_0]⟩
  case round =>
    obtain ⟨k, hk, rfl, rfl⟩ := hrel
    have hn := cmK_next A B k
    have hk5 : k = 0 ∨ k = 1 ∨ k = 2 ∨ k = 3 ∨ k = 4 := by omega
    rcases hk5 with rfl | rfl | rfl | rfl | rfl
    · rcases Nat.lt_trichotomy (wk A 0) (wk B 0) with h | h | h
      · rw [if_pos h] at hn
        have HN := Lib.hid hn
        have h1 : w0 A < w0 B := by rw [wk0, wk0]; omega
        clear hn h
        go_wp2
        go_round
        case rel => exact ⟨1, by omega, by go_num, by rw [HN.out]⟩
        case measure => simp [intOf]
      · rw [if_neg (by omega), if_neg (by omega)] at hn
        have HN := Lib.hid hn
        have h1 : ¬ w0 A < w0 B := by rw [wk0, wk0]; omega
        have h2 : ¬ w0 B < w0 A := by rw [wk0, wk0]; omega
        clear hn h
        go_wp2
        go_round
        case rel => exact ⟨1, by omega, by go_num, by rw [HN.out]⟩
        case measure => simp [intOf]
      · rw [if_neg (by omega), if_pos h] at hn
        have HN := Lib.hid hn
        have h1 : ¬ w0 A < w0 B := by rw [wk0, wk0]; omega
        have h2 : w0 B < w0 A := by rw [wk0, wk0]; omega
        clear hn h
        go_wp2
        go_round
        case rel => exact ⟨1, by omega, by go_num, by rw [HN.out]⟩
        case measure => simp [intOf]
    · rcases Nat.lt_trichotomy (wk A 1) (wk B 1) with h | h | h
      · rw [if_pos h] at hn
        have HN := Lib.hid hn
        have h1 : w1 A < w1 B := by rw [wk1, wk1]; omega
        clear hn h
        go_wp2
        go_round
        case rel => exact ⟨2, by omega, by go_num, by rw [HN.out]⟩
        case measure => simp [intOf]
      · rw [if_neg (by omega), if_neg (by omega)] at hn
        have HN := Lib.hid hn
        have h1 : ¬ w1 A < w1 B := by rw [wk1, wk1]; omega
        have h2 : ¬ w1 B < w1 A := by rw [wk1, wk1]; omega
        clear hn h
        go_wp2
        go_round
        case rel => exact ⟨2, by omega, by go_num, by rw [HN.out]⟩
        case measure => simp [intOf]
      · rw [if_neg (by omega), if_pos h] at hn
        have HN := Lib.hid hn
        have h1 : ¬ w1 A < w1 B := by rw [wk1, wk1]; omega
        have h2 : w1 B < w1 A := by rw [wk1, wk1]; omega
        clear hn h
        go_wp2
        go_round
        case rel => exact ⟨2, by omega, by go_num, by rw [HN.out]⟩
        case measure => simp [intOf]
    · rcases Nat.lt_trichotomy (wk A 2) (wk B 2) with h | h | h
      · rw [if_pos h] at hn
        have HN := Lib.hid hn
        have h1 : w2 A < w2 B := by rw [wk2, wk2]; omega
        clear hn h
        go_wp2
        go_round
        case rel => exact ⟨3, by omega, by go_num, by rw [HN.out]⟩
        case measure => simp [intOf]
      · rw [if_neg (by omega), if_neg (by omega)] at hn
        have HN := Lib.hid hn
        have h1 : ¬ w2 A < w2 B := by rw [wk2, wk2]; omega
        have h2 : ¬ w2 B < w2 A := by rw [wk2, wk2]; omega
        clear hn h
        go_wp2
        go_round
        case rel => exact ⟨3, by omega, by go_num, by rw [HN.out]⟩
        case measure => simp [intOf]
      · rw [if_neg (by omega), if_pos h] at hn
        have HN := Lib.hid hn
        have h1 : ¬ w2 A < w2 B := by rw [wk2, wk2]; omega
        have h2 : w2 B < w2 A := by rw [wk2, wk2]; omega
        clear hn h
        go_wp2
        go_round
        case rel => exact ⟨3, by omega, by go_num, by rw [HN.out]⟩
        case measure => simp [intOf]
    · rcases Nat.lt_trichotomy (wk A 3) (wk B 3) with h | h | h
      · rw [if_pos h] at hn
        have HN := Lib.hid hn
        have h1 : w3 A < w3 B := by rw [wk3, wk3]; omega
        clear hn h
        go_wp2
        go_round
        case rel => exact ⟨4, by omega, by go_num, by rw [HN.out]⟩
        case measure => simp [intOf]
      · rw [if_neg (by omega), if_neg (by omega)] at hn
        have HN := Lib.hid hn
        have h1 : ¬ w3 A < w3 B := by rw [wk3, wk3]; omega
        have h2 : ¬ w3 B < w3 A := by rw [wk3, wk3]; omega
        clear hn h
        go_wp2
        go_round
        case rel => exact ⟨4, by omega, by go_num, by rw [HN.out]⟩
        case measure => simp [intOf]
      · rw [if_neg (by omega), if_pos h] at hn
        have HN := Lib.hid hn
        have h1 : ¬ w3 A < w3 B := by rw [wk3, wk3]; omega
        have h2 : w3 B < w3 A := by rw [wk3, wk3]; omega
        clear hn h
        go_wp2
        go_round
        case rel => exact ⟨4, by omega, by go_num, by rw [HN.out]⟩
        case measure => simp [intOf]
    · clear hn
      go_wp2
      go_ret
      exact ⟨by rw [← HF.out]; rfl, by go_grown⟩
end Go.Proofs.Ytljhbhhpfkmemaa
