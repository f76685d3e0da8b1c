/-
  Numbers as digits of 16 bits, the lowest first: plain arithmetic.
-/
import Derived.Test.YtljhbhhpfkmemaaMath
namespace Go.Proofs.Ytljhbhhpfkmemaa

/-- The number that digits make. -/
def vl : List Nat → Nat
  | [] => 0
  | d :: r => d + 65536 * vl r
/-- Digits indeed. -/
def Ok (l : List Nat) : Prop := ∀ d ∈ l, d < 65536
/-- Digit i of A. -/
def dg (A i : Nat) : Nat := A / 65536 ^ i % 65536
/-- The first k digits of A. -/
def dgs (A k : Nat) : List Nat := (List.range k).map (dg A)

theorem dgs_length (A k : Nat) : (dgs A k).length = k := by unfold dgs; simp
theorem dgs_succ (A k : Nat) : dgs A (k + 1) = dgs A k ++ [dg A k] := by unfold dgs; rw [List.range_succ]; simp
theorem dgs_ok (A k : Nat) : Ok (dgs A k) := by
  intro d hd
  unfold dgs at hd
  obtain ⟨i, _, rfl⟩ := List.mem_map.1 hd
  exact Nat.mod_lt _ (by omega)
theorem vl_append (l m : List Nat) : vl (l ++ m) = vl l + 65536 ^ l.length * vl m := by
  induction l with
  | nil => simp [vl]
  | cons d r ih =>
    rw [List.cons_append, vl, vl, ih, List.length_cons, Nat.pow_succ, Nat.mul_add, ← Nat.mul_assoc, Nat.mul_comm 65536 (65536 ^ _)]
    omega
theorem vl_snoc (l : List Nat) (d : Nat) : vl (l ++ [d]) = vl l + 65536 ^ l.length * d := by rw [vl_append]; simp [vl]
theorem vl_dgs (A k : Nat) : vl (dgs A k) = A % 65536 ^ k := by
  induction k with
  | zero => simp [dgs, vl, Nat.mod_one]
  | succ k ih =>
    rw [dgs_succ, vl_snoc, ih, dgs_length, Nat.pow_succ, Nat.mod_mul]
    rfl
theorem vl_lt {l : List Nat} (h : Ok l) : vl l < 65536 ^ l.length := by
  induction l with
  | nil => simp [vl]
  | cons d r ih =>
    have h1 := h d (by simp)
    have h2 := ih (fun x hx => h x (by simp [hx]))
    rw [vl, List.length_cons, Nat.pow_succ]
    omega
theorem ok_append {l m : List Nat} (h : Ok l) (k : Ok m) : Ok (l ++ m) := fun d hd => by
  rcases List.mem_append.1 hd with h1 | h1
  · exact h d h1
  · exact k d h1
theorem ok_take {l : List Nat} (h : Ok l) (k : Nat) : Ok (l.take k) := fun d hd => h d (List.mem_of_mem_take hd)
theorem ok_drop {l : List Nat} (h : Ok l) (k : Nat) : Ok (l.drop k) := fun d hd => h d (List.mem_of_mem_drop hd)
theorem ok_getD {l : List Nat} (h : Ok l) (i : Nat) : l.getD i 0 < 65536 := by
  rcases Nat.lt_or_ge i l.length with hi | hi
  · have : l.getD i 0 = l[i] := by simp [List.getD, List.getElem?_eq_getElem hi]
    rw [this]; exact h _ (List.getElem_mem hi)
  · have : l.getD i 0 = 0 := by simp [List.getD, List.getElem?_eq_none hi]
    omega
theorem vl_take (l : List Nat) (k : Nat) (h : k < l.length) : vl (l.take (k + 1)) = vl (l.take k) + 65536 ^ k * l.getD k 0 := by
  rw [List.take_succ_eq_append_getElem h, vl_snoc, List.length_take, Nat.min_eq_left (by omega)]
  simp [List.getD, List.getElem?_eq_getElem h]
theorem vl_take' (l : List Nat) (k : Nat) : vl (l.take (k + 1)) = vl (l.take k) + 65536 ^ k * l.getD k 0 := by
  rcases Nat.lt_or_ge k l.length with h | h
  · exact vl_take l k h
  · rw [List.take_of_length_le h, List.take_of_length_le (by omega)]; simp [List.getD, List.getElem?_eq_none h]
theorem vl_split (l : List Nat) (k : Nat) : vl l = vl (l.take k) + 65536 ^ k * vl (l.drop k) := by
  rcases Nat.lt_or_ge l.length k with h | h
  · rw [List.take_of_length_le (by omega), List.drop_of_length_le (by omega)]; simp [vl]
  · conv => lhs; rw [← List.take_append_drop k l]
    rw [vl_append, List.length_take, Nat.min_eq_left h]
theorem vl_take_mod {l : List Nat} (h : Ok l) (k : Nat) : vl (l.take k) = vl l % 65536 ^ k := by
  have h1 := vl_split l k
  have h2 := vl_lt (ok_take h k)
  have h3 : 65536 ^ (l.take k).length ≤ 65536 ^ k := Nat.pow_le_pow_right (by omega) (List.length_take_le _ _)
  rw [h1, Nat.add_mul_mod_self_left, Nat.mod_eq_of_lt (by omega)]
theorem vl_drop_div {l : List Nat} (h : Ok l) (k : Nat) : vl (l.drop k) = vl l / 65536 ^ k := by
  have h1 := vl_split l k
  have h2 := vl_lt (ok_take h k)
  have h3 : 65536 ^ (l.take k).length ≤ 65536 ^ k := Nat.pow_le_pow_right (by omega) (List.length_take_le _ _)
  rw [h1, Nat.add_mul_div_left _ _ (Nat.pow_pos (by omega)), Nat.div_eq_of_lt (by omega)]
  omega
theorem big_pow : big = 65536 ^ 16 := rfl

/-- Digit k of a word. -/
theorem dg_word0 (A k : Nat) (h : k / 4 = 0) : (w0 A / 2 ^ (16 * (k % 4))) % 65536 = (dg A k : Int) := by
  have hk : k = 0 ∨ k = 1 ∨ k = 2 ∨ k = 3 := by omega
  unfold w0 dg
  rcases hk with rfl | rfl | rfl | rfl
  · show ((A % 18446744073709551616 : Nat) : Int) / 1 % 65536 = ((A / 1 % 65536 : Nat) : Int); omega
  · show ((A % 18446744073709551616 : Nat) : Int) / 65536 % 65536 = ((A / 65536 % 65536 : Nat) : Int); omega
  · show ((A % 18446744073709551616 : Nat) : Int) / 4294967296 % 65536 = ((A / 4294967296 % 65536 : Nat) : Int); omega
  · show ((A % 18446744073709551616 : Nat) : Int) / 281474976710656 % 65536 = ((A / 281474976710656 % 65536 : Nat) : Int); omega
theorem dg_shift (A j k : Nat) : dg (A / 65536 ^ j) k = dg A (j + k) := by unfold dg; rw [Nat.div_div_eq_div_mul, ← Nat.pow_add]
theorem dg_word1 (A k : Nat) (h : k / 4 = 1) : (w1 A / 2 ^ (16 * (k % 4))) % 65536 = (dg A k : Int) := by
  have e := dg_word0 (A / 65536 ^ 4) (k - 4) (by omega)
  rw [dg_shift, show 4 + (k - 4) = k by omega, show (k - 4) % 4 = k % 4 by omega] at e
  exact e
theorem dg_word2 (A k : Nat) (h : k / 4 = 2) : (w2 A / 2 ^ (16 * (k % 4))) % 65536 = (dg A k : Int) := by
  have e := dg_word0 (A / 65536 ^ 8) (k - 8) (by omega)
  rw [dg_shift, show 8 + (k - 8) = k by omega, show (k - 8) % 4 = k % 4 by omega] at e
  exact e
theorem dg_word3 (A k : Nat) (h : k / 4 = 3) : (w3 A / 2 ^ (16 * (k % 4))) % 65536 = (dg A k : Int) := by
  have e := dg_word0 (A / 65536 ^ 12) (k - 12) (by omega)
  rw [dg_shift, show 12 + (k - 12) = k by omega, show (k - 12) % 4 = k % 4 by omega] at e
  exact e
end Go.Proofs.Ytljhbhhpfkmemaa
