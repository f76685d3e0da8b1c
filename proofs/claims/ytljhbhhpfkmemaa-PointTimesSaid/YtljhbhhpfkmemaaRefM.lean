/-
  Digits of 16 bits: what sums, differences, products, comparisons make of them. Plain arithmetic.
-/
import Derived.Test.YtljhbhhpfkmemaaDigits
import Derived.Test.YtljhbhhpfkmemaaWords
namespace Go.Proofs.Ytljhbhhpfkmemaa
open Go
set_option linter.unusedVariables false
/-- Digit i, as a whole number. -/
def dAt (ds : List Nat) (i : Nat) : Int := ((ds.getD i 0 : Nat) : Int)
theorem dAt_lo {l : List Nat} (i : Nat) : 0 ≤ dAt l i := by unfold dAt; omega
theorem dAt_hi {l : List Nat} (h : Ok l) (i : Nat) : dAt l i ≤ 65535 := by have := ok_getD h i; unfold dAt; omega

/-- What the rounds of a sum keep. -/
structure SumI (x y l : List Nat) (k : Nat) (c : Int) : Prop where
  len : l.length = k
  ok : Ok l
  c0 : 0 ≤ c
  c1 : c ≤ 1
  val : (vl l : Int) + 65536 ^ k * c = vl (x.take k) + vl (y.take k)
  top : k ≤ max x.length y.length + 1
  last : k = max x.length y.length + 1 → c = 0

theorem SumI.start (x y : List Nat) : SumI x y [] 0 0 := ⟨rfl, (fun d h => by cases h), by omega, by omega, by simp [vl], by omega, by omega⟩
theorem SumI.next {x y l : List Nat} {k : Nat} {c : Int} (h : SumI x y l k c) (hx : Ok x) (hy : Ok y) (hgo : k < x.length ∨ k < y.length ∨ 0 < c) :
    SumI x y (l ++ [((dAt x k + dAt y k + c) % 65536).toNat]) (k + 1) ((dAt x k + dAt y k + c) / 65536) := by
  have x0 := dAt_lo (l := x) k; have x1 := dAt_hi hx k
  have y0 := dAt_lo (l := y) k; have y1 := dAt_hi hy k
  obtain ⟨e1, e2, c0, c1, ev, et, el⟩ := h
  have hend : k = max x.length y.length → dAt x k = 0 ∧ dAt y k = 0 := fun e => by
    unfold dAt; simp [List.getD, List.getElem?_eq_none (show x.length ≤ k by omega), List.getElem?_eq_none (show y.length ≤ k by omega)]
  refine ⟨by simp [e1], ok_append e2 (fun d hd => by simp at hd; omega), by omega, by omega, ?_, ?_, ?_⟩
  · rw [vl_snoc, e1, vl_take', vl_take', Int.pow_succ]
    have hdx : dAt x k = ((x.getD k 0 : Nat) : Int) := rfl
    have hdy : dAt y k = ((y.getD k 0 : Nat) : Int) := rfl
    have hs : (((dAt x k + dAt y k + c) % 65536).toNat : Int) = (dAt x k + dAt y k + c) % 65536 := by omega
    have hm : dAt x k + dAt y k + c = 65536 * ((dAt x k + dAt y k + c) / 65536) + (dAt x k + dAt y k + c) % 65536 := by omega
    generalize hq : (dAt x k + dAt y k + c) / 65536 = q at *
    generalize hr : (dAt x k + dAt y k + c) % 65536 = r at *
    have e3 : (65536 : Int) ^ k * dAt x k + 65536 ^ k * dAt y k + 65536 ^ k * c = 65536 ^ k * 65536 * q + 65536 ^ k * r := by
      rw [← Int.mul_add, ← Int.mul_add, hm, Int.mul_add, Int.mul_assoc]
    have g1 : ((vl l + 65536 ^ k * r.toNat : Nat) : Int) = (vl l : Int) + 65536 ^ k * r := by rw [Int.natCast_add, Int.natCast_mul, Int.natCast_pow, hs]; rfl
    have g2 : ((vl (x.take k) + 65536 ^ k * x.getD k 0 : Nat) : Int) = (vl (x.take k) : Int) + 65536 ^ k * dAt x k := by rw [Int.natCast_add, Int.natCast_mul, Int.natCast_pow]; rfl
    have g3 : ((vl (y.take k) + 65536 ^ k * y.getD k 0 : Nat) : Int) = (vl (y.take k) : Int) + 65536 ^ k * dAt y k := by rw [Int.natCast_add, Int.natCast_mul, Int.natCast_pow]; rfl
    rw [g1, g2, g3]
    omega
  · rcases Nat.lt_or_ge k (max x.length y.length + 1) with h | h
    · omega
    · have := el (by omega); omega
  · intro e
    have := hend (by omega)
    omega
theorem SumI.fin {x y l : List Nat} {k : Nat} {c : Int} (h : SumI x y l k c) (hx : ¬ k < x.length) (hy : ¬ k < y.length) (hc : ¬ 0 < c) : vl l = vl x + vl y := by
  obtain ⟨e1, e2, c0, c1, ev, et, el⟩ := h
  rw [show c = 0 by omega, List.take_of_length_le (by omega), List.take_of_length_le (by omega)] at ev
  simp at ev; omega
def ls (x y : List Nat) : Bool := decide (vl x < vl y)

theorem vl_ext : ∀ (x y : List Nat), (∀ t, dAt x t = dAt y t) → vl x = vl y
  | [], [], _ => rfl
  | [], b :: y, h => by
    have h0 := h 0
    have ih := vl_ext [] y (fun t => by have := h (t + 1); simpa [dAt] using this)
    simp [dAt] at h0
    simp only [vl] at ih ⊢
    omega
  | a :: x, [], h => by
    have h0 := h 0
    have ih := vl_ext x [] (fun t => by have := h (t + 1); simpa [dAt] using this)
    simp [dAt] at h0
    simp only [vl] at ih ⊢
    omega
  | a :: x, b :: y, h => by
    have h0 := h 0
    have ih := vl_ext x y (fun t => by have := h (t + 1); simpa [dAt] using this)
    simp [dAt] at h0
    simp only [vl]
    omega
theorem dAt_drop (l : List Nat) (k t : Nat) : dAt (l.drop k) t = dAt l (k + t) := by unfold dAt; simp [List.getD, List.getElem?_drop]
theorem vl_at (l : List Nat) (j : Nat) : vl l = vl (l.take j) + 65536 ^ j * l.getD j 0 + 65536 ^ (j + 1) * vl (l.drop (j + 1)) := by
  rw [vl_split l (j + 1), vl_take']
theorem lt_of_digit {x y : List Nat} (hx : Ok x) (hy : Ok y) (j : Nat) (ht : ∀ t, j < t → dAt x t = dAt y t) (h : dAt x j < dAt y j) : vl x < vl y := by
  have e : vl (x.drop (j + 1)) = vl (y.drop (j + 1)) := vl_ext _ _ (fun t => by rw [dAt_drop, dAt_drop]; exact ht _ (by omega))
  have hl := vl_lt (ok_take hx j)
  have h3 : 65536 ^ (x.take j).length ≤ 65536 ^ j := Nat.pow_le_pow_right (by omega) (List.length_take_le _ _)
  have hd : x.getD j 0 + 1 ≤ y.getD j 0 := by unfold dAt at h; omega
  have hm : 65536 ^ j * (x.getD j 0 + 1) ≤ 65536 ^ j * y.getD j 0 := Nat.mul_le_mul_left _ hd
  rw [Nat.mul_add, Nat.mul_one] at hm
  rw [vl_at x j, vl_at y j, e]
  omega
theorem ls_digit {x y : List Nat} (hx : Ok x) (hy : Ok y) (j : Nat) (ht : ∀ t, j < t → dAt x t = dAt y t) (h : dAt x j ≠ dAt y j) : decide (dAt x j < dAt y j) = ls x y := by
  unfold ls
  rcases Int.lt_or_gt_of_ne h with k | k
  · have := lt_of_digit hx hy j ht k
    simp [k, this]
  · have := lt_of_digit hy hx j (fun t h => (ht t h).symm) k
    have k' : ¬ dAt x j < dAt y j := by omega
    have this' : ¬ vl x < vl y := by omega
    simp [k', this']
theorem ls_none {x y : List Nat} (ht : ∀ t, dAt x t = dAt y t) : ls x y = false := by
  unfold ls; rw [vl_ext x y ht]; simp

/-- All digits from j on are alike. -/
def Same (x y : List Nat) (j : Int) : Prop := ∀ t : Nat, j < t → dAt x t = dAt y t
theorem Same.start (x y : List Nat) (n : Int) (h1 : (x.length : Int) ≤ n) (h2 : (y.length : Int) ≤ n) : Same x y (n - 1) := fun t ht => by
  unfold dAt; simp [List.getD, List.getElem?_eq_none (show x.length ≤ t by omega), List.getElem?_eq_none (show y.length ≤ t by omega)]
theorem Same.down {x y : List Nat} {j : Nat} (h : Same x y j) (e : dAt x j = dAt y j) : Same x y ((j : Int) - 1) := fun t ht => by
  rcases Nat.lt_or_ge j t with k | k
  · exact h t (by omega)
  · rw [show t = j by omega]; exact e

structure TakeI (x y l : List Nat) (k : Nat) (c : Int) : Prop where
  len : l.length = k
  ok : Ok l
  c0 : 0 ≤ c
  c1 : c ≤ 1
  val : (vl l : Int) - 65536 ^ k * c = vl (x.take k) - vl (y.take k)

theorem TakeI.start (x y : List Nat) : TakeI x y [] 0 0 := ⟨rfl, (fun d h => by cases h), by omega, by omega, by simp [vl]⟩
theorem TakeI.step {x y l : List Nat} {k : Nat} {c : Int} (h : TakeI x y l k c) (r q : Int) (hr0 : 0 ≤ r) (hr1 : r < 65536) (hq0 : 0 ≤ q) (hq1 : q ≤ 1) (hm : dAt x k - dAt y k - c = r - 65536 * q) :
    TakeI x y (l ++ [r.toNat]) (k + 1) q := by
  obtain ⟨e1, e2, c0, c1, ev⟩ := h
  refine ⟨by simp [e1], ok_append e2 (fun d hd => by simp at hd; omega), hq0, hq1, ?_⟩
  rw [vl_snoc, e1, vl_take', vl_take', Int.pow_succ]
  have hs : ((r.toNat : Nat) : Int) = r := by omega
  have e3 : (65536 : Int) ^ k * dAt x k - 65536 ^ k * dAt y k - 65536 ^ k * c = 65536 ^ k * r - 65536 ^ k * 65536 * q := by
    rw [← Int.mul_sub, ← Int.mul_sub, hm, Int.mul_sub, Int.mul_assoc]
  have g1 : ((vl l + 65536 ^ k * r.toNat : Nat) : Int) = (vl l : Int) + 65536 ^ k * r := by rw [Int.natCast_add, Int.natCast_mul, Int.natCast_pow, hs]; rfl
  have g2 : ((vl (x.take k) + 65536 ^ k * x.getD k 0 : Nat) : Int) = (vl (x.take k) : Int) + 65536 ^ k * dAt x k := by rw [Int.natCast_add, Int.natCast_mul, Int.natCast_pow]; rfl
  have g3 : ((vl (y.take k) + 65536 ^ k * y.getD k 0 : Nat) : Int) = (vl (y.take k) : Int) + 65536 ^ k * dAt y k := by rw [Int.natCast_add, Int.natCast_mul, Int.natCast_pow]; rfl
  rw [g1, g2, g3]
  omega
theorem TakeI.fin {x y l : List Nat} {c : Int} (h : TakeI x y l x.length c) (hx : Ok x) (hy : Ok y) (hle : vl y ≤ vl x) : vl l = vl x - vl y := by
  obtain ⟨e1, e2, c0, c1, ev⟩ := h
  have b1 := vl_lt hx
  have b2 := vl_lt e2
  rw [e1] at b2
  have e3 : vl (y.take x.length) = vl y := by rw [vl_take_mod hy, Nat.mod_eq_of_lt (by omega)]
  rw [e3, List.take_of_length_le (Nat.le_refl _)] at ev
  have hp : ((65536 ^ x.length : Nat) : Int) = 65536 ^ x.length := by rw [Int.natCast_pow]; rfl
  have hc : c = 0 ∨ c = 1 := by omega
  rcases hc with rfl | rfl
  · omega
  · exfalso; omega

theorem dg_vl {l : List Nat} (h : Ok l) (i : Nat) : dg (vl l) i = l.getD i 0 := by
  have e := vl_at l i
  have hl := vl_lt (ok_take h i)
  have h3 : 65536 ^ (l.take i).length ≤ 65536 ^ i := Nat.pow_le_pow_right (by omega) (List.length_take_le _ _)
  have hd := ok_getD h i
  have e2 : vl l = vl (l.take i) + 65536 ^ i * (l.getD i 0 + 65536 * vl (l.drop (i + 1))) := by
    rw [e, Nat.pow_succ, Nat.mul_add, Nat.mul_assoc]; omega
  unfold dg
  rw [e2, Nat.add_mul_div_left _ _ (Nat.pow_pos (by omega)), Nat.div_eq_of_lt (by omega)]
  omega

/-- Word q, when the digits from j on have come. -/
def ow (V j q : Nat) : Nat := if 4 * q + 4 ≤ j then 0 else V / 65536 ^ (max j (4 * q)) % 65536 ^ (4 * q + 4 - max j (4 * q))

theorem ow_step (V i : Nat) (hi : i < 16) : ow V i (i / 4) = ow V (i + 1) (i / 4) * 65536 + dg V i ∧ ow V (i + 1) (i / 4) < 281474976710656 ∧ (∀ q, q < 4 → q ≠ i / 4 → ow V i q = ow V (i + 1) q) := by
  have h : i = 0 ∨ i = 1 ∨ i = 2 ∨ i = 3 ∨ i = 4 ∨ i = 5 ∨ i = 6 ∨ i = 7 ∨ i = 8 ∨ i = 9 ∨ i = 10 ∨ i = 11 ∨ i = 12 ∨ i = 13 ∨ i = 14 ∨ i = 15 := by omega
  rcases h with rfl | rfl | rfl | rfl | rfl | rfl | rfl | rfl | rfl | rfl | rfl | rfl | rfl | rfl | rfl | rfl
  · refine ⟨?_, ?_, ?_⟩
    · show V / 1 % 18446744073709551616 = (V / 65536 % 281474976710656) * 65536 + V / 1 % 65536; omega
    · show V / 65536 % 281474976710656 < 281474976710656; omega
    · intro q hq hne
      have hne' : q ≠ 0 := hne
      have hq' : q = 0 ∨ q = 1 ∨ q = 2 ∨ q = 3 := by omega
      rcases hq' with rfl | rfl | rfl | rfl
      · exact absurd rfl hne'
      · show V / 18446744073709551616 % 18446744073709551616 = V / 18446744073709551616 % 18446744073709551616; rfl
      · show V / 340282366920938463463374607431768211456 % 18446744073709551616 = V / 340282366920938463463374607431768211456 % 18446744073709551616; rfl
      · show V / 6277101735386680763835789423207666416102355444464034512896 % 18446744073709551616 = V / 6277101735386680763835789423207666416102355444464034512896 % 18446744073709551616; rfl
  · refine ⟨?_, ?_, ?_⟩
    · show V / 65536 % 281474976710656 = (V / 4294967296 % 4294967296) * 65536 + V / 65536 % 65536; omega
    · show V / 4294967296 % 4294967296 < 281474976710656; omega
    · intro q hq hne
      have hne' : q ≠ 0 := hne
      have hq' : q = 0 ∨ q = 1 ∨ q = 2 ∨ q = 3 := by omega
      rcases hq' with rfl | rfl | rfl | rfl
      · exact absurd rfl hne'
      · show V / 18446744073709551616 % 18446744073709551616 = V / 18446744073709551616 % 18446744073709551616; rfl
      · show V / 340282366920938463463374607431768211456 % 18446744073709551616 = V / 340282366920938463463374607431768211456 % 18446744073709551616; rfl
      · show V / 6277101735386680763835789423207666416102355444464034512896 % 18446744073709551616 = V / 6277101735386680763835789423207666416102355444464034512896 % 18446744073709551616; rfl
  · refine ⟨?_, ?_, ?_⟩
    · show V / 4294967296 % 4294967296 = (V / 281474976710656 % 65536) * 65536 + V / 4294967296 % 65536; omega
    · show V / 281474976710656 % 65536 < 281474976710656; omega
    · intro q hq hne
      have hne' : q ≠ 0 := hne
      have hq' : q = 0 ∨ q = 1 ∨ q = 2 ∨ q = 3 := by omega
      rcases hq' with rfl | rfl | rfl | rfl
      · exact absurd rfl hne'
      · show V / 18446744073709551616 % 18446744073709551616 = V / 18446744073709551616 % 18446744073709551616; rfl
      · show V / 340282366920938463463374607431768211456 % 18446744073709551616 = V / 340282366920938463463374607431768211456 % 18446744073709551616; rfl
      · show V / 6277101735386680763835789423207666416102355444464034512896 % 18446744073709551616 = V / 6277101735386680763835789423207666416102355444464034512896 % 18446744073709551616; rfl
  · refine ⟨?_, ?_, ?_⟩
    · show V / 281474976710656 % 65536 = (0) * 65536 + V / 281474976710656 % 65536; omega
    · show 0 < 281474976710656; omega
    · intro q hq hne
      have hne' : q ≠ 0 := hne
      have hq' : q = 0 ∨ q = 1 ∨ q = 2 ∨ q = 3 := by omega
      rcases hq' with rfl | rfl | rfl | rfl
      · exact absurd rfl hne'
      · show V / 18446744073709551616 % 18446744073709551616 = V / 18446744073709551616 % 18446744073709551616; rfl
      · show V / 340282366920938463463374607431768211456 % 18446744073709551616 = V / 340282366920938463463374607431768211456 % 18446744073709551616; rfl
      · show V / 6277101735386680763835789423207666416102355444464034512896 % 18446744073709551616 = V / 6277101735386680763835789423207666416102355444464034512896 % 18446744073709551616; rfl
  · refine ⟨?_, ?_, ?_⟩
    · show V / 18446744073709551616 % 18446744073709551616 = (V / 1208925819614629174706176 % 281474976710656) * 65536 + V / 18446744073709551616 % 65536; omega
    · show V / 1208925819614629174706176 % 281474976710656 < 281474976710656; omega
    · intro q hq hne
      have hne' : q ≠ 1 := hne
      have hq' : q = 0 ∨ q = 1 ∨ q = 2 ∨ q = 3 := by omega
      rcases hq' with rfl | rfl | rfl | rfl
      · show 0 = 0; rfl
      · exact absurd rfl hne'
      · show V / 340282366920938463463374607431768211456 % 18446744073709551616 = V / 340282366920938463463374607431768211456 % 18446744073709551616; rfl
      · show V / 6277101735386680763835789423207666416102355444464034512896 % 18446744073709551616 = V / 6277101735386680763835789423207666416102355444464034512896 % 18446744073709551616; rfl
  · refine ⟨?_, ?_, ?_⟩
    · show V / 1208925819614629174706176 % 281474976710656 = (V / 79228162514264337593543950336 % 4294967296) * 65536 + V / 1208925819614629174706176 % 65536; omega
    · show V / 79228162514264337593543950336 % 4294967296 < 281474976710656; omega
    · intro q hq hne
      have hne' : q ≠ 1 := hne
      have hq' : q = 0 ∨ q = 1 ∨ q = 2 ∨ q = 3 := by omega
      rcases hq' with rfl | rfl | rfl | rfl
      · show 0 = 0; rfl
      · exact absurd rfl hne'
      · show V / 340282366920938463463374607431768211456 % 18446744073709551616 = V / 340282366920938463463374607431768211456 % 18446744073709551616; rfl
      · show V / 6277101735386680763835789423207666416102355444464034512896 % 18446744073709551616 = V / 6277101735386680763835789423207666416102355444464034512896 % 18446744073709551616; rfl
  · refine ⟨?_, ?_, ?_⟩
    · show V / 79228162514264337593543950336 % 4294967296 = (V / 5192296858534827628530496329220096 % 65536) * 65536 + V / 79228162514264337593543950336 % 65536; omega
    · show V / 5192296858534827628530496329220096 % 65536 < 281474976710656; omega
    · intro q hq hne
      have hne' : q ≠ 1 := hne
      have hq' : q = 0 ∨ q = 1 ∨ q = 2 ∨ q = 3 := by omega
      rcases hq' with rfl | rfl | rfl | rfl
      · show 0 = 0; rfl
      · exact absurd rfl hne'
      · show V / 340282366920938463463374607431768211456 % 18446744073709551616 = V / 340282366920938463463374607431768211456 % 18446744073709551616; rfl
      · show V / 6277101735386680763835789423207666416102355444464034512896 % 18446744073709551616 = V / 6277101735386680763835789423207666416102355444464034512896 % 18446744073709551616; rfl
  · refine ⟨?_, ?_, ?_⟩
    · show V / 5192296858534827628530496329220096 % 65536 = (0) * 65536 + V / 5192296858534827628530496329220096 % 65536; omega
    · show 0 < 281474976710656; omega
    · intro q hq hne
      have hne' : q ≠ 1 := hne
      have hq' : q = 0 ∨ q = 1 ∨ q = 2 ∨ q = 3 := by omega
      rcases hq' with rfl | rfl | rfl | rfl
      · show 0 = 0; rfl
      · exact absurd rfl hne'
      · show V / 340282366920938463463374607431768211456 % 18446744073709551616 = V / 340282366920938463463374607431768211456 % 18446744073709551616; rfl
      · show V / 6277101735386680763835789423207666416102355444464034512896 % 18446744073709551616 = V / 6277101735386680763835789423207666416102355444464034512896 % 18446744073709551616; rfl
  · refine ⟨?_, ?_, ?_⟩
    · show V / 340282366920938463463374607431768211456 % 18446744073709551616 = (V / 22300745198530623141535718272648361505980416 % 281474976710656) * 65536 + V / 340282366920938463463374607431768211456 % 65536; omega
    · show V / 22300745198530623141535718272648361505980416 % 281474976710656 < 281474976710656; omega
    · intro q hq hne
      have hne' : q ≠ 2 := hne
      have hq' : q = 0 ∨ q = 1 ∨ q = 2 ∨ q = 3 := by omega
      rcases hq' with rfl | rfl | rfl | rfl
      · show 0 = 0; rfl
      · show 0 = 0; rfl
      · exact absurd rfl hne'
      · show V / 6277101735386680763835789423207666416102355444464034512896 % 18446744073709551616 = V / 6277101735386680763835789423207666416102355444464034512896 % 18446744073709551616; rfl
  · refine ⟨?_, ?_, ?_⟩
    · show V / 22300745198530623141535718272648361505980416 % 281474976710656 = (V / 1461501637330902918203684832716283019655932542976 % 4294967296) * 65536 + V / 22300745198530623141535718272648361505980416 % 65536; omega
    · show V / 1461501637330902918203684832716283019655932542976 % 4294967296 < 281474976710656; omega
    · intro q hq hne
      have hne' : q ≠ 2 := hne
      have hq' : q = 0 ∨ q = 1 ∨ q = 2 ∨ q = 3 := by omega
      rcases hq' with rfl | rfl | rfl | rfl
      · show 0 = 0; rfl
      · show 0 = 0; rfl
      · exact absurd rfl hne'
      · show V / 6277101735386680763835789423207666416102355444464034512896 % 18446744073709551616 = V / 6277101735386680763835789423207666416102355444464034512896 % 18446744073709551616; rfl
  · refine ⟨?_, ?_, ?_⟩
    · show V / 1461501637330902918203684832716283019655932542976 % 4294967296 = (V / 95780971304118053647396689196894323976171195136475136 % 65536) * 65536 + V / 1461501637330902918203684832716283019655932542976 % 65536; omega
    · show V / 95780971304118053647396689196894323976171195136475136 % 65536 < 281474976710656; omega
    · intro q hq hne
      have hne' : q ≠ 2 := hne
      have hq' : q = 0 ∨ q = 1 ∨ q = 2 ∨ q = 3 := by omega
      rcases hq' with rfl | rfl | rfl | rfl
      · show 0 = 0; rfl
      · show 0 = 0; rfl
      · exact absurd rfl hne'
      · show V / 6277101735386680763835789423207666416102355444464034512896 % 18446744073709551616 = V / 6277101735386680763835789423207666416102355444464034512896 % 18446744073709551616; rfl
  · refine ⟨?_, ?_, ?_⟩
    · show V / 95780971304118053647396689196894323976171195136475136 % 65536 = (0) * 65536 + V / 95780971304118053647396689196894323976171195136475136 % 65536; omega
    · show 0 < 281474976710656; omega
    · intro q hq hne
      have hne' : q ≠ 2 := hne
      have hq' : q = 0 ∨ q = 1 ∨ q = 2 ∨ q = 3 := by omega
      rcases hq' with rfl | rfl | rfl | rfl
      · show 0 = 0; rfl
      · show 0 = 0; rfl
      · exact absurd rfl hne'
      · show V / 6277101735386680763835789423207666416102355444464034512896 % 18446744073709551616 = V / 6277101735386680763835789423207666416102355444464034512896 % 18446744073709551616; rfl
  · refine ⟨?_, ?_, ?_⟩
    · show V / 6277101735386680763835789423207666416102355444464034512896 % 18446744073709551616 = (V / 411376139330301510538742295639337626245683966408394965837152256 % 281474976710656) * 65536 + V / 6277101735386680763835789423207666416102355444464034512896 % 65536; omega
    · show V / 411376139330301510538742295639337626245683966408394965837152256 % 281474976710656 < 281474976710656; omega
    · intro q hq hne
      have hne' : q ≠ 3 := hne
      have hq' : q = 0 ∨ q = 1 ∨ q = 2 ∨ q = 3 := by omega
      rcases hq' with rfl | rfl | rfl | rfl
      · show 0 = 0; rfl
      · show 0 = 0; rfl
      · show 0 = 0; rfl
      · exact absurd rfl hne'
  · refine ⟨?_, ?_, ?_⟩
    · show V / 411376139330301510538742295639337626245683966408394965837152256 % 281474976710656 = (V / 26959946667150639794667015087019630673637144422540572481103610249216 % 4294967296) * 65536 + V / 411376139330301510538742295639337626245683966408394965837152256 % 65536; omega
    · show V / 26959946667150639794667015087019630673637144422540572481103610249216 % 4294967296 < 281474976710656; omega
    · intro q hq hne
      have hne' : q ≠ 3 := hne
      have hq' : q = 0 ∨ q = 1 ∨ q = 2 ∨ q = 3 := by omega
      rcases hq' with rfl | rfl | rfl | rfl
      · show 0 = 0; rfl
      · show 0 = 0; rfl
      · show 0 = 0; rfl
      · exact absurd rfl hne'
  · refine ⟨?_, ?_, ?_⟩
    · show V / 26959946667150639794667015087019630673637144422540572481103610249216 % 4294967296 = (V / 1766847064778384329583297500742918515827483896875618958121606201292619776 % 65536) * 65536 + V / 26959946667150639794667015087019630673637144422540572481103610249216 % 65536; omega
    · show V / 1766847064778384329583297500742918515827483896875618958121606201292619776 % 65536 < 281474976710656; omega
    · intro q hq hne
      have hne' : q ≠ 3 := hne
      have hq' : q = 0 ∨ q = 1 ∨ q = 2 ∨ q = 3 := by omega
      rcases hq' with rfl | rfl | rfl | rfl
      · show 0 = 0; rfl
      · show 0 = 0; rfl
      · show 0 = 0; rfl
      · exact absurd rfl hne'
  · refine ⟨?_, ?_, ?_⟩
    · show V / 1766847064778384329583297500742918515827483896875618958121606201292619776 % 65536 = (0) * 65536 + V / 1766847064778384329583297500742918515827483896875618958121606201292619776 % 65536; omega
    · show 0 < 281474976710656; omega
    · intro q hq hne
      have hne' : q ≠ 3 := hne
      have hq' : q = 0 ∨ q = 1 ∨ q = 2 ∨ q = 3 := by omega
      rcases hq' with rfl | rfl | rfl | rfl
      · show 0 = 0; rfl
      · show 0 = 0; rfl
      · show 0 = 0; rfl
      · exact absurd rfl hne'
theorem ow_start (V q : Nat) (hq : q < 4) : ow V 16 q = 0 := by unfold ow; rw [if_pos (by omega)]
theorem ow_w0 (V : Nat) : ((ow V 0 0 : Nat) : Int) = w0 V := by show ((V / 1 % 18446744073709551616 : Nat) : Int) = _; unfold w0; omega
theorem ow_w1 (V : Nat) : ((ow V 0 1 : Nat) : Int) = w1 V := rfl
theorem ow_w2 (V : Nat) : ((ow V 0 2 : Nat) : Int) = w2 V := rfl
theorem ow_w3 (V : Nat) : ((ow V 0 3 : Nat) : Int) = w3 V := rfl
theorem ow_mod0 (V : Nat) : w0 (V % big) = w0 V := by unfold w0 big; omega
theorem ow_mod1 (V : Nat) : w1 (V % big) = w1 V := by unfold w1 big; omega
theorem ow_mod2 (V : Nat) : w2 (V % big) = w2 V := by unfold w2 big; omega
theorem ow_mod3 (V : Nat) : w3 (V % big) = w3 V := by unfold w3 big; omega
theorem vl_set : ∀ (l : List Nat) (j d : Nat), j < l.length → vl (l.set j d) + 65536 ^ j * l.getD j 0 = vl l + 65536 ^ j * d
  | [], j, d, h => by simp at h
  | a :: r, 0, d, _ => by simp [vl]; omega
  | a :: r, j + 1, d, h => by
    have ih := vl_set r j d (by simpa using h)
    simp only [List.set_cons_succ, vl, List.getD_cons_succ, Nat.pow_succ]
    have e1 : 65536 ^ j * 65536 * r.getD j 0 = 65536 * (65536 ^ j * r.getD j 0) := by rw [Nat.mul_comm (65536 ^ j) 65536, Nat.mul_assoc]
    have e2 : 65536 ^ j * 65536 * d = 65536 * (65536 ^ j * d) := by rw [Nat.mul_comm (65536 ^ j) 65536, Nat.mul_assoc]
    rw [e1, e2]
    omega
theorem ok_set {l : List Nat} (h : Ok l) (j d : Nat) (hd : d < 65536) : Ok (l.set j d) := fun x hx => by
  rcases List.mem_or_eq_of_mem_set hx with h1 | h1
  · exact h x h1
  · rw [h1]; exact hd
theorem vl_zeros (n : Nat) : vl (List.replicate n 0) = 0 := by
  induction n with
  | zero => rfl
  | succ n ih => rw [List.replicate_succ, vl, ih]
theorem ok_zeros (n : Nat) : Ok (List.replicate n 0) := fun d hd => by
  have := List.eq_of_mem_replicate hd; omega
theorem vl_ge (l : List Nat) (j : Nat) : 65536 ^ j * l.getD j 0 ≤ vl l := by
  have e := vl_at l j
  have h1 : 0 ≤ vl (l.take j) := Nat.zero_le _
  have h2 : 0 ≤ 65536 ^ (j + 1) * vl (l.drop (j + 1)) := Nat.zero_le _
  omega

/-- What the inner rounds keep: out, the carry c, at place i of x and k of y. -/
structure MulI (x y out : List Nat) (i k c : Nat) : Prop where
  len : out.length = x.length + y.length + 1
  ok : Ok out
  hi : i < x.length
  cw : c < 65536
  val : vl out + 65536 ^ (i + k) * c = vl (x.take i) * vl y + 65536 ^ i * (x.getD i 0 * vl (y.take k))
  top : k ≤ y.length + 1
  last : k = y.length + 1 → c = 0

theorem MulI.start {x y out : List Nat} {i : Nat} (hl : out.length = x.length + y.length + 1) (hok : Ok out) (hi : i < x.length) (hv : vl out = vl (x.take i) * vl y) : MulI x y out i 0 0 :=
  ⟨hl, hok, hi, by omega, by simp [vl, hv], by omega, by omega⟩
theorem MulI.next {x y out : List Nat} {i k c : Nat} (h : MulI x y out i k c) (hx : Ok x) (hy : Ok y) (hgo : k < y.length ∨ 0 < c) :
    i + k < out.length ∧ MulI x y (out.set (i + k) ((out.getD (i + k) 0 + x.getD i 0 * y.getD k 0 + c) % 65536)) i (k + 1) ((out.getD (i + k) 0 + x.getD i 0 * y.getD k 0 + c) / 65536) := by
  obtain ⟨e1, e2, e3, e4, ev, et, el⟩ := h
  have hk : k ≤ y.length := by
    rcases Nat.lt_or_ge k (y.length + 1) with h | h
    · omega
    · have := el (by omega); omega
  have hij : i + k < out.length := by omega
  refine ⟨hij, ?_⟩
  have ho := ok_getD e2 (i + k)
  have hxi := ok_getD hx i
  have hyk := ok_getD hy k
  generalize hn : out.getD (i + k) 0 + x.getD i 0 * y.getD k 0 + c = n
  have hm : x.getD i 0 * y.getD k 0 ≤ 65535 * 65535 := Nat.mul_le_mul (by omega) (by omega)
  have hset := vl_set out (i + k) (n % 65536) hij
  have hnew : vl (out.set (i + k) (n % 65536)) + 65536 ^ (i + (k + 1)) * (n / 65536) = vl (x.take i) * vl y + 65536 ^ i * (x.getD i 0 * vl (y.take (k + 1))) := by
    have hp : 65536 ^ (i + (k + 1)) * (n / 65536) + 65536 ^ (i + k) * (n % 65536) = 65536 ^ (i + k) * n := by
      rw [show i + (k + 1) = (i + k) + 1 by omega, Nat.pow_succ, Nat.mul_assoc, ← Nat.mul_add]
      congr 1; omega
    have ht : 65536 ^ i * (x.getD i 0 * vl (y.take (k + 1))) = 65536 ^ i * (x.getD i 0 * vl (y.take k)) + 65536 ^ (i + k) * (x.getD i 0 * y.getD k 0) := by
      rw [vl_take', Nat.mul_add, Nat.mul_add, Nat.pow_add, Nat.mul_left_comm (x.getD i 0), Nat.mul_assoc (65536 ^ i)]
    have hs : 65536 ^ (i + k) * n = 65536 ^ (i + k) * out.getD (i + k) 0 + 65536 ^ (i + k) * (x.getD i 0 * y.getD k 0) + 65536 ^ (i + k) * c := by
      rw [← hn, Nat.mul_add, Nat.mul_add]
    rw [ht]
    omega
  refine ⟨by simpa using e1, ok_set e2 _ _ (Nat.mod_lt _ (by omega)), e3, ?_, hnew, by omega, ?_⟩
  · omega
  · intro hkl
    have hky : k = y.length := by omega
    -- at the end the number has no digit there
    have hb : vl (x.take i) * vl y + 65536 ^ i * (x.getD i 0 * vl (y.take (k + 1))) = vl (x.take (i + 1)) * vl y := by
      rw [List.take_of_length_le (l := y) (by omega), vl_take' x, Nat.add_mul, Nat.mul_assoc]
    have b1 := vl_lt (ok_take hx (i + 1))
    have b2 : 65536 ^ (x.take (i + 1)).length ≤ 65536 ^ (i + 1) := Nat.pow_le_pow_right (by omega) (List.length_take_le _ _)
    have b3 := vl_lt hy
    have b4 : vl (x.take (i + 1)) * vl y < 65536 ^ (i + 1) * 65536 ^ y.length := by
      exact Nat.mul_lt_mul_of_lt_of_le (by omega) (Nat.le_of_lt b3) (Nat.pow_pos (by omega))
    rw [← Nat.pow_add] at b4
    rw [hb] at hnew
    rcases Nat.eq_zero_or_pos (n / 65536) with hz | hz
    · exact hz
    · exfalso
      have h5 : 65536 ^ (i + (k + 1)) * 1 ≤ 65536 ^ (i + (k + 1)) * (n / 65536) := Nat.mul_le_mul_left _ hz
      rw [show i + (k + 1) = i + 1 + y.length by omega] at h5 hnew
      omega
theorem MulI.fin {x y out : List Nat} {i k c : Nat} (h : MulI x y out i k c) (hk : ¬ k < y.length) (hc : ¬ 0 < c) : vl out = vl (x.take (i + 1)) * vl y := by
  obtain ⟨e1, e2, e3, e4, ev, et, el⟩ := h
  rw [show c = 0 by omega, List.take_of_length_le (l := y) (by omega)] at ev
  rw [vl_take', Nat.add_mul, Nat.mul_assoc]
  simpa using ev

theorem SumI.go {x y l : List Nat} {k c : Nat} (h : SumI x y l k (c : Int)) (hx : Ok x) (hy : Ok y) (hgo : k < x.length ∨ k < y.length ∨ 0 < c) :
    SumI x y (l ++ [(x.getD k 0 + y.getD k 0 + c) % 65536]) (k + 1) (((x.getD k 0 + y.getD k 0 + c) / 65536 : Nat) : Int) := by
  have hn := h.next hx hy (by omega)
  unfold dAt at hn
  rw [show ((((x.getD k 0 : Nat) : Int) + ((y.getD k 0 : Nat) : Int) + (c : Int)) % 65536).toNat = (x.getD k 0 + y.getD k 0 + c) % 65536 by omega,
    show (((x.getD k 0 : Nat) : Int) + ((y.getD k 0 : Nat) : Int) + (c : Int)) / 65536 = (((x.getD k 0 + y.getD k 0 + c) / 65536 : Nat) : Int) by omega] at hn
  exact hn
theorem SumI.done {x y l : List Nat} {k c : Nat} (h : SumI x y l k (c : Int)) (hx : ¬ k < x.length) (hy : ¬ k < y.length) (hc : ¬ 0 < c) : vl l = vl x + vl y := h.fin hx hy (by omega)
/-- Bit i of a number in digits. -/
theorem bit_digit {a : List Nat} (h : Ok a) (i : Nat) : a.getD (i / 16) 0 / 2 ^ (i % 16) % 2 = vl a / 2 ^ i % 2 := by
  rw [← dg_vl h (i / 16)]
  unfold dg
  have e : vl a / 2 ^ i = vl a / 65536 ^ (i / 16) / 2 ^ (i % 16) := by
    rw [Nat.div_div_eq_div_mul, show (65536 : Nat) = 2 ^ 16 from rfl, ← Nat.pow_mul, ← Nat.pow_add]
    congr 2; omega
  rw [e]
  generalize vl a / 65536 ^ (i / 16) = X
  have hr : i % 16 < 16 := Nat.mod_lt _ (by omega)
  rw [show (65536 : Nat) = 2 ^ (i % 16) * 2 ^ (16 - i % 16) by rw [← Nat.pow_add, show i % 16 + (16 - i % 16) = 16 by omega], Nat.mod_mul_right_div_self]
  obtain ⟨m, hm⟩ : ∃ m, 16 - i % 16 = m + 1 := ⟨15 - i % 16, by omega⟩
  rw [hm, Nat.pow_succ, Nat.mul_comm (2 ^ m) 2, Nat.mod_mul_right_mod]
theorem two_mod (n m _k : Nat) : 2 * (n % m) % m = 2 * n % m := by rw [Nat.mul_mod, Nat.mod_mod, ← Nat.mul_mod]
theorem left_step {N M v j : Nat} (hM : 0 < M) (hv : v = N / 2 ^ (j + 1) % M) : (M ≤ 2 * v + N / 2 ^ j % 2 ∧ 2 * v + N / 2 ^ j % 2 < 2 * M ∧ N / 2 ^ j % M = 2 * v + N / 2 ^ j % 2 - M) ∨ (2 * v + N / 2 ^ j % 2 < M ∧ N / 2 ^ j % M = 2 * v + N / 2 ^ j % 2) := by
  have h1 : v < M := by rw [hv]; exact Nat.mod_lt _ hM
  have h2 : N / 2 ^ j % 2 < 2 := Nat.mod_lt _ (by omega)
  have h3 : N / 2 ^ (j + 1) = N / 2 ^ j / 2 := by rw [Nat.pow_succ, Nat.div_div_eq_div_mul]
  have h4 : N / 2 ^ j % M = (2 * v + N / 2 ^ j % 2) % M := by
    have h6 : ∀ K b : Nat, (2 * (K % M) + b) % M = (2 * K + b) % M := fun K b => by
      rw [Nat.add_mod, two_mod K M 0, ← Nat.add_mod]
    rw [hv, h3, h6]
    congr 1; omega
  rw [h4]
  rcases Nat.lt_or_ge (2 * v + N / 2 ^ j % 2) M with h | h
  · exact .inr ⟨h, Nat.mod_eq_of_lt h⟩
  · exact .inl ⟨h, by omega, by rw [Nat.mod_eq_sub_mod h, Nat.mod_eq_of_lt (by omega)]⟩
theorem vl_dropLast {l : List Nat} (h1 : 1 < l.length) (h0 : l.getD (l.length - 1) 0 = 0) : vl (l.take (l.length - 1)) = vl l := by
  have e := vl_take' l (l.length - 1)
  rw [h0, Nat.mul_zero, Nat.add_zero, show l.length - 1 + 1 = l.length by omega, List.take_of_length_le (Nat.le_refl _)] at e
  exact e.symm
theorem vl_len {l m : List Nat} (hm : Ok m) (h1 : 1 < l.length) (h0 : l.getD (l.length - 1) 0 ≠ 0) (hlt : vl l < vl m) : l.length ≤ m.length := by
  have e := vl_take' l (l.length - 1)
  rw [show l.length - 1 + 1 = l.length by omega, List.take_of_length_le (Nat.le_refl _)] at e
  have h2 := vl_lt hm
  rcases Nat.lt_or_ge m.length l.length with h | h
  · have h3 : 65536 ^ m.length ≤ 65536 ^ (l.length - 1) := Nat.pow_le_pow_right (by omega) (by omega)
    have h4 : 65536 ^ (l.length - 1) * 1 ≤ 65536 ^ (l.length - 1) * l.getD (l.length - 1) 0 := Nat.mul_le_mul_left _ (by omega)
    omega
  · exact h
theorem cellsD_take (l : List Nat) (k : Nat) : (l.map fun d => Value.int .i64 ((d : Nat) : Int)).take k = (l.take k).map fun d => Value.int .i64 ((d : Nat) : Int) := by rw [List.map_take]
/-- The words of a number in digits. -/
theorem word_digits {x : List Nat} (h : Ok x) (q : Nat) : ((x.getD (4 * q + 3) 0 * 65536 + x.getD (4 * q + 2) 0) * 65536 + x.getD (4 * q + 1) 0) * 65536 + x.getD (4 * q) 0 = vl x / 65536 ^ (4 * q) % 18446744073709551616 := by
  rw [← dg_vl h (4 * q + 3), ← dg_vl h (4 * q + 2), ← dg_vl h (4 * q + 1), ← dg_vl h (4 * q)]
  unfold dg
  rw [Nat.pow_add, Nat.pow_add 65536 (4 * q) 2, Nat.pow_add 65536 (4 * q) 1, ← Nat.div_div_eq_div_mul, ← Nat.div_div_eq_div_mul, ← Nat.div_div_eq_div_mul]
  generalize vl x / 65536 ^ (4 * q) = X
  show ((X / 281474976710656 % 65536 * 65536 + X / 4294967296 % 65536) * 65536 + X / 65536 % 65536) * 65536 + X % 65536 = _
  omega
theorem uv_digits {x : List Nat} (h : Ok x) (g : Nat → Nat) (hg : ∀ i, g i = x.getD i 0) :
    Value.agg #[.int .u64 (((((g 3 * 65536 + g 2) * 65536 + g 1) * 65536 + g 0 : Nat)) : Int), .int .u64 (((((g 7 * 65536 + g 6) * 65536 + g 5) * 65536 + g 4 : Nat)) : Int), .int .u64 (((((g 11 * 65536 + g 10) * 65536 + g 9) * 65536 + g 8 : Nat)) : Int), .int .u64 (((((g 15 * 65536 + g 14) * 65536 + g 13) * 65536 + g 12 : Nat)) : Int)] = uv (vl x % big) := by
  have e0 := word_digits h 0; have e1 := word_digits h 1; have e2 := word_digits h 2; have e3 := word_digits h 3
  simp only [hg]
  have f0 : ((((x.getD 3 0 * 65536 + x.getD 2 0) * 65536 + x.getD 1 0) * 65536 + x.getD 0 0 : Nat) : Int) = w0 (vl x % big) := by
    rw [ow_mod0]; unfold w0; rw [e0, Nat.mul_zero, Nat.pow_zero, Nat.div_one]
  have f1 : ((((x.getD 7 0 * 65536 + x.getD 6 0) * 65536 + x.getD 5 0) * 65536 + x.getD 4 0 : Nat) : Int) = w1 (vl x % big) := by
    rw [ow_mod1]; unfold w1; rw [e1]
  have f2 : ((((x.getD 11 0 * 65536 + x.getD 10 0) * 65536 + x.getD 9 0) * 65536 + x.getD 8 0 : Nat) : Int) = w2 (vl x % big) := by
    rw [ow_mod2]; unfold w2; rw [e2]
  have f3 : ((((x.getD 15 0 * 65536 + x.getD 14 0) * 65536 + x.getD 13 0) * 65536 + x.getD 12 0 : Nat) : Int) = w3 (vl x % big) := by
    rw [ow_mod3]; unfold w3; rw [e3]
  rw [f0, f1, f2, f3]
end Go.Proofs.Ytljhbhhpfkmemaa
