/-
  Numbers as digits of 16 bits: comparison, products with a digit, powers; roots and primes, plain arithmetic.
-/
import Derived.Test.YtjhldipeicpoeaaDoorDigits
import Derived.Test.YtjhldipeicpoeaaDoorShaM
namespace Go.Proofs.YtjhldipeicpoeaaDoor
set_option linter.unusedVariables false
def dAt (ds : List Nat) (i : Nat) : Int := ((ds.getD i 0 : Nat) : Int)
theorem dAt_lo {l : List Nat} (i : Nat) : 0 ≤ dAt l i := by unfold dAt; omega
theorem dAt_hi {l : List Nat} (h : Ok l) (i : Nat) : dAt l i ≤ 65535 := by have := ok_getD h i; unfold dAt; omega

def ls (x y : List Nat) : Bool := decide (vl x < vl y)

theorem vl_ext : ∀ (x y : List Nat), (∀ t, dAt x t = dAt y t) → vl x = vl y
  | [], [], _ => rfl
  | [], b :: y, h => by
    have h0 := h 0
    have ih := vl_ext [] y (fun t => by have := h (t + 1); simpa [dAt] using this)
    simp [dAt] at h0
    simp only [vl] at ih ⊢
    omega
  | a :: x, [], h => by
    have h0 := h 0
    have ih := vl_ext x [] (fun t => by have := h (t + 1); simpa [dAt] using this)
    simp [dAt] at h0
    simp only [vl] at ih ⊢
    omega
  | a :: x, b :: y, h => by
    have h0 := h 0
    have ih := vl_ext x y (fun t => by have := h (t + 1); simpa [dAt] using this)
    simp [dAt] at h0
    simp only [vl]
    omega
theorem dAt_drop (l : List Nat) (k t : Nat) : dAt (l.drop k) t = dAt l (k + t) := by unfold dAt; simp [List.getD, List.getElem?_drop]
theorem vl_at (l : List Nat) (j : Nat) : vl l = vl (l.take j) + 65536 ^ j * l.getD j 0 + 65536 ^ (j + 1) * vl (l.drop (j + 1)) := by
  rw [vl_split l (j + 1), vl_take']
theorem lt_of_digit {x y : List Nat} (hx : Ok x) (hy : Ok y) (j : Nat) (ht : ∀ t, j < t → dAt x t = dAt y t) (h : dAt x j < dAt y j) : vl x < vl y := by
  have e : vl (x.drop (j + 1)) = vl (y.drop (j + 1)) := vl_ext _ _ (fun t => by rw [dAt_drop, dAt_drop]; exact ht _ (by omega))
  have hl := vl_lt (ok_take hx j)
  have h3 : 65536 ^ (x.take j).length ≤ 65536 ^ j := Nat.pow_le_pow_right (by omega) (List.length_take_le _ _)
  have hd : x.getD j 0 + 1 ≤ y.getD j 0 := by unfold dAt at h; omega
  have hm : 65536 ^ j * (x.getD j 0 + 1) ≤ 65536 ^ j * y.getD j 0 := Nat.mul_le_mul_left _ hd
  rw [Nat.mul_add, Nat.mul_one] at hm
  rw [vl_at x j, vl_at y j, e]
  omega
theorem ls_digit {x y : List Nat} (hx : Ok x) (hy : Ok y) (j : Nat) (ht : ∀ t, j < t → dAt x t = dAt y t) (h : dAt x j ≠ dAt y j) : decide (dAt x j < dAt y j) = ls x y := by
  unfold ls
  rcases Int.lt_or_gt_of_ne h with k | k
  · have := lt_of_digit hx hy j ht k
    simp [k, this]
  · have := lt_of_digit hy hx j (fun t h => (ht t h).symm) k
    have k' : ¬ dAt x j < dAt y j := by omega
    have this' : ¬ vl x < vl y := by omega
    simp [k', this']
theorem ls_none {x y : List Nat} (ht : ∀ t, dAt x t = dAt y t) : ls x y = false := by
  unfold ls; rw [vl_ext x y ht]; simp

/-- All digits from j on are alike. -/
def Same (x y : List Nat) (j : Int) : Prop := ∀ t : Nat, j < t → dAt x t = dAt y t
theorem Same.start (x y : List Nat) (n : Int) (h1 : (x.length : Int) ≤ n) (h2 : (y.length : Int) ≤ n) : Same x y (n - 1) := fun t ht => by
  unfold dAt; simp [List.getD, List.getElem?_eq_none (show x.length ≤ t by omega), List.getElem?_eq_none (show y.length ≤ t by omega)]
theorem Same.down {x y : List Nat} {j : Nat} (h : Same x y j) (e : dAt x j = dAt y j) : Same x y ((j : Int) - 1) := fun t ht => by
  rcases Nat.lt_or_ge j t with k | k
  · exact h t (by omega)
  · rw [show t = j by omega]; exact e


structure TimI (x : List Nat) (y : Nat) (l : List Nat) (i c : Nat) : Prop where
  len : l.length = i
  ok : Ok l
  cw : c < 65536
  top : i ≤ x.length + 1
  fin : i = x.length + 1 → c = 0
  val : vl l + 65536 ^ i * c = vl (x.take i) * y
theorem TimI.start (x : List Nat) (y : Nat) : TimI x y [] 0 0 := ⟨rfl, (fun d h => by cases h), by omega, by omega, by omega, by simp [vl]⟩
theorem ok_snoc {l : List Nat} (h : Ok l) (d : Nat) (hd : d < 65536) : Ok (l ++ [d]) := ok_append h (fun e he => by simp at he; omega)
theorem getD_over {l : List Nat} {i : Nat} (h : ¬ i < l.length) : l.getD i 0 = 0 := by simp [List.getD, List.getElem?_eq_none (Nat.le_of_not_lt h)]
theorem TimI.next {x l : List Nat} {y i c : Nat} (h : TimI x y l i c) (hx : Ok x) (hy : y < 65536) (hgo : i < x.length ∨ 0 < c) (d : Nat) (hd : d = c + x.getD i 0 * y) : TimI x y (l ++ [d % 65536]) (i + 1) (d / 65536) := by
  have h1 := ok_getD hx i
  have h2 : x.getD i 0 * y ≤ 65535 * 65535 := Nat.mul_le_mul (by omega) (by omega)
  have h3 := h.cw; have h4 := h.top; have h5 := h.fin; have h6 := h.val
  refine ⟨by rw [List.length_append, h.len]; rfl, ok_snoc h.ok _ (Nat.mod_lt _ (by omega)), by omega, by omega, fun e => ?_, ?_⟩
  · have e1 : ¬ i < x.length := by omega
    rw [getD_over e1] at hd
    omega
  · rw [vl_snoc, h.len, vl_take', Nat.add_mul]
    have e := Nat.div_add_mod d 65536
    have e2 : 65536 ^ (i + 1) * (d / 65536) = 65536 ^ i * (65536 * (d / 65536)) := by rw [Nat.pow_succ, Nat.mul_assoc]
    rw [e2, Nat.add_assoc, ← Nat.mul_add, Nat.add_comm (d % 65536), e, hd, Nat.mul_add, ← Nat.add_assoc, h6, Nat.mul_assoc]
theorem TimI.done {x l : List Nat} {y i c : Nat} (h : TimI x y l i c) (h1 : ¬ i < x.length) (h2 : ¬ 0 < c) : vl l = vl x * y := by
  have h6 := h.val
  obtain rfl : c = 0 := by omega
  rw [List.take_of_length_le (by omega)] at h6
  omega
structure PowI (a b c s : List Nat) (k q : Nat) : Prop where
  len : s.length = k
  ok : Ok s
  cw : q ≤ 2
  val : vl s + 65536 ^ k * q = vl (a.take k) + vl ((0 :: b).take k) + vl ((0 :: 0 :: c).take k)
theorem PowI.start (a b c : List Nat) : PowI a b c [] 0 0 := ⟨rfl, (fun d h => by cases h), by omega, by simp [vl]⟩
theorem cons1 (b : List Nat) (k : Nat) : (k = 0 → (0 :: b).getD k 0 = 0) ∧ (1 ≤ k → (0 :: b).getD k 0 = b.getD (k - 1) 0) := by
  cases k with
  | zero => exact ⟨fun _ => rfl, fun h => by omega⟩
  | succ k => exact ⟨fun h => by omega, fun _ => rfl⟩
theorem cons2 (b : List Nat) (k : Nat) : (k < 2 → (0 :: 0 :: b).getD k 0 = 0) ∧ (2 ≤ k → (0 :: 0 :: b).getD k 0 = b.getD (k - 2) 0) := by
  cases k with
  | zero => exact ⟨fun _ => rfl, fun h => by omega⟩
  | succ k =>
    cases k with
    | zero => exact ⟨fun _ => rfl, fun h => by omega⟩
    | succ k => exact ⟨fun h => by omega, fun _ => rfl⟩
theorem ok_cons {b : List Nat} (h : Ok b) : Ok (0 :: b) := fun d hd => by
  rcases List.mem_cons.1 hd with rfl | hd
  · omega
  · exact h d hd
theorem PowI.next {a b c s : List Nat} {k q : Nat} (h : PowI a b c s k q) (ha : Ok a) (hb : Ok b) (hc : Ok c) (d : Nat) (hd : d = q + a.getD k 0 + (0 :: b).getD k 0 + (0 :: 0 :: c).getD k 0) : PowI a b c (s ++ [d % 65536]) (k + 1) (d / 65536) := by
  have h1 := ok_getD ha k; have h2 := ok_getD (ok_cons hb) k; have h3 := ok_getD (ok_cons (ok_cons hc)) k; have h4 := h.cw; have h6 := h.val
  refine ⟨by rw [List.length_append, h.len]; rfl, ok_snoc h.ok _ (Nat.mod_lt _ (by omega)), by omega, ?_⟩
  rw [vl_snoc, h.len, vl_take', vl_take', vl_take']
  have e := Nat.div_add_mod d 65536
  have e2 : 65536 ^ (k + 1) * (d / 65536) = 65536 ^ k * (65536 * (d / 65536)) := by rw [Nat.pow_succ, Nat.mul_assoc]
  have e3 : 65536 ^ k * d = 65536 ^ k * q + 65536 ^ k * a.getD k 0 + 65536 ^ k * (0 :: b).getD k 0 + 65536 ^ k * (0 :: 0 :: c).getD k 0 := by rw [hd, Nat.mul_add, Nat.mul_add, Nat.mul_add]
  rw [e2, Nat.add_assoc, ← Nat.mul_add, Nat.add_comm (d % 65536), e, e3]
  omega
theorem PowI.fin {a b c s : List Nat} {k q : Nat} (h : PowI a b c s k q) (ha : a.length ≤ k) (hb : b.length + 1 ≤ k) (hc : c.length + 2 ≤ k) : vl s + 65536 ^ k * q = vl a + 65536 * vl b + 65536 * (65536 * vl c) := by
  have h6 := h.val
  rw [List.take_of_length_le ha, List.take_of_length_le (show (0 :: b).length ≤ k by simpa using hb), List.take_of_length_le (show (0 :: 0 :: c).length ≤ k by simpa using hc)] at h6
  rw [h6]; simp [vl]
theorem PowI.done {a b c s l : List Nat} {k q N : Nat} (h : PowI a b c s k q) (hk : k = l.length + 4) (hl : Ok l) (ha : a.length ≤ l.length + 1) (hb : b.length ≤ l.length + 1) (hc : c.length ≤ l.length + 1)
    (va : vl a = vl l * (N % 65536)) (vb : vl b = vl l * (N / 65536 % 65536)) (vc : vl c = vl l * (N / 4294967296)) (hN : N < 281474976710656) : vl s = vl l * N := by
  have h1 := h.fin (by omega) (by omega) (by omega)
  have e0 : N = N % 65536 + 65536 * (N / 65536 % 65536) + 65536 * (65536 * (N / 4294967296)) := by omega
  have e1 : vl l * N = vl l * (N % 65536) + 65536 * (vl l * (N / 65536 % 65536)) + 65536 * (65536 * (vl l * (N / 4294967296))) := by
    conv => lhs; rw [e0]
    rw [Nat.mul_add, Nat.mul_add, Nat.mul_left_comm (vl l) 65536, Nat.mul_left_comm (vl l) 65536, Nat.mul_left_comm (vl l) 65536]
  rw [va, vb, vc, ← e1] at h1
  have h2 := vl_lt hl
  have h3 : vl l * N < 65536 ^ k := by
    rw [hk, show (65536 : Nat) ^ (l.length + 4) = 65536 ^ l.length * 18446744073709551616 by rw [Nat.pow_add]]
    exact Nat.lt_of_le_of_lt (Nat.mul_le_mul (Nat.le_of_lt h2) (Nat.le_of_lt hN)) (Nat.mul_lt_mul_of_pos_left (by omega) (Nat.pos_of_ne_zero (by have := Nat.pow_pos (n := l.length) (show 0 < 65536 by omega); omega)))
  rcases Nat.eq_zero_or_pos q with rfl | hq
  · omega
  · have : 65536 ^ k * 1 ≤ 65536 ^ k * q := Nat.mul_le_mul_left _ hq
    omega
/-- A root, bit by bit. -/
def rtN (p o : Nat) : Nat → Nat
  | 0 => 0
  | t + 1 => if (rtN p o t + 2 ^ (40 - t)) ^ o ≤ p * 65536 ^ (2 * o) then rtN p o t + 2 ^ (40 - t) else rtN p o t
theorem rtN_lt (p o : Nat) : ∀ t, t ≤ 41 → rtN p o t + 2 ^ (41 - t) ≤ 2 ^ 41
  | 0, _ => by simp [rtN]
  | t + 1, h => by
    have ih := rtN_lt p o t (by omega)
    have e : 2 ^ (41 - t) = 2 * 2 ^ (40 - t) := by rw [show 41 - t = 40 - t + 1 by omega, Nat.pow_succ, Nat.mul_comm]
    rw [show 41 - (t + 1) = 40 - t by omega]
    unfold rtN
    split <;> omega
def rootW (p o : Nat) : BitVec 32 := BitVec.ofNat 32 (rtN p o 41 % 4294967296)
def prL : Nat → List Nat
  | 0 => []
  | k + 1 => if (prL k).all (fun p => decide ((k + 2) % p > 0)) then prL k ++ [k + 2] else prL k
theorem prL_two : ∀ k, ∀ p ∈ prL k, 2 ≤ p ∧ p ≤ k + 1
  | 0, p, h => by cases h
  | k + 1, p, h => by
    unfold prL at h
    split at h
    · rcases List.mem_append.1 h with h | h
      · have := prL_two k p h; omega
      · simp at h; omega
    · have := prL_two k p h; omega
theorem prL_lt (k : Nat) : ∀ p ∈ prL k, p < 65536 → True := fun _ _ _ => trivial
theorem roots_ok : (prL 310).map (fun p => rootW p 3) = Sha.roots := by decide +kernel
theorem prL_64 : (prL 310).length = 64 ∧ ∀ k, k < 310 → (prL k).length < 64 := by
  refine ⟨by decide +kernel, ?_⟩
  have : (List.range 310).all (fun k => decide ((prL k).length < 64)) = true := by decide +kernel
  intro k hk
  simpa using List.all_eq_true.1 this k (by simpa using hk)
theorem prL_8 : (prL 18).length = 8 ∧ ∀ k, k < 18 → (prL k).length < 8 := by
  refine ⟨by decide +kernel, ?_⟩
  have : (List.range 18).all (fun k => decide ((prL k).length < 8)) = true := by decide +kernel
  intro k hk
  simpa using List.all_eq_true.1 this k (by simpa using hk)
theorem heads_ok : (prL 18).map (fun p => rootW p 2) = Sha.beg.s := by decide +kernel
end Go.Proofs.YtjhldipeicpoeaaDoor
