/-
  Texts of the proof, part 3.
-/
import Derived.Laws.StructEq
import Derived.ChangeKeysEq
import Derived.Laws.BitsLemmas
import Derived.Laws.BitsAllLaws
import Derived.Laws.BytesArg
import Derived.Test.YtmmloghbnpfedaaDoorSB1
import Derived.Test.YtmmloghbnpfedaaDoorSB2

namespace Go.Proofs.YtmmloghbnpfedaaDoor
open Go
set_option linter.unusedVariables false
/-- Digit i, as a whole number. -/
def dAt (ds : List Nat) (i : Nat) : Int := ((ds.getD i 0 : Nat) : Int)
theorem dAt_lo {l : List Nat} (i : Nat) : 0 ≤ dAt l i := by unfold dAt; omega
theorem dAt_hi {l : List Nat} (h : Ok l) (i : Nat) : dAt l i ≤ 65535 := by have := ok_getD h i; unfold dAt; omega
/-- What the rounds of a sum keep. -/
structure SumI (x y l : List Nat) (k : Nat) (c : Int) : Prop where
  len : l.length = k
  ok : Ok l
  c0 : 0 ≤ c
  c1 : c ≤ 1
  val : (vl l : Int) + 65536 ^ k * c = vl (x.take k) + vl (y.take k)
  top : k ≤ max x.length y.length + 1
  last : k = max x.length y.length + 1 → c = 0
theorem SumI.start (x y : List Nat) : SumI x y [] 0 0 := ⟨rfl, (fun d h => by cases h), by omega, by omega, by simp [vl], by omega, by omega⟩
theorem SumI.next {x y l : List Nat} {k : Nat} {c : Int} (h : SumI x y l k c) (hx : Ok x) (hy : Ok y) (hgo : k < x.length ∨ k < y.length ∨ 0 < c) :
    SumI x y (l ++ [((dAt x k + dAt y k + c) % 65536).toNat]) (k + 1) ((dAt x k + dAt y k + c) / 65536) := by
  have x0 := dAt_lo (l := x) k; have x1 := dAt_hi hx k
  have y0 := dAt_lo (l := y) k; have y1 := dAt_hi hy k
  obtain ⟨e1, e2, c0, c1, ev, et, el⟩ := h
  have hend : k = max x.length y.length → dAt x k = 0 ∧ dAt y k = 0 := fun e => by
    unfold dAt; simp [List.getD, List.getElem?_eq_none (show x.length ≤ k by omega), List.getElem?_eq_none (show y.length ≤ k by omega)]
  refine ⟨by simp [e1], ok_append e2 (fun d hd => by simp at hd; omega), by omega, by omega, ?_, ?_, ?_⟩
  · rw [vl_snoc, e1, vl_take', vl_take', Int.pow_succ]
    have hdx : dAt x k = ((x.getD k 0 : Nat) : Int) := rfl
    have hdy : dAt y k = ((y.getD k 0 : Nat) : Int) := rfl
    have hs : (((dAt x k + dAt y k + c) % 65536).toNat : Int) = (dAt x k + dAt y k + c) % 65536 := by omega
    have hm : dAt x k + dAt y k + c = 65536 * ((dAt x k + dAt y k + c) / 65536) + (dAt x k + dAt y k + c) % 65536 := by omega
    generalize hq : (dAt x k + dAt y k + c) / 65536 = q at *
    generalize hr : (dAt x k + dAt y k + c) % 65536 = r at *
    have e3 : (65536 : Int) ^ k * dAt x k + 65536 ^ k * dAt y k + 65536 ^ k * c = 65536 ^ k * 65536 * q + 65536 ^ k * r := by
      rw [← Int.mul_add, ← Int.mul_add, hm, Int.mul_add, Int.mul_assoc]
    have g1 : ((vl l + 65536 ^ k * r.toNat : Nat) : Int) = (vl l : Int) + 65536 ^ k * r := by rw [Int.natCast_add, Int.natCast_mul, Int.natCast_pow, hs]; rfl
    have g2 : ((vl (x.take k) + 65536 ^ k * x.getD k 0 : Nat) : Int) = (vl (x.take k) : Int) + 65536 ^ k * dAt x k := by rw [Int.natCast_add, Int.natCast_mul, Int.natCast_pow]; rfl
    have g3 : ((vl (y.take k) + 65536 ^ k * y.getD k 0 : Nat) : Int) = (vl (y.take k) : Int) + 65536 ^ k * dAt y k := by rw [Int.natCast_add, Int.natCast_mul, Int.natCast_pow]; rfl
    rw [g1, g2, g3]
    omega
  · rcases Nat.lt_or_ge k (max x.length y.length + 1) with h | h
    · omega
    · have := el (by omega); omega
  · intro e
    have := hend (by omega)
    omega
theorem SumI.fin {x y l : List Nat} {k : Nat} {c : Int} (h : SumI x y l k c) (hx : ¬ k < x.length) (hy : ¬ k < y.length) (hc : ¬ 0 < c) : vl l = vl x + vl y := by
  obtain ⟨e1, e2, c0, c1, ev, et, el⟩ := h
  rw [show c = 0 by omega, List.take_of_length_le (by omega), List.take_of_length_le (by omega)] at ev
  simp at ev; omega
def ls (x y : List Nat) : Bool := decide (vl x < vl y)
theorem vl_ext : ∀ (x y : List Nat), (∀ t, dAt x t = dAt y t) → vl x = vl y
  | [], [], _ => rfl
  | [], b :: y, h => by
    have h0 := h 0
    have ih := vl_ext [] y (fun t => by have := h (t + 1); simpa [dAt] using this)
    simp [dAt] at h0
    simp only [vl] at ih ⊢
    omega
  | a :: x, [], h => by
    have h0 := h 0
    have ih := vl_ext x [] (fun t => by have := h (t + 1); simpa [dAt] using this)
    simp [dAt] at h0
    simp only [vl] at ih ⊢
    omega
  | a :: x, b :: y, h => by
    have h0 := h 0
    have ih := vl_ext x y (fun t => by have := h (t + 1); simpa [dAt] using this)
    simp [dAt] at h0
    simp only [vl]
    omega
theorem dAt_drop (l : List Nat) (k t : Nat) : dAt (l.drop k) t = dAt l (k + t) := by unfold dAt; simp [List.getD, List.getElem?_drop]
theorem vl_at (l : List Nat) (j : Nat) : vl l = vl (l.take j) + 65536 ^ j * l.getD j 0 + 65536 ^ (j + 1) * vl (l.drop (j + 1)) := by
  rw [vl_split l (j + 1), vl_take']
theorem lt_of_digit {x y : List Nat} (hx : Ok x) (hy : Ok y) (j : Nat) (ht : ∀ t, j < t → dAt x t = dAt y t) (h : dAt x j < dAt y j) : vl x < vl y := by
  have e : vl (x.drop (j + 1)) = vl (y.drop (j + 1)) := vl_ext _ _ (fun t => by rw [dAt_drop, dAt_drop]; exact ht _ (by omega))
  have hl := vl_lt (ok_take hx j)
  have h3 : 65536 ^ (x.take j).length ≤ 65536 ^ j := Nat.pow_le_pow_right (by omega) (List.length_take_le _ _)
  have hd : x.getD j 0 + 1 ≤ y.getD j 0 := by unfold dAt at h; omega
  have hm : 65536 ^ j * (x.getD j 0 + 1) ≤ 65536 ^ j * y.getD j 0 := Nat.mul_le_mul_left _ hd
  rw [Nat.mul_add, Nat.mul_one] at hm
  rw [vl_at x j, vl_at y j, e]
  omega
theorem ls_digit {x y : List Nat} (hx : Ok x) (hy : Ok y) (j : Nat) (ht : ∀ t, j < t → dAt x t = dAt y t) (h : dAt x j ≠ dAt y j) : decide (dAt x j < dAt y j) = ls x y := by
  unfold ls
  rcases Int.lt_or_gt_of_ne h with k | k
  · have := lt_of_digit hx hy j ht k
    simp [k, this]
  · have := lt_of_digit hy hx j (fun t h => (ht t h).symm) k
    have k' : ¬ dAt x j < dAt y j := by omega
    have this' : ¬ vl x < vl y := by omega
    simp [k', this']
theorem ls_none {x y : List Nat} (ht : ∀ t, dAt x t = dAt y t) : ls x y = false := by
  unfold ls; rw [vl_ext x y ht]; simp
/-- All digits from j on are alike. -/
def Same (x y : List Nat) (j : Int) : Prop := ∀ t : Nat, j < t → dAt x t = dAt y t
theorem Same.start (x y : List Nat) (n : Int) (h1 : (x.length : Int) ≤ n) (h2 : (y.length : Int) ≤ n) : Same x y (n - 1) := fun t ht => by
  unfold dAt; simp [List.getD, List.getElem?_eq_none (show x.length ≤ t by omega), List.getElem?_eq_none (show y.length ≤ t by omega)]
theorem Same.down {x y : List Nat} {j : Nat} (h : Same x y j) (e : dAt x j = dAt y j) : Same x y ((j : Int) - 1) := fun t ht => by
  rcases Nat.lt_or_ge j t with k | k
  · exact h t (by omega)
  · rw [show t = j by omega]; exact e
structure TakeI (x y l : List Nat) (k : Nat) (c : Int) : Prop where
  len : l.length = k
  ok : Ok l
  c0 : 0 ≤ c
  c1 : c ≤ 1
  val : (vl l : Int) - 65536 ^ k * c = vl (x.take k) - vl (y.take k)
theorem TakeI.start (x y : List Nat) : TakeI x y [] 0 0 := ⟨rfl, (fun d h => by cases h), by omega, by omega, by simp [vl]⟩
theorem TakeI.step {x y l : List Nat} {k : Nat} {c : Int} (h : TakeI x y l k c) (r q : Int) (hr0 : 0 ≤ r) (hr1 : r < 65536) (hq0 : 0 ≤ q) (hq1 : q ≤ 1) (hm : dAt x k - dAt y k - c = r - 65536 * q) :
    TakeI x y (l ++ [r.toNat]) (k + 1) q := by
  obtain ⟨e1, e2, c0, c1, ev⟩ := h
  refine ⟨by simp [e1], ok_append e2 (fun d hd => by simp at hd; omega), hq0, hq1, ?_⟩
  rw [vl_snoc, e1, vl_take', vl_take', Int.pow_succ]
  have hs : ((r.toNat : Nat) : Int) = r := by omega
  have e3 : (65536 : Int) ^ k * dAt x k - 65536 ^ k * dAt y k - 65536 ^ k * c = 65536 ^ k * r - 65536 ^ k * 65536 * q := by
    rw [← Int.mul_sub, ← Int.mul_sub, hm, Int.mul_sub, Int.mul_assoc]
  have g1 : ((vl l + 65536 ^ k * r.toNat : Nat) : Int) = (vl l : Int) + 65536 ^ k * r := by rw [Int.natCast_add, Int.natCast_mul, Int.natCast_pow, hs]; rfl
  have g2 : ((vl (x.take k) + 65536 ^ k * x.getD k 0 : Nat) : Int) = (vl (x.take k) : Int) + 65536 ^ k * dAt x k := by rw [Int.natCast_add, Int.natCast_mul, Int.natCast_pow]; rfl
  have g3 : ((vl (y.take k) + 65536 ^ k * y.getD k 0 : Nat) : Int) = (vl (y.take k) : Int) + 65536 ^ k * dAt y k := by rw [Int.natCast_add, Int.natCast_mul, Int.natCast_pow]; rfl
  rw [g1, g2, g3]
  omega
theorem TakeI.fin {x y l : List Nat} {c : Int} (h : TakeI x y l x.length c) (hx : Ok x) (hy : Ok y) (hle : vl y ≤ vl x) : vl l = vl x - vl y := by
  obtain ⟨e1, e2, c0, c1, ev⟩ := h
  have b1 := vl_lt hx
  have b2 := vl_lt e2
  rw [e1] at b2
  have e3 : vl (y.take x.length) = vl y := by rw [vl_take_mod hy, Nat.mod_eq_of_lt (by omega)]
  rw [e3, List.take_of_length_le (Nat.le_refl _)] at ev
  have hp : ((65536 ^ x.length : Nat) : Int) = 65536 ^ x.length := by rw [Int.natCast_pow]; rfl
  have hc : c = 0 ∨ c = 1 := by omega
  rcases hc with rfl | rfl
  · omega
  · exfalso; omega
theorem dg_vl {l : List Nat} (h : Ok l) (i : Nat) : dg (vl l) i = l.getD i 0 := by
  have e := vl_at l i
  have hl := vl_lt (ok_take h i)
  have h3 : 65536 ^ (l.take i).length ≤ 65536 ^ i := Nat.pow_le_pow_right (by omega) (List.length_take_le _ _)
  have hd := ok_getD h i
  have e2 : vl l = vl (l.take i) + 65536 ^ i * (l.getD i 0 + 65536 * vl (l.drop (i + 1))) := by
    rw [e, Nat.pow_succ, Nat.mul_add, Nat.mul_assoc]; omega
  unfold dg
  rw [e2, Nat.add_mul_div_left _ _ (Nat.pow_pos (by omega)), Nat.div_eq_of_lt (by omega)]
  omega
/-- Word q, when the digits from j on have come. -/
def ow (V j q : Nat) : Nat := if 4 * q + 4 ≤ j then 0 else V / 65536 ^ (max j (4 * q)) % 65536 ^ (4 * q + 4 - max j (4 * q))
theorem ow_mod0 (V : Nat) : w0 (V % big) = w0 V := by unfold w0 big; omega
theorem ow_mod1 (V : Nat) : w1 (V % big) = w1 V := by unfold w1 big; omega
theorem ow_mod2 (V : Nat) : w2 (V % big) = w2 V := by unfold w2 big; omega
theorem ow_mod3 (V : Nat) : w3 (V % big) = w3 V := by unfold w3 big; omega
theorem vl_set : ∀ (l : List Nat) (j d : Nat), j < l.length → vl (l.set j d) + 65536 ^ j * l.getD j 0 = vl l + 65536 ^ j * d
  | [], j, d, h => by simp at h
  | a :: r, 0, d, _ => by simp [vl]; omega
  | a :: r, j + 1, d, h => by
    have ih := vl_set r j d (by simpa using h)
    simp only [List.set_cons_succ, vl, List.getD_cons_succ, Nat.pow_succ]
    have e1 : 65536 ^ j * 65536 * r.getD j 0 = 65536 * (65536 ^ j * r.getD j 0) := by rw [Nat.mul_comm (65536 ^ j) 65536, Nat.mul_assoc]
    have e2 : 65536 ^ j * 65536 * d = 65536 * (65536 ^ j * d) := by rw [Nat.mul_comm (65536 ^ j) 65536, Nat.mul_assoc]
    rw [e1, e2]
    omega
theorem ok_set {l : List Nat} (h : Ok l) (j d : Nat) (hd : d < 65536) : Ok (l.set j d) := fun x hx => by
  rcases List.mem_or_eq_of_mem_set hx with h1 | h1
  · exact h x h1
  · rw [h1]; exact hd
theorem vl_zeros (n : Nat) : vl (List.replicate n 0) = 0 := by
  induction n with
  | zero => rfl
  | succ n ih => rw [List.replicate_succ, vl, ih]
theorem ok_zeros (n : Nat) : Ok (List.replicate n 0) := fun d hd => by
  have := List.eq_of_mem_replicate hd; omega
/-- What the inner rounds keep: out, the carry c, at place i of x and k of y. -/
structure MulI (x y out : List Nat) (i k c : Nat) : Prop where
  len : out.length = x.length + y.length + 1
  ok : Ok out
  hi : i < x.length
  cw : c < 65536
  val : vl out + 65536 ^ (i + k) * c = vl (x.take i) * vl y + 65536 ^ i * (x.getD i 0 * vl (y.take k))
  top : k ≤ y.length + 1
  last : k = y.length + 1 → c = 0
theorem MulI.start {x y out : List Nat} {i : Nat} (hl : out.length = x.length + y.length + 1) (hok : Ok out) (hi : i < x.length) (hv : vl out = vl (x.take i) * vl y) : MulI x y out i 0 0 :=
  ⟨hl, hok, hi, by omega, by simp [vl, hv], by omega, by omega⟩
theorem MulI.next {x y out : List Nat} {i k c : Nat} (h : MulI x y out i k c) (hx : Ok x) (hy : Ok y) (hgo : k < y.length ∨ 0 < c) :
    i + k < out.length ∧ MulI x y (out.set (i + k) ((out.getD (i + k) 0 + x.getD i 0 * y.getD k 0 + c) % 65536)) i (k + 1) ((out.getD (i + k) 0 + x.getD i 0 * y.getD k 0 + c) / 65536) := by
  obtain ⟨e1, e2, e3, e4, ev, et, el⟩ := h
  have hk : k ≤ y.length := by
    rcases Nat.lt_or_ge k (y.length + 1) with h | h
    · omega
    · have := el (by omega); omega
  have hij : i + k < out.length := by omega
  refine ⟨hij, ?_⟩
  have ho := ok_getD e2 (i + k)
  have hxi := ok_getD hx i
  have hyk := ok_getD hy k
  generalize hn : out.getD (i + k) 0 + x.getD i 0 * y.getD k 0 + c = n
  have hm : x.getD i 0 * y.getD k 0 ≤ 65535 * 65535 := Nat.mul_le_mul (by omega) (by omega)
  have hset := vl_set out (i + k) (n % 65536) hij
  have hnew : vl (out.set (i + k) (n % 65536)) + 65536 ^ (i + (k + 1)) * (n / 65536) = vl (x.take i) * vl y + 65536 ^ i * (x.getD i 0 * vl (y.take (k + 1))) := by
    have hp : 65536 ^ (i + (k + 1)) * (n / 65536) + 65536 ^ (i + k) * (n % 65536) = 65536 ^ (i + k) * n := by
      rw [show i + (k + 1) = (i + k) + 1 by omega, Nat.pow_succ, Nat.mul_assoc, ← Nat.mul_add]
      congr 1; omega
    have ht : 65536 ^ i * (x.getD i 0 * vl (y.take (k + 1))) = 65536 ^ i * (x.getD i 0 * vl (y.take k)) + 65536 ^ (i + k) * (x.getD i 0 * y.getD k 0) := by
      rw [vl_take', Nat.mul_add, Nat.mul_add, Nat.pow_add, Nat.mul_left_comm (x.getD i 0), Nat.mul_assoc (65536 ^ i)]
    have hs : 65536 ^ (i + k) * n = 65536 ^ (i + k) * out.getD (i + k) 0 + 65536 ^ (i + k) * (x.getD i 0 * y.getD k 0) + 65536 ^ (i + k) * c := by
      rw [← hn, Nat.mul_add, Nat.mul_add]
    rw [ht]
    omega
  refine ⟨by simpa using e1, ok_set e2 _ _ (Nat.mod_lt _ (by omega)), e3, ?_, hnew, by omega, ?_⟩
  · omega
  · intro hkl
    have hky : k = y.length := by omega
    -- at the end the number has no digit there
    have hb : vl (x.take i) * vl y + 65536 ^ i * (x.getD i 0 * vl (y.take (k + 1))) = vl (x.take (i + 1)) * vl y := by
      rw [List.take_of_length_le (l := y) (by omega), vl_take' x, Nat.add_mul, Nat.mul_assoc]
    have b1 := vl_lt (ok_take hx (i + 1))
    have b2 : 65536 ^ (x.take (i + 1)).length ≤ 65536 ^ (i + 1) := Nat.pow_le_pow_right (by omega) (List.length_take_le _ _)
    have b3 := vl_lt hy
    have b4 : vl (x.take (i + 1)) * vl y < 65536 ^ (i + 1) * 65536 ^ y.length := by
      exact Nat.mul_lt_mul_of_lt_of_le (by omega) (Nat.le_of_lt b3) (Nat.pow_pos (by omega))
    rw [← Nat.pow_add] at b4
    rw [hb] at hnew
    rcases Nat.eq_zero_or_pos (n / 65536) with hz | hz
    · exact hz
    · exfalso
      have h5 : 65536 ^ (i + (k + 1)) * 1 ≤ 65536 ^ (i + (k + 1)) * (n / 65536) := Nat.mul_le_mul_left _ hz
      rw [show i + (k + 1) = i + 1 + y.length by omega] at h5 hnew
      omega
theorem MulI.fin {x y out : List Nat} {i k c : Nat} (h : MulI x y out i k c) (hk : ¬ k < y.length) (hc : ¬ 0 < c) : vl out = vl (x.take (i + 1)) * vl y := by
  obtain ⟨e1, e2, e3, e4, ev, et, el⟩ := h
  rw [show c = 0 by omega, List.take_of_length_le (l := y) (by omega)] at ev
  rw [vl_take', Nat.add_mul, Nat.mul_assoc]
  simpa using ev
theorem SumI.go {x y l : List Nat} {k c : Nat} (h : SumI x y l k (c : Int)) (hx : Ok x) (hy : Ok y) (hgo : k < x.length ∨ k < y.length ∨ 0 < c) :
    SumI x y (l ++ [(x.getD k 0 + y.getD k 0 + c) % 65536]) (k + 1) (((x.getD k 0 + y.getD k 0 + c) / 65536 : Nat) : Int) := by
  have hn := h.next hx hy (by omega)
  unfold dAt at hn
  rw [show ((((x.getD k 0 : Nat) : Int) + ((y.getD k 0 : Nat) : Int) + (c : Int)) % 65536).toNat = (x.getD k 0 + y.getD k 0 + c) % 65536 by omega,
    show (((x.getD k 0 : Nat) : Int) + ((y.getD k 0 : Nat) : Int) + (c : Int)) / 65536 = (((x.getD k 0 + y.getD k 0 + c) / 65536 : Nat) : Int) by omega] at hn
  exact hn
theorem SumI.done {x y l : List Nat} {k c : Nat} (h : SumI x y l k (c : Int)) (hx : ¬ k < x.length) (hy : ¬ k < y.length) (hc : ¬ 0 < c) : vl l = vl x + vl y := h.fin hx hy (by omega)
/-- The words of a number in digits. -/
theorem word_digits {x : List Nat} (h : Ok x) (q : Nat) : ((x.getD (4 * q + 3) 0 * 65536 + x.getD (4 * q + 2) 0) * 65536 + x.getD (4 * q + 1) 0) * 65536 + x.getD (4 * q) 0 = vl x / 65536 ^ (4 * q) % 18446744073709551616 := by
  rw [← dg_vl h (4 * q + 3), ← dg_vl h (4 * q + 2), ← dg_vl h (4 * q + 1), ← dg_vl h (4 * q)]
  unfold dg
  rw [Nat.pow_add, Nat.pow_add 65536 (4 * q) 2, Nat.pow_add 65536 (4 * q) 1, ← Nat.div_div_eq_div_mul, ← Nat.div_div_eq_div_mul, ← Nat.div_div_eq_div_mul]
  generalize vl x / 65536 ^ (4 * q) = X
  show ((X / 281474976710656 % 65536 * 65536 + X / 4294967296 % 65536) * 65536 + X / 65536 % 65536) * 65536 + X % 65536 = _
  omega
theorem uv_digits {x : List Nat} (h : Ok x) (g : Nat → Nat) (hg : ∀ i, g i = x.getD i 0) :
    Value.agg #[.int .u64 (((((g 3 * 65536 + g 2) * 65536 + g 1) * 65536 + g 0 : Nat)) : Int), .int .u64 (((((g 7 * 65536 + g 6) * 65536 + g 5) * 65536 + g 4 : Nat)) : Int), .int .u64 (((((g 11 * 65536 + g 10) * 65536 + g 9) * 65536 + g 8 : Nat)) : Int), .int .u64 (((((g 15 * 65536 + g 14) * 65536 + g 13) * 65536 + g 12 : Nat)) : Int)] = uv (vl x % big) := by
  have e0 := word_digits h 0; have e1 := word_digits h 1; have e2 := word_digits h 2; have e3 := word_digits h 3
  simp only [hg]
  have f0 : ((((x.getD 3 0 * 65536 + x.getD 2 0) * 65536 + x.getD 1 0) * 65536 + x.getD 0 0 : Nat) : Int) = w0 (vl x % big) := by
    rw [ow_mod0]; unfold w0; rw [e0, Nat.mul_zero, Nat.pow_zero, Nat.div_one]
  have f1 : ((((x.getD 7 0 * 65536 + x.getD 6 0) * 65536 + x.getD 5 0) * 65536 + x.getD 4 0 : Nat) : Int) = w1 (vl x % big) := by
    rw [ow_mod1]; unfold w1; rw [e1]
  have f2 : ((((x.getD 11 0 * 65536 + x.getD 10 0) * 65536 + x.getD 9 0) * 65536 + x.getD 8 0 : Nat) : Int) = w2 (vl x % big) := by
    rw [ow_mod2]; unfold w2; rw [e2]
  have f3 : ((((x.getD 15 0 * 65536 + x.getD 14 0) * 65536 + x.getD 13 0) * 65536 + x.getD 12 0 : Nat) : Int) = w3 (vl x % big) := by
    rw [ow_mod3]; unfold w3; rw [e3]
  rw [f0, f1, f2, f3]
end Go.Proofs.YtmmloghbnpfedaaDoor

namespace Go.Proofs.YtmmloghbnpfedaaDoor
open Go Go.RowKit
set_option linter.unusedVariables false
set_option maxRecDepth 100000 in
set_option maxHeartbeats 2000000 in
theorem digit_fn (x : List Nat) (ba nx ca : Nat) (curA : Array Value) (hnx : nx = List.length x) (hA : Rw 1 curA ca nx (cellsD x)) (lx : List.length x ≤ 100000) (i : Nat) (hi : i ≤ 100000) : FnP Tryd.prog 71 #[.slice (some ⟨ba, 0, none⟩) nx ca, .int .i64 ((i : Nat) : Int)] (fun w => w.heap[ba]? = some (.cells curA 3 (0, 0))) (.int .i64 ((List.getD x i 0 : Nat) : Int)) := by
  subst hnx
  refine FnP.intro (c := codeOf Tryd.f71) [.tmp 4] 13 Tryd.func71 kr kr kr fun w hpre => ?_
  have H0 := St.start w
  refine rS [.v] H0 kr fun gs1 w1 H1 => ?_
  clear H0
  refine g_seq kr ?_
  refine g_sreg [0, 1, 2, 3] kr kr ?_
  refine rp [.v, .v, .v] H1 kr fun gs2 w2 H2 => ?_
  show WPs _ _ _ _ [3] _ _
  clear H1
  by_cases hc1 : (i : Nat) < List.length x
  · skip
    refine rp [.e (v := .bool (decide (((i : Nat) : Int) < ((List.length x : Nat) : Int)))) (v' := .bool true) (bool_eq (decide_eq_true (by omega)))] H2 kr fun gs3 w3 H3 => ?_
    show WPs _ _ _ _ [] _ _
    clear H2
    refine s_nil ?_
    refine g_cond_t kr kr ?_
    refine rS [.v, .v, .o (ins := [((.tmp 9), .slice (some ⟨ba, 0, none⟩) (List.length x) ca), ((.tmp 10), .int .i64 ((i : Nat) : Int))]) (v := .pointer (some ⟨ba, 0 + i * 1, none⟩)) (fun ρ o w ho hi => idxS_run (kd := .i64) (t := 60) (e := 3) (size := 1) (bytes := 8) kr (x := (.tmp 9)) (y := (.tmp 10)) ba 0 (List.length x) ca i ho hi.1 hi.2.1 (by omega) w), .fs (off := 0 + i * 1) (v := .int .i64 ((List.getD x i 0 : Nat) : Int)) hpre (lt_of_heap hpre) (hA.atD (by omega) rfl), .v] H3 kr fun gs4 w4 H4 => ?_
    clear H3
    refine g_ret kr ?_
    show ∃ vs, Res _ _ _ _ vs ∧ _
    refine ⟨[.int .i64 ((List.getD x i 0 : Nat) : Int)], (.tmp (.int .i64 ((List.getD x i 0 : Nat) : Int)) kr .nil), ?_, H4.below⟩
    first | rfl | (rw [show List.getD x i 0 = 0 by simp [List.getD, List.getElem?_eq_none (show x.length ≤ i by omega)]]; rfl)
  · skip
    refine rp [.e (v := .bool (decide (((i : Nat) : Int) < ((List.length x : Nat) : Int)))) (v' := .bool false) (bool_eq (decide_eq_false (by omega)))] H2 kr fun gs5 w5 H5 => ?_
    show WPs _ _ _ _ [] _ _
    clear H2
    refine s_nil ?_
    refine g_cond_f kr kr ?_
    refine g_skip kr ?_
    show WP _ _ _ _ _ _
    refine rS [.v] H5 kr fun gs6 w6 H6 => ?_
    clear H5
    refine g_ret kr ?_
    show ∃ vs, Res _ _ _ _ vs ∧ _
    refine ⟨[.int .i64 0], (.tmp (.int .i64 0) kr .nil), ?_, H6.below⟩
    first | rfl | (rw [show List.getD x i 0 = 0 by simp [List.getD, List.getElem?_eq_none (show x.length ≤ i by omega)]]; rfl)
theorem vl_dgs16 {A : Nat} (h : A < big) : vl (dgs A 16) = A := by rw [vl_dgs, ← big_pow, Nat.mod_eq_of_lt h]
theorem of_cast (X n : Nat) : IntKind.i64.wrap ((X / 2 ^ n % 65536 : Nat) : Int) = ((X : Nat) : Int) / 2 ^ n % 65536 := by
  have h := Nat.mod_lt (X / 2 ^ n) (show 0 < 65536 by omega)
  rw [wrapN_i64 (by omega), Int.natCast_emod, Int.natCast_ediv, Int.natCast_pow]; rfl
theorem of_word0 (A k : Nat) (h : k / 4 = 0) : IntKind.i64.wrap (((A % 18446744073709551616 / 2 ^ (16 * (k % 4)) % 65536 : Nat)) : Int) = ((dg A k : Nat) : Int) := (of_cast _ _).trans (dg_word0 A k h)
theorem of_word1 (A k : Nat) (h : k / 4 = 1) : IntKind.i64.wrap (((A / 18446744073709551616 % 18446744073709551616 / 2 ^ (16 * (k % 4)) % 65536 : Nat)) : Int) = ((dg A k : Nat) : Int) := (of_cast _ _).trans (dg_word1 A k h)
theorem of_word2 (A k : Nat) (h : k / 4 = 2) : IntKind.i64.wrap (((A / 340282366920938463463374607431768211456 % 18446744073709551616 / 2 ^ (16 * (k % 4)) % 65536 : Nat)) : Int) = ((dg A k : Nat) : Int) := (of_cast _ _).trans (dg_word2 A k h)
theorem of_word3 (A k : Nat) (h : k / 4 = 3) : IntKind.i64.wrap (((A / 6277101735386680763835789423207666416102355444464034512896 % 18446744073709551616 / 2 ^ (16 * (k % 4)) % 65536 : Nat)) : Int) = ((dg A k : Nat) : Int) := (of_cast _ _).trans (dg_word3 A k h)
set_option maxRecDepth 100000 in
set_option maxHeartbeats 2000000 in
theorem of_fn (A : Nat) (hA : A < big) : FnR Tryd.prog 35 #[uv A] (fun _ => True) (RetS 3 1 (fun cur cap n l => (n = List.length l ∧ Rw 1 cur cap n (cellsD l) ∧ Ok l ∧ (l = dgs A 16 ∧ vl l = A ∧ List.length l = 16)))) := by
  refine FnR.intro (c := codeOf Tryd.f35) [.tmp 2] 25 Tryd.func35 kr kr kr fun w hpre => ?_
  have H0 := St.start w
  refine rS [.b, .v] H0 kr fun gs1 w1 H1 => ?_
  clear H0
  refine rS [.nw (fun b => .slice (some ⟨b, 0, none⟩) 0 0) #[] 3, .v] H1 kr fun gs2 w2 H2 => ?_
  clear H1
  refine g_seq kr ?_
  refine rS [.v] H2 kr fun gs3 w3 H3 => ?_
  clear H2
  refine g_block 0 kr ?_
  have HL1 : St w.heap.size w w3 [((gs1 0).b, Obj.cells (Value.cells (uv A)) 24 (0, 0)), ((gs2 0).b, Obj.cells #[] 3 (0, 0))] := H3.as kr
  clear H3
  refine g_first kr ?_
  refine g_seq kr ?_
  refine rS [.v, .v] HL1 kr fun gs4 w4 H4 => ?_
  clear HL1
  refine g_cond_t kr kr ?_
  refine g_skip kr ?_
  show WP _ _ _ _ _ _
  refine g_seq kr ?_
  refine g_block 1 kr ?_
  refine g_reg0 [0, 1, 2, 3, 4, 5, 6, 7, 8, 9, 10, 11, 12, 13, 14] kr ?_
  refine rp [.v, .v, .v, .v, .l 0, .v, .v, .v, .v, .e (v := .int .u64 (Int.fdiv ((A % 18446744073709551616 : Nat) : Int) (2 ^ 0))) (v' := .int .u64 (((A % 18446744073709551616) / 1 : Nat) : Int)) (int_eq (shrN (k := 0) (A % 18446744073709551616) 1 rfl)), .e (v := .int .u64 (Int.tmod (((A % 18446744073709551616) / 1 : Nat) : Int) 65536)) (v' := .int .u64 ((((A % 18446744073709551616) / 1) % 65536 : Nat) : Int)) (int_eq (remN ((A % 18446744073709551616) / 1) 65536)), .e (v := .int .i64 (IntKind.i64.wrap (((((A % 18446744073709551616) / 1) % 65536 : Nat) : Int)))) (v' := .int .i64 ((dg A 0 : Nat) : Int)) (int_eq (of_word0 A 0 rfl)), .nw (fun b => .slice (some ⟨b, 0, none⟩) 1 1) #[.int .i64 ((dg A 0 : Nat) : Int)] 3] H4 kr fun gs5 w5 H5 => ?_
  show WPs _ _ _ _ [13, 14] _ _
  clear H4
  refine s_append H5 (some 23) 60 3 1 8 (.tmp 10) (.tmp 22) 1 2 ((gs2 0).b) ((gs5 12).b) 0 1 0 1 #[] #[.int .i64 ((dg A 0 : Nat) : Int)] 3 (0, 0) ([]) ([.int .i64 ((dg A 0 : Nat) : Int)]) (fun b_1 cur_3 => [((gs1 0).b, Obj.cells (Value.cells (uv A)) 24 (0, 0)), (b_1, Obj.cells cur_3 3 (0, 0)), ((gs5 12).b, Obj.cells #[.int .i64 ((dg A 0 : Nat) : Int)] 3 (0, 0))]) kr kr kr kr kr (Rw.lit #[] 0 (by rfl) (by unfold maxLen; omega)) kr kr (by rfl) (by rfl) (by intro u hu; simp at hu; first | exact hu.elim | (rcases hu with rfl | rfl | rfl | rfl <;> rfl) | (rcases hu with rfl | rfl <;> rfl) | (subst hu; rfl)) (by omega) (by unfold maxLen; omega) (fun _ _ => by kernel_rfl) ?_
  intro b_1 cap_2 cur_3 w6 H6 hr_4; clear H5
  have hr_4' : Rw 1 cur_3 cap_2 1 (cellsD (dgs A 1)) := by rw [dgs_succ, cellsD_append]; exact hr_4
  refine rp [.v] H6 kr fun gs7 w7 H7 => ?_
  show WPs _ _ _ _ [] _ _
  clear H6
  refine s_nil ?_
  show WP _ _ _ _ _ _
  refine g_keep [0, 1, 2, 3, 4, 7] fun ρ1 => ?_
  have HK2 := H7.keep
  clear H7
  refine rL [.v, .v, .v] HK2 kr fun gs8 w8 H8 => ?_
  clear HK2
  show WPL _ _ _ _ _ _
  refine g_next ?_
  refine g_seq kr ?_
  refine rS [.v, .v] H8 kr fun gs9 w9 H9 => ?_
  clear H8
  refine g_cond_t kr kr ?_
  refine g_skip kr ?_
  show WP _ _ _ _ _ _
  refine g_seq kr ?_
  refine g_block 1 kr ?_
  refine g_reg0 [0, 1, 2, 3, 4, 5, 6, 7, 8, 9, 10, 11, 12, 13, 14] kr ?_
  refine rp [.v, .v, .v, .v, .l 0, .v, .v, .v, .v, .e (v := .int .u64 (Int.fdiv ((A % 18446744073709551616 : Nat) : Int) (2 ^ 16))) (v' := .int .u64 (((A % 18446744073709551616) / 65536 : Nat) : Int)) (int_eq (shrN (k := 16) (A % 18446744073709551616) 65536 rfl)), .e (v := .int .u64 (Int.tmod (((A % 18446744073709551616) / 65536 : Nat) : Int) 65536)) (v' := .int .u64 ((((A % 18446744073709551616) / 65536) % 65536 : Nat) : Int)) (int_eq (remN ((A % 18446744073709551616) / 65536) 65536)), .e (v := .int .i64 (IntKind.i64.wrap (((((A % 18446744073709551616) / 65536) % 65536 : Nat) : Int)))) (v' := .int .i64 ((dg A 1 : Nat) : Int)) (int_eq (of_word0 A 1 rfl)), .nw (fun b => .slice (some ⟨b, 0, none⟩) 1 1) #[.int .i64 ((dg A 1 : Nat) : Int)] 3] H9 kr fun gs10 w10 H10 => ?_
  show WPs _ _ _ _ [13, 14] _ _
  clear H9
  refine s_append H10 (some 23) 60 3 1 8 (.tmp 10) (.tmp 22) 1 3 b_1 ((gs10 12).b) 1 1 cap_2 1 cur_3 #[.int .i64 ((dg A 1 : Nat) : Int)] 3 (0, 0) (cellsD (dgs A 1)) ([.int .i64 ((dg A 1 : Nat) : Int)]) (fun b_5 cur_7 => [((gs1 0).b, Obj.cells (Value.cells (uv A)) 24 (0, 0)), (b_5, Obj.cells cur_7 3 (0, 0)), ((gs5 12).b, Obj.cells #[.int .i64 ((dg A 0 : Nat) : Int)] 3 (0, 0)), ((gs10 12).b, Obj.cells #[.int .i64 ((dg A 1 : Nat) : Int)] 3 (0, 0))]) kr kr kr kr kr hr_4' kr kr (by rfl) (by rfl) (by intro u hu; simp at hu; first | exact hu.elim | (rcases hu with rfl | rfl | rfl | rfl <;> rfl) | (rcases hu with rfl | rfl <;> rfl) | (subst hu; rfl)) (by omega) (by unfold maxLen; omega) (fun _ _ => by kernel_rfl) ?_
  intro b_5 cap_6 cur_7 w11 H11 hr_8; clear H10
  have hr_8' : Rw 1 cur_7 cap_6 2 (cellsD (dgs A 2)) := by rw [dgs_succ, cellsD_append]; exact hr_8
  refine rp [.v] H11 kr fun gs12 w12 H12 => ?_
  show WPs _ _ _ _ [] _ _
  clear H11
  refine s_nil ?_
  show WP _ _ _ _ _ _
  refine g_keep [0, 1, 2, 3, 4, 7] fun ρ2 => ?_
  have HK3 := H12.keep
  clear H12
  refine rL [.v, .v, .v] HK3 kr fun gs13 w13 H13 => ?_
  clear HK3
  show WPL _ _ _ _ _ _
  refine g_next ?_
  refine g_seq kr ?_
  refine rS [.v, .v] H13 kr fun gs14 w14 H14 => ?_
  clear H13
  refine g_cond_t kr kr ?_
  refine g_skip kr ?_
  show WP _ _ _ _ _ _
  refine g_seq kr ?_
  refine g_block 1 kr ?_
  refine g_reg0 [0, 1, 2, 3, 4, 5, 6, 7, 8, 9, 10, 11, 12, 13, 14] kr ?_
  refine rp [.v, .v, .v, .v, .l 0, .v, .v, .v, .v, .e (v := .int .u64 (Int.fdiv ((A % 18446744073709551616 : Nat) : Int) (2 ^ 32))) (v' := .int .u64 (((A % 18446744073709551616) / 4294967296 : Nat) : Int)) (int_eq (shrN (k := 32) (A % 18446744073709551616) 4294967296 rfl)), .e (v := .int .u64 (Int.tmod (((A % 18446744073709551616) / 4294967296 : Nat) : Int) 65536)) (v' := .int .u64 ((((A % 18446744073709551616) / 4294967296) % 65536 : Nat) : Int)) (int_eq (remN ((A % 18446744073709551616) / 4294967296) 65536)), .e (v := .int .i64 (IntKind.i64.wrap (((((A % 18446744073709551616) / 4294967296) % 65536 : Nat) : Int)))) (v' := .int .i64 ((dg A 2 : Nat) : Int)) (int_eq (of_word0 A 2 rfl)), .nw (fun b => .slice (some ⟨b, 0, none⟩) 1 1) #[.int .i64 ((dg A 2 : Nat) : Int)] 3] H14 kr fun gs15 w15 H15 => ?_
  show WPs _ _ _ _ [13, 14] _ _
  clear H14
  refine s_append H15 (some 23) 60 3 1 8 (.tmp 10) (.tmp 22) 1 4 b_5 ((gs15 12).b) 2 1 cap_6 1 cur_7 #[.int .i64 ((dg A 2 : Nat) : Int)] 3 (0, 0) (cellsD (dgs A 2)) ([.int .i64 ((dg A 2 : Nat) : Int)]) (fun b_9 cur_11 => [((gs1 0).b, Obj.cells (Value.cells (uv A)) 24 (0, 0)), (b_9, Obj.cells cur_11 3 (0, 0)), ((gs5 12).b, Obj.cells #[.int .i64 ((dg A 0 : Nat) : Int)] 3 (0, 0)), ((gs10 12).b, Obj.cells #[.int .i64 ((dg A 1 : Nat) : Int)] 3 (0, 0)), ((gs15 12).b, Obj.cells #[.int .i64 ((dg A 2 : Nat) : Int)] 3 (0, 0))]) kr kr kr kr kr hr_8' kr kr (by rfl) (by rfl) (by intro u hu; simp at hu; first | exact hu.elim | (rcases hu with rfl | rfl | rfl | rfl <;> rfl) | (rcases hu with rfl | rfl <;> rfl) | (subst hu; rfl)) (by omega) (by unfold maxLen; omega) (fun _ _ => by kernel_rfl) ?_
  intro b_9 cap_10 cur_11 w16 H16 hr_12; clear H15
  have hr_12' : Rw 1 cur_11 cap_10 3 (cellsD (dgs A 3)) := by rw [dgs_succ, cellsD_append]; exact hr_12
  refine rp [.v] H16 kr fun gs17 w17 H17 => ?_
  show WPs _ _ _ _ [] _ _
  clear H16
  refine s_nil ?_
  show WP _ _ _ _ _ _
  refine g_keep [0, 1, 2, 3, 4, 7] fun ρ3 => ?_
  have HK4 := H17.keep
  clear H17
  refine rL [.v, .v, .v] HK4 kr fun gs18 w18 H18 => ?_
  clear HK4
  show WPL _ _ _ _ _ _
  refine g_next ?_
  refine g_seq kr ?_
  refine rS [.v, .v] H18 kr fun gs19 w19 H19 => ?_
  clear H18
  refine g_cond_t kr kr ?_
  refine g_skip kr ?_
  show WP _ _ _ _ _ _
  refine g_seq kr ?_
  refine g_block 1 kr ?_
  refine g_reg0 [0, 1, 2, 3, 4, 5, 6, 7, 8, 9, 10, 11, 12, 13, 14] kr ?_
  refine rp [.v, .v, .v, .v, .l 0, .v, .v, .v, .v, .e (v := .int .u64 (Int.fdiv ((A % 18446744073709551616 : Nat) : Int) (2 ^ 48))) (v' := .int .u64 (((A % 18446744073709551616) / 281474976710656 : Nat) : Int)) (int_eq (shrN (k := 48) (A % 18446744073709551616) 281474976710656 rfl)), .e (v := .int .u64 (Int.tmod (((A % 18446744073709551616) / 281474976710656 : Nat) : Int) 65536)) (v' := .int .u64 ((((A % 18446744073709551616) / 281474976710656) % 65536 : Nat) : Int)) (int_eq (remN ((A % 18446744073709551616) / 281474976710656) 65536)), .e (v := .int .i64 (IntKind.i64.wrap (((((A % 18446744073709551616) / 281474976710656) % 65536 : Nat) : Int)))) (v' := .int .i64 ((dg A 3 : Nat) : Int)) (int_eq (of_word0 A 3 rfl)), .nw (fun b => .slice (some ⟨b, 0, none⟩) 1 1) #[.int .i64 ((dg A 3 : Nat) : Int)] 3] H19 kr fun gs20 w20 H20 => ?_
  show WPs _ _ _ _ [13, 14] _ _
  clear H19
  refine s_append H20 (some 23) 60 3 1 8 (.tmp 10) (.tmp 22) 1 5 b_9 ((gs20 12).b) 3 1 cap_10 1 cur_11 #[.int .i64 ((dg A 3 : Nat) : Int)] 3 (0, 0) (cellsD (dgs A 3)) ([.int .i64 ((dg A 3 : Nat) : Int)]) (fun b_13 cur_15 => [((gs1 0).b, Obj.cells (Value.cells (uv A)) 24 (0, 0)), (b_13, Obj.cells cur_15 3 (0, 0)), ((gs5 12).b, Obj.cells #[.int .i64 ((dg A 0 : Nat) : Int)] 3 (0, 0)), ((gs10 12).b, Obj.cells #[.int .i64 ((dg A 1 : Nat) : Int)] 3 (0, 0)), ((gs15 12).b, Obj.cells #[.int .i64 ((dg A 2 : Nat) : Int)] 3 (0, 0)), ((gs20 12).b, Obj.cells #[.int .i64 ((dg A 3 : Nat) : Int)] 3 (0, 0))]) kr kr kr kr kr hr_12' kr kr (by rfl) (by rfl) (by intro u hu; simp at hu; first | exact hu.elim | (rcases hu with rfl | rfl | rfl | rfl <;> rfl) | (rcases hu with rfl | rfl <;> rfl) | (subst hu; rfl)) (by omega) (by unfold maxLen; omega) (fun _ _ => by kernel_rfl) ?_
  intro b_13 cap_14 cur_15 w21 H21 hr_16; clear H20
  have hr_16' : Rw 1 cur_15 cap_14 4 (cellsD (dgs A 4)) := by rw [dgs_succ, cellsD_append]; exact hr_16
  refine rp [.v] H21 kr fun gs22 w22 H22 => ?_
  show WPs _ _ _ _ [] _ _
  clear H21
  refine s_nil ?_
  show WP _ _ _ _ _ _
  refine g_keep [0, 1, 2, 3, 4, 7] fun ρ4 => ?_
  have HK5 := H22.keep
  clear H22
  refine rL [.v, .v, .v] HK5 kr fun gs23 w23 H23 => ?_
  clear HK5
  show WPL _ _ _ _ _ _
  refine g_next ?_
  refine g_seq kr ?_
  refine rS [.v, .v] H23 kr fun gs24 w24 H24 => ?_
  clear H23
  refine g_cond_t kr kr ?_
  refine g_skip kr ?_
  show WP _ _ _ _ _ _
  refine g_seq kr ?_
  refine g_block 1 kr ?_
  refine g_reg0 [0, 1, 2, 3, 4, 5, 6, 7, 8, 9, 10, 11, 12, 13, 14] kr ?_
  refine rp [.v, .v, .v, .v, .l 0, .v, .v, .v, .v, .e (v := .int .u64 (Int.fdiv ((A / 18446744073709551616 % 18446744073709551616 : Nat) : Int) (2 ^ 0))) (v' := .int .u64 (((A / 18446744073709551616 % 18446744073709551616) / 1 : Nat) : Int)) (int_eq (shrN (k := 0) (A / 18446744073709551616 % 18446744073709551616) 1 rfl)), .e (v := .int .u64 (Int.tmod (((A / 18446744073709551616 % 18446744073709551616) / 1 : Nat) : Int) 65536)) (v' := .int .u64 ((((A / 18446744073709551616 % 18446744073709551616) / 1) % 65536 : Nat) : Int)) (int_eq (remN ((A / 18446744073709551616 % 18446744073709551616) / 1) 65536)), .e (v := .int .i64 (IntKind.i64.wrap (((((A / 18446744073709551616 % 18446744073709551616) / 1) % 65536 : Nat) : Int)))) (v' := .int .i64 ((dg A 4 : Nat) : Int)) (int_eq (of_word1 A 4 rfl)), .nw (fun b => .slice (some ⟨b, 0, none⟩) 1 1) #[.int .i64 ((dg A 4 : Nat) : Int)] 3] H24 kr fun gs25 w25 H25 => ?_
  show WPs _ _ _ _ [13, 14] _ _
  clear H24
  refine s_append H25 (some 23) 60 3 1 8 (.tmp 10) (.tmp 22) 1 6 b_13 ((gs25 12).b) 4 1 cap_14 1 cur_15 #[.int .i64 ((dg A 4 : Nat) : Int)] 3 (0, 0) (cellsD (dgs A 4)) ([.int .i64 ((dg A 4 : Nat) : Int)]) (fun b_17 cur_19 => [((gs1 0).b, Obj.cells (Value.cells (uv A)) 24 (0, 0)), (b_17, Obj.cells cur_19 3 (0, 0)), ((gs5 12).b, Obj.cells #[.int .i64 ((dg A 0 : Nat) : Int)] 3 (0, 0)), ((gs10 12).b, Obj.cells #[.int .i64 ((dg A 1 : Nat) : Int)] 3 (0, 0)), ((gs15 12).b, Obj.cells #[.int .i64 ((dg A 2 : Nat) : Int)] 3 (0, 0)), ((gs20 12).b, Obj.cells #[.int .i64 ((dg A 3 : Nat) : Int)] 3 (0, 0)), ((gs25 12).b, Obj.cells #[.int .i64 ((dg A 4 : Nat) : Int)] 3 (0, 0))]) kr kr kr kr kr hr_16' kr kr (by rfl) (by rfl) (by intro u hu; simp at hu; first | exact hu.elim | (rcases hu with rfl | rfl | rfl | rfl <;> rfl) | (rcases hu with rfl | rfl <;> rfl) | (subst hu; rfl)) (by omega) (by unfold maxLen; omega) (fun _ _ => by kernel_rfl) ?_
  intro b_17 cap_18 cur_19 w26 H26 hr_20; clear H25
  have hr_20' : Rw 1 cur_19 cap_18 5 (cellsD (dgs A 5)) := by rw [dgs_succ, cellsD_append]; exact hr_20
  refine rp [.v] H26 kr fun gs27 w27 H27 => ?_
  show WPs _ _ _ _ [] _ _
  clear H26
  refine s_nil ?_
  show WP _ _ _ _ _ _
  refine g_keep [0, 1, 2, 3, 4, 7] fun ρ5 => ?_
  have HK6 := H27.keep
  clear H27
  refine rL [.v, .v, .v] HK6 kr fun gs28 w28 H28 => ?_
  clear HK6
  show WPL _ _ _ _ _ _
  refine g_next ?_
  refine g_seq kr ?_
  refine rS [.v, .v] H28 kr fun gs29 w29 H29 => ?_
  clear H28
  refine g_cond_t kr kr ?_
  refine g_skip kr ?_
  show WP _ _ _ _ _ _
  refine g_seq kr ?_
  refine g_block 1 kr ?_
  refine g_reg0 [0, 1, 2, 3, 4, 5, 6, 7, 8, 9, 10, 11, 12, 13, 14] kr ?_
  refine rp [.v, .v, .v, .v, .l 0, .v, .v, .v, .v, .e (v := .int .u64 (Int.fdiv ((A / 18446744073709551616 % 18446744073709551616 : Nat) : Int) (2 ^ 16))) (v' := .int .u64 (((A / 18446744073709551616 % 18446744073709551616) / 65536 : Nat) : Int)) (int_eq (shrN (k := 16) (A / 18446744073709551616 % 18446744073709551616) 65536 rfl)), .e (v := .int .u64 (Int.tmod (((A / 18446744073709551616 % 18446744073709551616) / 65536 : Nat) : Int) 65536)) (v' := .int .u64 ((((A / 18446744073709551616 % 18446744073709551616) / 65536) % 65536 : Nat) : Int)) (int_eq (remN ((A / 18446744073709551616 % 18446744073709551616) / 65536) 65536)), .e (v := .int .i64 (IntKind.i64.wrap (((((A / 18446744073709551616 % 18446744073709551616) / 65536) % 65536 : Nat) : Int)))) (v' := .int .i64 ((dg A 5 : Nat) : Int)) (int_eq (of_word1 A 5 rfl)), .nw (fun b => .slice (some ⟨b, 0, none⟩) 1 1) #[.int .i64 ((dg A 5 : Nat) : Int)] 3] H29 kr fun gs30 w30 H30 => ?_
  show WPs _ _ _ _ [13, 14] _ _
  clear H29
  refine s_append H30 (some 23) 60 3 1 8 (.tmp 10) (.tmp 22) 1 7 b_17 ((gs30 12).b) 5 1 cap_18 1 cur_19 #[.int .i64 ((dg A 5 : Nat) : Int)] 3 (0, 0) (cellsD (dgs A 5)) ([.int .i64 ((dg A 5 : Nat) : Int)]) (fun b_21 cur_23 => [((gs1 0).b, Obj.cells (Value.cells (uv A)) 24 (0, 0)), (b_21, Obj.cells cur_23 3 (0, 0)), ((gs5 12).b, Obj.cells #[.int .i64 ((dg A 0 : Nat) : Int)] 3 (0, 0)), ((gs10 12).b, Obj.cells #[.int .i64 ((dg A 1 : Nat) : Int)] 3 (0, 0)), ((gs15 12).b, Obj.cells #[.int .i64 ((dg A 2 : Nat) : Int)] 3 (0, 0)), ((gs20 12).b, Obj.cells #[.int .i64 ((dg A 3 : Nat) : Int)] 3 (0, 0)), ((gs25 12).b, Obj.cells #[.int .i64 ((dg A 4 : Nat) : Int)] 3 (0, 0)), ((gs30 12).b, Obj.cells #[.int .i64 ((dg A 5 : Nat) : Int)] 3 (0, 0))]) kr kr kr kr kr hr_20' kr kr (by rfl) (by rfl) (by intro u hu; simp at hu; first | exact hu.elim | (rcases hu with rfl | rfl | rfl | rfl <;> rfl) | (rcases hu with rfl | rfl <;> rfl) | (subst hu; rfl)) (by omega) (by unfold maxLen; omega) (fun _ _ => by kernel_rfl) ?_
  intro b_21 cap_22 cur_23 w31 H31 hr_24; clear H30
  have hr_24' : Rw 1 cur_23 cap_22 6 (cellsD (dgs A 6)) := by rw [dgs_succ, cellsD_append]; exact hr_24
  refine rp [.v] H31 kr fun gs32 w32 H32 => ?_
  show WPs _ _ _ _ [] _ _
  clear H31
  refine s_nil ?_
  show WP _ _ _ _ _ _
  refine g_keep [0, 1, 2, 3, 4, 7] fun ρ6 => ?_
  have HK7 := H32.keep
  clear H32
  refine rL [.v, .v, .v] HK7 kr fun gs33 w33 H33 => ?_
  clear HK7
  show WPL _ _ _ _ _ _
  refine g_next ?_
  refine g_seq kr ?_
  refine rS [.v, .v] H33 kr fun gs34 w34 H34 => ?_
  clear H33
  refine g_cond_t kr kr ?_
  refine g_skip kr ?_
  show WP _ _ _ _ _ _
  refine g_seq kr ?_
  refine g_block 1 kr ?_
  refine g_reg0 [0, 1, 2, 3, 4, 5, 6, 7, 8, 9, 10, 11, 12, 13, 14] kr ?_
  refine rp [.v, .v, .v, .v, .l 0, .v, .v, .v, .v, .e (v := .int .u64 (Int.fdiv ((A / 18446744073709551616 % 18446744073709551616 : Nat) : Int) (2 ^ 32))) (v' := .int .u64 (((A / 18446744073709551616 % 18446744073709551616) / 4294967296 : Nat) : Int)) (int_eq (shrN (k := 32) (A / 18446744073709551616 % 18446744073709551616) 4294967296 rfl)), .e (v := .int .u64 (Int.tmod (((A / 18446744073709551616 % 18446744073709551616) / 4294967296 : Nat) : Int) 65536)) (v' := .int .u64 ((((A / 18446744073709551616 % 18446744073709551616) / 4294967296) % 65536 : Nat) : Int)) (int_eq (remN ((A / 18446744073709551616 % 18446744073709551616) / 4294967296) 65536)), .e (v := .int .i64 (IntKind.i64.wrap (((((A / 18446744073709551616 % 18446744073709551616) / 4294967296) % 65536 : Nat) : Int)))) (v' := .int .i64 ((dg A 6 : Nat) : Int)) (int_eq (of_word1 A 6 rfl)), .nw (fun b => .slice (some ⟨b, 0, none⟩) 1 1) #[.int .i64 ((dg A 6 : Nat) : Int)] 3] H34 kr fun gs35 w35 H35 => ?_
  show WPs _ _ _ _ [13, 14] _ _
  clear H34
  refine s_append H35 (some 23) 60 3 1 8 (.tmp 10) (.tmp 22) 1 8 b_21 ((gs35 12).b) 6 1 cap_22 1 cur_23 #[.int .i64 ((dg A 6 : Nat) : Int)] 3 (0, 0) (cellsD (dgs A 6)) ([.int .i64 ((dg A 6 : Nat) : Int)]) (fun b_25 cur_27 => [((gs1 0).b, Obj.cells (Value.cells (uv A)) 24 (0, 0)), (b_25, Obj.cells cur_27 3 (0, 0)), ((gs5 12).b, Obj.cells #[.int .i64 ((dg A 0 : Nat) : Int)] 3 (0, 0)), ((gs10 12).b, Obj.cells #[.int .i64 ((dg A 1 : Nat) : Int)] 3 (0, 0)), ((gs15 12).b, Obj.cells #[.int .i64 ((dg A 2 : Nat) : Int)] 3 (0, 0)), ((gs20 12).b, Obj.cells #[.int .i64 ((dg A 3 : Nat) : Int)] 3 (0, 0)), ((gs25 12).b, Obj.cells #[.int .i64 ((dg A 4 : Nat) : Int)] 3 (0, 0)), ((gs30 12).b, Obj.cells #[.int .i64 ((dg A 5 : Nat) : Int)] 3 (0, 0)), ((gs35 12).b, Obj.cells #[.int .i64 ((dg A 6 : Nat) : Int)] 3 (0, 0))]) kr kr kr kr kr hr_24' kr kr (by rfl) (by rfl) (by intro u hu; simp at hu; first | exact hu.elim | (rcases hu with rfl | rfl | rfl | rfl <;> rfl) | (rcases hu with rfl | rfl <;> rfl) | (subst hu; rfl)) (by omega) (by unfold maxLen; omega) (fun _ _ => by kernel_rfl) ?_
  intro b_25 cap_26 cur_27 w36 H36 hr_28; clear H35
  have hr_28' : Rw 1 cur_27 cap_26 7 (cellsD (dgs A 7)) := by rw [dgs_succ, cellsD_append]; exact hr_28
  refine rp [.v] H36 kr fun gs37 w37 H37 => ?_
  show WPs _ _ _ _ [] _ _
  clear H36
  refine s_nil ?_
  show WP _ _ _ _ _ _
  refine g_keep [0, 1, 2, 3, 4, 7] fun ρ7 => ?_
  have HK8 := H37.keep
  clear H37
  refine rL [.v, .v, .v] HK8 kr fun gs38 w38 H38 => ?_
  clear HK8
  show WPL _ _ _ _ _ _
  refine g_next ?_
  refine g_seq kr ?_
  refine rS [.v, .v] H38 kr fun gs39 w39 H39 => ?_
  clear H38
  refine g_cond_t kr kr ?_
  refine g_skip kr ?_
  show WP _ _ _ _ _ _
  refine g_seq kr ?_
  refine g_block 1 kr ?_
  refine g_reg0 [0, 1, 2, 3, 4, 5, 6, 7, 8, 9, 10, 11, 12, 13, 14] kr ?_
  refine rp [.v, .v, .v, .v, .l 0, .v, .v, .v, .v, .e (v := .int .u64 (Int.fdiv ((A / 18446744073709551616 % 18446744073709551616 : Nat) : Int) (2 ^ 48))) (v' := .int .u64 (((A / 18446744073709551616 % 18446744073709551616) / 281474976710656 : Nat) : Int)) (int_eq (shrN (k := 48) (A / 18446744073709551616 % 18446744073709551616) 281474976710656 rfl)), .e (v := .int .u64 (Int.tmod (((A / 18446744073709551616 % 18446744073709551616) / 281474976710656 : Nat) : Int) 65536)) (v' := .int .u64 ((((A / 18446744073709551616 % 18446744073709551616) / 281474976710656) % 65536 : Nat) : Int)) (int_eq (remN ((A / 18446744073709551616 % 18446744073709551616) / 281474976710656) 65536)), .e (v := .int .i64 (IntKind.i64.wrap (((((A / 18446744073709551616 % 18446744073709551616) / 281474976710656) % 65536 : Nat) : Int)))) (v' := .int .i64 ((dg A 7 : Nat) : Int)) (int_eq (of_word1 A 7 rfl)), .nw (fun b => .slice (some ⟨b, 0, none⟩) 1 1) #[.int .i64 ((dg A 7 : Nat) : Int)] 3] H39 kr fun gs40 w40 H40 => ?_
  show WPs _ _ _ _ [13, 14] _ _
  clear H39
  refine s_append H40 (some 23) 60 3 1 8 (.tmp 10) (.tmp 22) 1 9 b_25 ((gs40 12).b) 7 1 cap_26 1 cur_27 #[.int .i64 ((dg A 7 : Nat) : Int)] 3 (0, 0) (cellsD (dgs A 7)) ([.int .i64 ((dg A 7 : Nat) : Int)]) (fun b_29 cur_31 => [((gs1 0).b, Obj.cells (Value.cells (uv A)) 24 (0, 0)), (b_29, Obj.cells cur_31 3 (0, 0)), ((gs5 12).b, Obj.cells #[.int .i64 ((dg A 0 : Nat) : Int)] 3 (0, 0)), ((gs10 12).b, Obj.cells #[.int .i64 ((dg A 1 : Nat) : Int)] 3 (0, 0)), ((gs15 12).b, Obj.cells #[.int .i64 ((dg A 2 : Nat) : Int)] 3 (0, 0)), ((gs20 12).b, Obj.cells #[.int .i64 ((dg A 3 : Nat) : Int)] 3 (0, 0)), ((gs25 12).b, Obj.cells #[.int .i64 ((dg A 4 : Nat) : Int)] 3 (0, 0)), ((gs30 12).b, Obj.cells #[.int .i64 ((dg A 5 : Nat) : Int)] 3 (0, 0)), ((gs35 12).b, Obj.cells #[.int .i64 ((dg A 6 : Nat) : Int)] 3 (0, 0)), ((gs40 12).b, Obj.cells #[.int .i64 ((dg A 7 : Nat) : Int)] 3 (0, 0))]) kr kr kr kr kr hr_28' kr kr (by rfl) (by rfl) (by intro u hu; simp at hu; first | exact hu.elim | (rcases hu with rfl | rfl | rfl | rfl <;> rfl) | (rcases hu with rfl | rfl <;> rfl) | (subst hu; rfl)) (by omega) (by unfold maxLen; omega) (fun _ _ => by kernel_rfl) ?_
  intro b_29 cap_30 cur_31 w41 H41 hr_32; clear H40
  have hr_32' : Rw 1 cur_31 cap_30 8 (cellsD (dgs A 8)) := by rw [dgs_succ, cellsD_append]; exact hr_32
  refine rp [.v] H41 kr fun gs42 w42 H42 => ?_
  show WPs _ _ _ _ [] _ _
  clear H41
  refine s_nil ?_
  show WP _ _ _ _ _ _
  refine g_keep [0, 1, 2, 3, 4, 7] fun ρ8 => ?_
  have HK9 := H42.keep
  clear H42
  refine rL [.v, .v, .v] HK9 kr fun gs43 w43 H43 => ?_
  clear HK9
  show WPL _ _ _ _ _ _
  refine g_next ?_
  refine g_seq kr ?_
  refine rS [.v, .v] H43 kr fun gs44 w44 H44 => ?_
  clear H43
  refine g_cond_t kr kr ?_
  refine g_skip kr ?_
  show WP _ _ _ _ _ _
  refine g_seq kr ?_
  refine g_block 1 kr ?_
  refine g_reg0 [0, 1, 2, 3, 4, 5, 6, 7, 8, 9, 10, 11, 12, 13, 14] kr ?_
  refine rp [.v, .v, .v, .v, .l 0, .v, .v, .v, .v, .e (v := .int .u64 (Int.fdiv ((A / 340282366920938463463374607431768211456 % 18446744073709551616 : Nat) : Int) (2 ^ 0))) (v' := .int .u64 (((A / 340282366920938463463374607431768211456 % 18446744073709551616) / 1 : Nat) : Int)) (int_eq (shrN (k := 0) (A / 340282366920938463463374607431768211456 % 18446744073709551616) 1 rfl)), .e (v := .int .u64 (Int.tmod (((A / 340282366920938463463374607431768211456 % 18446744073709551616) / 1 : Nat) : Int) 65536)) (v' := .int .u64 ((((A / 340282366920938463463374607431768211456 % 18446744073709551616) / 1) % 65536 : Nat) : Int)) (int_eq (remN ((A / 340282366920938463463374607431768211456 % 18446744073709551616) / 1) 65536)), .e (v := .int .i64 (IntKind.i64.wrap (((((A / 340282366920938463463374607431768211456 % 18446744073709551616) / 1) % 65536 : Nat) : Int)))) (v' := .int .i64 ((dg A 8 : Nat) : Int)) (int_eq (of_word2 A 8 rfl)), .nw (fun b => .slice (some ⟨b, 0, none⟩) 1 1) #[.int .i64 ((dg A 8 : Nat) : Int)] 3] H44 kr fun gs45 w45 H45 => ?_
  show WPs _ _ _ _ [13, 14] _ _
  clear H44
  refine s_append H45 (some 23) 60 3 1 8 (.tmp 10) (.tmp 22) 1 10 b_29 ((gs45 12).b) 8 1 cap_30 1 cur_31 #[.int .i64 ((dg A 8 : Nat) : Int)] 3 (0, 0) (cellsD (dgs A 8)) ([.int .i64 ((dg A 8 : Nat) : Int)]) (fun b_33 cur_35 => [((gs1 0).b, Obj.cells (Value.cells (uv A)) 24 (0, 0)), (b_33, Obj.cells cur_35 3 (0, 0)), ((gs5 12).b, Obj.cells #[.int .i64 ((dg A 0 : Nat) : Int)] 3 (0, 0)), ((gs10 12).b, Obj.cells #[.int .i64 ((dg A 1 : Nat) : Int)] 3 (0, 0)), ((gs15 12).b, Obj.cells #[.int .i64 ((dg A 2 : Nat) : Int)] 3 (0, 0)), ((gs20 12).b, Obj.cells #[.int .i64 ((dg A 3 : Nat) : Int)] 3 (0, 0)), ((gs25 12).b, Obj.cells #[.int .i64 ((dg A 4 : Nat) : Int)] 3 (0, 0)), ((gs30 12).b, Obj.cells #[.int .i64 ((dg A 5 : Nat) : Int)] 3 (0, 0)), ((gs35 12).b, Obj.cells #[.int .i64 ((dg A 6 : Nat) : Int)] 3 (0, 0)), ((gs40 12).b, Obj.cells #[.int .i64 ((dg A 7 : Nat) : Int)] 3 (0, 0)), ((gs45 12).b, Obj.cells #[.int .i64 ((dg A 8 : Nat) : Int)] 3 (0, 0))]) kr kr kr kr kr hr_32' kr kr (by rfl) (by rfl) (by intro u hu; simp at hu; first | exact hu.elim | (rcases hu with rfl | rfl | rfl | rfl <;> rfl) | (rcases hu with rfl | rfl <;> rfl) | (subst hu; rfl)) (by omega) (by unfold maxLen; omega) (fun _ _ => by kernel_rfl) ?_
  intro b_33 cap_34 cur_35 w46 H46 hr_36; clear H45
  have hr_36' : Rw 1 cur_35 cap_34 9 (cellsD (dgs A 9)) := by rw [dgs_succ, cellsD_append]; exact hr_36
  refine rp [.v] H46 kr fun gs47 w47 H47 => ?_
  show WPs _ _ _ _ [] _ _
  clear H46
  refine s_nil ?_
  show WP _ _ _ _ _ _
  refine g_keep [0, 1, 2, 3, 4, 7] fun ρ9 => ?_
  have HK10 := H47.keep
  clear H47
  refine rL [.v, .v, .v] HK10 kr fun gs48 w48 H48 => ?_
  clear HK10
  show WPL _ _ _ _ _ _
  refine g_next ?_
  refine g_seq kr ?_
  refine rS [.v, .v] H48 kr fun gs49 w49 H49 => ?_
  clear H48
  refine g_cond_t kr kr ?_
  refine g_skip kr ?_
  show WP _ _ _ _ _ _
  refine g_seq kr ?_
  refine g_block 1 kr ?_
  refine g_reg0 [0, 1, 2, 3, 4, 5, 6, 7, 8, 9, 10, 11, 12, 13, 14] kr ?_
  refine rp [.v, .v, .v, .v, .l 0, .v, .v, .v, .v, .e (v := .int .u64 (Int.fdiv ((A / 340282366920938463463374607431768211456 % 18446744073709551616 : Nat) : Int) (2 ^ 16))) (v' := .int .u64 (((A / 340282366920938463463374607431768211456 % 18446744073709551616) / 65536 : Nat) : Int)) (int_eq (shrN (k := 16) (A / 340282366920938463463374607431768211456 % 18446744073709551616) 65536 rfl)), .e (v := .int .u64 (Int.tmod (((A / 340282366920938463463374607431768211456 % 18446744073709551616) / 65536 : Nat) : Int) 65536)) (v' := .int .u64 ((((A / 340282366920938463463374607431768211456 % 18446744073709551616) / 65536) % 65536 : Nat) : Int)) (int_eq (remN ((A / 340282366920938463463374607431768211456 % 18446744073709551616) / 65536) 65536)), .e (v := .int .i64 (IntKind.i64.wrap (((((A / 340282366920938463463374607431768211456 % 18446744073709551616) / 65536) % 65536 : Nat) : Int)))) (v' := .int .i64 ((dg A 9 : Nat) : Int)) (int_eq (of_word2 A 9 rfl)), .nw (fun b => .slice (some ⟨b, 0, none⟩) 1 1) #[.int .i64 ((dg A 9 : Nat) : Int)] 3] H49 kr fun gs50 w50 H50 => ?_
  show WPs _ _ _ _ [13, 14] _ _
  clear H49
  refine s_append H50 (some 23) 60 3 1 8 (.tmp 10) (.tmp 22) 1 11 b_33 ((gs50 12).b) 9 1 cap_34 1 cur_35 #[.int .i64 ((dg A 9 : Nat) : Int)] 3 (0, 0) (cellsD (dgs A 9)) ([.int .i64 ((dg A 9 : Nat) : Int)]) (fun b_37 cur_39 => [((gs1 0).b, Obj.cells (Value.cells (uv A)) 24 (0, 0)), (b_37, Obj.cells cur_39 3 (0, 0)), ((gs5 12).b, Obj.cells #[.int .i64 ((dg A 0 : Nat) : Int)] 3 (0, 0)), ((gs10 12).b, Obj.cells #[.int .i64 ((dg A 1 : Nat) : Int)] 3 (0, 0)), ((gs15 12).b, Obj.cells #[.int .i64 ((dg A 2 : Nat) : Int)] 3 (0, 0)), ((gs20 12).b, Obj.cells #[.int .i64 ((dg A 3 : Nat) : Int)] 3 (0, 0)), ((gs25 12).b, Obj.cells #[.int .i64 ((dg A 4 : Nat) : Int)] 3 (0, 0)), ((gs30 12).b, Obj.cells #[.int .i64 ((dg A 5 : Nat) : Int)] 3 (0, 0)), ((gs35 12).b, Obj.cells #[.int .i64 ((dg A 6 : Nat) : Int)] 3 (0, 0)), ((gs40 12).b, Obj.cells #[.int .i64 ((dg A 7 : Nat) : Int)] 3 (0, 0)), ((gs45 12).b, Obj.cells #[.int .i64 ((dg A 8 : Nat) : Int)] 3 (0, 0)), ((gs50 12).b, Obj.cells #[.int .i64 ((dg A 9 : Nat) : Int)] 3 (0, 0))]) kr kr kr kr kr hr_36' kr kr (by rfl) (by rfl) (by intro u hu; simp at hu; first | exact hu.elim | (rcases hu with rfl | rfl | rfl | rfl <;> rfl) | (rcases hu with rfl | rfl <;> rfl) | (subst hu; rfl)) (by omega) (by unfold maxLen; omega) (fun _ _ => by kernel_rfl) ?_
  intro b_37 cap_38 cur_39 w51 H51 hr_40; clear H50
  have hr_40' : Rw 1 cur_39 cap_38 10 (cellsD (dgs A 10)) := by rw [dgs_succ, cellsD_append]; exact hr_40
  refine rp [.v] H51 kr fun gs52 w52 H52 => ?_
  show WPs _ _ _ _ [] _ _
  clear H51
  refine s_nil ?_
  show WP _ _ _ _ _ _
  refine g_keep [0, 1, 2, 3, 4, 7] fun ρ10 => ?_
  have HK11 := H52.keep
  clear H52
  refine rL [.v, .v, .v] HK11 kr fun gs53 w53 H53 => ?_
  clear HK11
  show WPL _ _ _ _ _ _
  refine g_next ?_
  refine g_seq kr ?_
  refine rS [.v, .v] H53 kr fun gs54 w54 H54 => ?_
  clear H53
  refine g_cond_t kr kr ?_
  refine g_skip kr ?_
  show WP _ _ _ _ _ _
  refine g_seq kr ?_
  refine g_block 1 kr ?_
  refine g_reg0 [0, 1, 2, 3, 4, 5, 6, 7, 8, 9, 10, 11, 12, 13, 14] kr ?_
  refine rp [.v, .v, .v, .v, .l 0, .v, .v, .v, .v, .e (v := .int .u64 (Int.fdiv ((A / 340282366920938463463374607431768211456 % 18446744073709551616 : Nat) : Int) (2 ^ 32))) (v' := .int .u64 (((A / 340282366920938463463374607431768211456 % 18446744073709551616) / 4294967296 : Nat) : Int)) (int_eq (shrN (k := 32) (A / 340282366920938463463374607431768211456 % 18446744073709551616) 4294967296 rfl)), .e (v := .int .u64 (Int.tmod (((A / 340282366920938463463374607431768211456 % 18446744073709551616) / 4294967296 : Nat) : Int) 65536)) (v' := .int .u64 ((((A / 340282366920938463463374607431768211456 % 18446744073709551616) / 4294967296) % 65536 : Nat) : Int)) (int_eq (remN ((A / 340282366920938463463374607431768211456 % 18446744073709551616) / 4294967296) 65536)), .e (v := .int .i64 (IntKind.i64.wrap (((((A / 340282366920938463463374607431768211456 % 18446744073709551616) / 4294967296) % 65536 : Nat) : Int)))) (v' := .int .i64 ((dg A 10 : Nat) : Int)) (int_eq (of_word2 A 10 rfl)), .nw (fun b => .slice (some ⟨b, 0, none⟩) 1 1) #[.int .i64 ((dg A 10 : Nat) : Int)] 3] H54 kr fun gs55 w55 H55 => ?_
  show WPs _ _ _ _ [13, 14] _ _
  clear H54
  refine s_append H55 (some 23) 60 3 1 8 (.tmp 10) (.tmp 22) 1 12 b_37 ((gs55 12).b) 10 1 cap_38 1 cur_39 #[.int .i64 ((dg A 10 : Nat) : Int)] 3 (0, 0) (cellsD (dgs A 10)) ([.int .i64 ((dg A 10 : Nat) : Int)]) (fun b_41 cur_43 => [((gs1 0).b, Obj.cells (Value.cells (uv A)) 24 (0, 0)), (b_41, Obj.cells cur_43 3 (0, 0)), ((gs5 12).b, Obj.cells #[.int .i64 ((dg A 0 : Nat) : Int)] 3 (0, 0)), ((gs10 12).b, Obj.cells #[.int .i64 ((dg A 1 : Nat) : Int)] 3 (0, 0)), ((gs15 12).b, Obj.cells #[.int .i64 ((dg A 2 : Nat) : Int)] 3 (0, 0)), ((gs20 12).b, Obj.cells #[.int .i64 ((dg A 3 : Nat) : Int)] 3 (0, 0)), ((gs25 12).b, Obj.cells #[.int .i64 ((dg A 4 : Nat) : Int)] 3 (0, 0)), ((gs30 12).b, Obj.cells #[.int .i64 ((dg A 5 : Nat) : Int)] 3 (0, 0)), ((gs35 12).b, Obj.cells #[.int .i64 ((dg A 6 : Nat) : Int)] 3 (0, 0)), ((gs40 12).b, Obj.cells #[.int .i64 ((dg A 7 : Nat) : Int)] 3 (0, 0)), ((gs45 12).b, Obj.cells #[.int .i64 ((dg A 8 : Nat) : Int)] 3 (0, 0)), ((gs50 12).b, Obj.cells #[.int .i64 ((dg A 9 : Nat) : Int)] 3 (0, 0)), ((gs55 12).b, Obj.cells #[.int .i64 ((dg A 10 : Nat) : Int)] 3 (0, 0))]) kr kr kr kr kr hr_40' kr kr (by rfl) (by rfl) (by intro u hu; simp at hu; first | exact hu.elim | (rcases hu with rfl | rfl | rfl | rfl <;> rfl) | (rcases hu with rfl | rfl <;> rfl) | (subst hu; rfl)) (by omega) (by unfold maxLen; omega) (fun _ _ => by kernel_rfl) ?_
  intro b_41 cap_42 cur_43 w56 H56 hr_44; clear H55
  have hr_44' : Rw 1 cur_43 cap_42 11 (cellsD (dgs A 11)) := by rw [dgs_succ, cellsD_append]; exact hr_44
  refine rp [.v] H56 kr fun gs57 w57 H57 => ?_
  show WPs _ _ _ _ [] _ _
  clear H56
  refine s_nil ?_
  show WP _ _ _ _ _ _
  refine g_keep [0, 1, 2, 3, 4, 7] fun ρ11 => ?_
  have HK12 := H57.keep
  clear H57
  refine rL [.v, .v, .v] HK12 kr fun gs58 w58 H58 => ?_
  clear HK12
  show WPL _ _ _ _ _ _
  refine g_next ?_
  refine g_seq kr ?_
  refine rS [.v, .v] H58 kr fun gs59 w59 H59 => ?_
  clear H58
  refine g_cond_t kr kr ?_
  refine g_skip kr ?_
  show WP _ _ _ _ _ _
  refine g_seq kr ?_
  refine g_block 1 kr ?_
  refine g_reg0 [0, 1, 2, 3, 4, 5, 6, 7, 8, 9, 10, 11, 12, 13, 14] kr ?_
  refine rp [.v, .v, .v, .v, .l 0, .v, .v, .v, .v, .e (v := .int .u64 (Int.fdiv ((A / 340282366920938463463374607431768211456 % 18446744073709551616 : Nat) : Int) (2 ^ 48))) (v' := .int .u64 (((A / 340282366920938463463374607431768211456 % 18446744073709551616) / 281474976710656 : Nat) : Int)) (int_eq (shrN (k := 48) (A / 340282366920938463463374607431768211456 % 18446744073709551616) 281474976710656 rfl)), .e (v := .int .u64 (Int.tmod (((A / 340282366920938463463374607431768211456 % 18446744073709551616) / 281474976710656 : Nat) : Int) 65536)) (v' := .int .u64 ((((A / 340282366920938463463374607431768211456 % 18446744073709551616) / 281474976710656) % 65536 : Nat) : Int)) (int_eq (remN ((A / 340282366920938463463374607431768211456 % 18446744073709551616) / 281474976710656) 65536)), .e (v := .int .i64 (IntKind.i64.wrap (((((A / 340282366920938463463374607431768211456 % 18446744073709551616) / 281474976710656) % 65536 : Nat) : Int)))) (v' := .int .i64 ((dg A 11 : Nat) : Int)) (int_eq (of_word2 A 11 rfl)), .nw (fun b => .slice (some ⟨b, 0, none⟩) 1 1) #[.int .i64 ((dg A 11 : Nat) : Int)] 3] H59 kr fun gs60 w60 H60 => ?_
  show WPs _ _ _ _ [13, 14] _ _
  clear H59
  refine s_append H60 (some 23) 60 3 1 8 (.tmp 10) (.tmp 22) 1 13 b_41 ((gs60 12).b) 11 1 cap_42 1 cur_43 #[.int .i64 ((dg A 11 : Nat) : Int)] 3 (0, 0) (cellsD (dgs A 11)) ([.int .i64 ((dg A 11 : Nat) : Int)]) (fun b_45 cur_47 => [((gs1 0).b, Obj.cells (Value.cells (uv A)) 24 (0, 0)), (b_45, Obj.cells cur_47 3 (0, 0)), ((gs5 12).b, Obj.cells #[.int .i64 ((dg A 0 : Nat) : Int)] 3 (0, 0)), ((gs10 12).b, Obj.cells #[.int .i64 ((dg A 1 : Nat) : Int)] 3 (0, 0)), ((gs15 12).b, Obj.cells #[.int .i64 ((dg A 2 : Nat) : Int)] 3 (0, 0)), ((gs20 12).b, Obj.cells #[.int .i64 ((dg A 3 : Nat) : Int)] 3 (0, 0)), ((gs25 12).b, Obj.cells #[.int .i64 ((dg A 4 : Nat) : Int)] 3 (0, 0)), ((gs30 12).b, Obj.cells #[.int .i64 ((dg A 5 : Nat) : Int)] 3 (0, 0)), ((gs35 12).b, Obj.cells #[.int .i64 ((dg A 6 : Nat) : Int)] 3 (0, 0)), ((gs40 12).b, Obj.cells #[.int .i64 ((dg A 7 : Nat) : Int)] 3 (0, 0)), ((gs45 12).b, Obj.cells #[.int .i64 ((dg A 8 : Nat) : Int)] 3 (0, 0)), ((gs50 12).b, Obj.cells #[.int .i64 ((dg A 9 : Nat) : Int)] 3 (0, 0)), ((gs55 12).b, Obj.cells #[.int .i64 ((dg A 10 : Nat) : Int)] 3 (0, 0)), ((gs60 12).b, Obj.cells #[.int .i64 ((dg A 11 : Nat) : Int)] 3 (0, 0))]) kr kr kr kr kr hr_44' kr kr (by rfl) (by rfl) (by intro u hu; simp at hu; first | exact hu.elim | (rcases hu with rfl | rfl | rfl | rfl <;> rfl) | (rcases hu with rfl | rfl <;> rfl) | (subst hu; rfl)) (by omega) (by unfold maxLen; omega) (fun _ _ => by kernel_rfl) ?_
  intro b_45 cap_46 cur_47 w61 H61 hr_48; clear H60
  have hr_48' : Rw 1 cur_47 cap_46 12 (cellsD (dgs A 12)) := by rw [dgs_succ, cellsD_append]; exact hr_48
  refine rp [.v] H61 kr fun gs62 w62 H62 => ?_
  show WPs _ _ _ _ [] _ _
  clear H61
  refine s_nil ?_
  show WP _ _ _ _ _ _
  refine g_keep [0, 1, 2, 3, 4, 7] fun ρ12 => ?_
  have HK13 := H62.keep
  clear H62
  refine rL [.v, .v, .v] HK13 kr fun gs63 w63 H63 => ?_
  clear HK13
  show WPL _ _ _ _ _ _
  refine g_next ?_
  refine g_seq kr ?_
  refine rS [.v, .v] H63 kr fun gs64 w64 H64 => ?_
  clear H63
  refine g_cond_t kr kr ?_
  refine g_skip kr ?_
  show WP _ _ _ _ _ _
  refine g_seq kr ?_
  refine g_block 1 kr ?_
  refine g_reg0 [0, 1, 2, 3, 4, 5, 6, 7, 8, 9, 10, 11, 12, 13, 14] kr ?_
  refine rp [.v, .v, .v, .v, .l 0, .v, .v, .v, .v, .e (v := .int .u64 (Int.fdiv ((A / 6277101735386680763835789423207666416102355444464034512896 % 18446744073709551616 : Nat) : Int) (2 ^ 0))) (v' := .int .u64 (((A / 6277101735386680763835789423207666416102355444464034512896 % 18446744073709551616) / 1 : Nat) : Int)) (int_eq (shrN (k := 0) (A / 6277101735386680763835789423207666416102355444464034512896 % 18446744073709551616) 1 rfl)), .e (v := .int .u64 (Int.tmod (((A / 6277101735386680763835789423207666416102355444464034512896 % 18446744073709551616) / 1 : Nat) : Int) 65536)) (v' := .int .u64 ((((A / 6277101735386680763835789423207666416102355444464034512896 % 18446744073709551616) / 1) % 65536 : Nat) : Int)) (int_eq (remN ((A / 6277101735386680763835789423207666416102355444464034512896 % 18446744073709551616) / 1) 65536)), .e (v := .int .i64 (IntKind.i64.wrap (((((A / 6277101735386680763835789423207666416102355444464034512896 % 18446744073709551616) / 1) % 65536 : Nat) : Int)))) (v' := .int .i64 ((dg A 12 : Nat) : Int)) (int_eq (of_word3 A 12 rfl)), .nw (fun b => .slice (some ⟨b, 0, none⟩) 1 1) #[.int .i64 ((dg A 12 : Nat) : Int)] 3] H64 kr fun gs65 w65 H65 => ?_
  show WPs _ _ _ _ [13, 14] _ _
  clear H64
  refine s_append H65 (some 23) 60 3 1 8 (.tmp 10) (.tmp 22) 1 14 b_45 ((gs65 12).b) 12 1 cap_46 1 cur_47 #[.int .i64 ((dg A 12 : Nat) : Int)] 3 (0, 0) (cellsD (dgs A 12)) ([.int .i64 ((dg A 12 : Nat) : Int)]) (fun b_49 cur_51 => [((gs1 0).b, Obj.cells (Value.cells (uv A)) 24 (0, 0)), (b_49, Obj.cells cur_51 3 (0, 0)), ((gs5 12).b, Obj.cells #[.int .i64 ((dg A 0 : Nat) : Int)] 3 (0, 0)), ((gs10 12).b, Obj.cells #[.int .i64 ((dg A 1 : Nat) : Int)] 3 (0, 0)), ((gs15 12).b, Obj.cells #[.int .i64 ((dg A 2 : Nat) : Int)] 3 (0, 0)), ((gs20 12).b, Obj.cells #[.int .i64 ((dg A 3 : Nat) : Int)] 3 (0, 0)), ((gs25 12).b, Obj.cells #[.int .i64 ((dg A 4 : Nat) : Int)] 3 (0, 0)), ((gs30 12).b, Obj.cells #[.int .i64 ((dg A 5 : Nat) : Int)] 3 (0, 0)), ((gs35 12).b, Obj.cells #[.int .i64 ((dg A 6 : Nat) : Int)] 3 (0, 0)), ((gs40 12).b, Obj.cells #[.int .i64 ((dg A 7 : Nat) : Int)] 3 (0, 0)), ((gs45 12).b, Obj.cells #[.int .i64 ((dg A 8 : Nat) : Int)] 3 (0, 0)), ((gs50 12).b, Obj.cells #[.int .i64 ((dg A 9 : Nat) : Int)] 3 (0, 0)), ((gs55 12).b, Obj.cells #[.int .i64 ((dg A 10 : Nat) : Int)] 3 (0, 0)), ((gs60 12).b, Obj.cells #[.int .i64 ((dg A 11 : Nat) : Int)] 3 (0, 0)), ((gs65 12).b, Obj.cells #[.int .i64 ((dg A 12 : Nat) : Int)] 3 (0, 0))]) kr kr kr kr kr hr_48' kr kr (by rfl) (by rfl) (by intro u hu; simp at hu; first | exact hu.elim | (rcases hu with rfl | rfl | rfl | rfl <;> rfl) | (rcases hu with rfl | rfl <;> rfl) | (subst hu; rfl)) (by omega) (by unfold maxLen; omega) (fun _ _ => by kernel_rfl) ?_
  intro b_49 cap_50 cur_51 w66 H66 hr_52; clear H65
  have hr_52' : Rw 1 cur_51 cap_50 13 (cellsD (dgs A 13)) := by rw [dgs_succ, cellsD_append]; exact hr_52
  refine rp [.v] H66 kr fun gs67 w67 H67 => ?_
  show WPs _ _ _ _ [] _ _
  clear H66
  refine s_nil ?_
  show WP _ _ _ _ _ _
  refine g_keep [0, 1, 2, 3, 4, 7] fun ρ13 => ?_
  have HK14 := H67.keep
  clear H67
  refine rL [.v, .v, .v] HK14 kr fun gs68 w68 H68 => ?_
  clear HK14
  show WPL _ _ _ _ _ _
  refine g_next ?_
  refine g_seq kr ?_
  refine rS [.v, .v] H68 kr fun gs69 w69 H69 => ?_
  clear H68
  refine g_cond_t kr kr ?_
  refine g_skip kr ?_
  show WP _ _ _ _ _ _
  refine g_seq kr ?_
  refine g_block 1 kr ?_
  refine g_reg0 [0, 1, 2, 3, 4, 5, 6, 7, 8, 9, 10, 11, 12, 13, 14] kr ?_
  refine rp [.v, .v, .v, .v, .l 0, .v, .v, .v, .v, .e (v := .int .u64 (Int.fdiv ((A / 6277101735386680763835789423207666416102355444464034512896 % 18446744073709551616 : Nat) : Int) (2 ^ 16))) (v' := .int .u64 (((A / 6277101735386680763835789423207666416102355444464034512896 % 18446744073709551616) / 65536 : Nat) : Int)) (int_eq (shrN (k := 16) (A / 6277101735386680763835789423207666416102355444464034512896 % 18446744073709551616) 65536 rfl)), .e (v := .int .u64 (Int.tmod (((A / 6277101735386680763835789423207666416102355444464034512896 % 18446744073709551616) / 65536 : Nat) : Int) 65536)) (v' := .int .u64 ((((A / 6277101735386680763835789423207666416102355444464034512896 % 18446744073709551616) / 65536) % 65536 : Nat) : Int)) (int_eq (remN ((A / 6277101735386680763835789423207666416102355444464034512896 % 18446744073709551616) / 65536) 65536)), .e (v := .int .i64 (IntKind.i64.wrap (((((A / 6277101735386680763835789423207666416102355444464034512896 % 18446744073709551616) / 65536) % 65536 : Nat) : Int)))) (v' := .int .i64 ((dg A 13 : Nat) : Int)) (int_eq (of_word3 A 13 rfl)), .nw (fun b => .slice (some ⟨b, 0, none⟩) 1 1) #[.int .i64 ((dg A 13 : Nat) : Int)] 3] H69 kr fun gs70 w70 H70 => ?_
  show WPs _ _ _ _ [13, 14] _ _
  clear H69
  refine s_append H70 (some 23) 60 3 1 8 (.tmp 10) (.tmp 22) 1 15 b_49 ((gs70 12).b) 13 1 cap_50 1 cur_51 #[.int .i64 ((dg A 13 : Nat) : Int)] 3 (0, 0) (cellsD (dgs A 13)) ([.int .i64 ((dg A 13 : Nat) : Int)]) (fun b_53 cur_55 => [((gs1 0).b, Obj.cells (Value.cells (uv A)) 24 (0, 0)), (b_53, Obj.cells cur_55 3 (0, 0)), ((gs5 12).b, Obj.cells #[.int .i64 ((dg A 0 : Nat) : Int)] 3 (0, 0)), ((gs10 12).b, Obj.cells #[.int .i64 ((dg A 1 : Nat) : Int)] 3 (0, 0)), ((gs15 12).b, Obj.cells #[.int .i64 ((dg A 2 : Nat) : Int)] 3 (0, 0)), ((gs20 12).b, Obj.cells #[.int .i64 ((dg A 3 : Nat) : Int)] 3 (0, 0)), ((gs25 12).b, Obj.cells #[.int .i64 ((dg A 4 : Nat) : Int)] 3 (0, 0)), ((gs30 12).b, Obj.cells #[.int .i64 ((dg A 5 : Nat) : Int)] 3 (0, 0)), ((gs35 12).b, Obj.cells #[.int .i64 ((dg A 6 : Nat) : Int)] 3 (0, 0)), ((gs40 12).b, Obj.cells #[.int .i64 ((dg A 7 : Nat) : Int)] 3 (0, 0)), ((gs45 12).b, Obj.cells #[.int .i64 ((dg A 8 : Nat) : Int)] 3 (0, 0)), ((gs50 12).b, Obj.cells #[.int .i64 ((dg A 9 : Nat) : Int)] 3 (0, 0)), ((gs55 12).b, Obj.cells #[.int .i64 ((dg A 10 : Nat) : Int)] 3 (0, 0)), ((gs60 12).b, Obj.cells #[.int .i64 ((dg A 11 : Nat) : Int)] 3 (0, 0)), ((gs65 12).b, Obj.cells #[.int .i64 ((dg A 12 : Nat) : Int)] 3 (0, 0)), ((gs70 12).b, Obj.cells #[.int .i64 ((dg A 13 : Nat) : Int)] 3 (0, 0))]) kr kr kr kr kr hr_52' kr kr (by rfl) (by rfl) (by intro u hu; simp at hu; first | exact hu.elim | (rcases hu with rfl | rfl | rfl | rfl <;> rfl) | (rcases hu with rfl | rfl <;> rfl) | (subst hu; rfl)) (by omega) (by unfold maxLen; omega) (fun _ _ => by kernel_rfl) ?_
  intro b_53 cap_54 cur_55 w71 H71 hr_56; clear H70
  have hr_56' : Rw 1 cur_55 cap_54 14 (cellsD (dgs A 14)) := by rw [dgs_succ, cellsD_append]; exact hr_56
  refine rp [.v] H71 kr fun gs72 w72 H72 => ?_
  show WPs _ _ _ _ [] _ _
  clear H71
  refine s_nil ?_
  show WP _ _ _ _ _ _
  refine g_keep [0, 1, 2, 3, 4, 7] fun ρ14 => ?_
  have HK15 := H72.keep
  clear H72
  refine rL [.v, .v, .v] HK15 kr fun gs73 w73 H73 => ?_
  clear HK15
  show WPL _ _ _ _ _ _
  refine g_next ?_
  refine g_seq kr ?_
  refine rS [.v, .v] H73 kr fun gs74 w74 H74 => ?_
  clear H73
  refine g_cond_t kr kr ?_
  refine g_skip kr ?_
  show WP _ _ _ _ _ _
  refine g_seq kr ?_
  refine g_block 1 kr ?_
  refine g_reg0 [0, 1, 2, 3, 4, 5, 6, 7, 8, 9, 10, 11, 12, 13, 14] kr ?_
  refine rp [.v, .v, .v, .v, .l 0, .v, .v, .v, .v, .e (v := .int .u64 (Int.fdiv ((A / 6277101735386680763835789423207666416102355444464034512896 % 18446744073709551616 : Nat) : Int) (2 ^ 32))) (v' := .int .u64 (((A / 6277101735386680763835789423207666416102355444464034512896 % 18446744073709551616) / 4294967296 : Nat) : Int)) (int_eq (shrN (k := 32) (A / 6277101735386680763835789423207666416102355444464034512896 % 18446744073709551616) 4294967296 rfl)), .e (v := .int .u64 (Int.tmod (((A / 6277101735386680763835789423207666416102355444464034512896 % 18446744073709551616) / 4294967296 : Nat) : Int) 65536)) (v' := .int .u64 ((((A / 6277101735386680763835789423207666416102355444464034512896 % 18446744073709551616) / 4294967296) % 65536 : Nat) : Int)) (int_eq (remN ((A / 6277101735386680763835789423207666416102355444464034512896 % 18446744073709551616) / 4294967296) 65536)), .e (v := .int .i64 (IntKind.i64.wrap (((((A / 6277101735386680763835789423207666416102355444464034512896 % 18446744073709551616) / 4294967296) % 65536 : Nat) : Int)))) (v' := .int .i64 ((dg A 14 : Nat) : Int)) (int_eq (of_word3 A 14 rfl)), .nw (fun b => .slice (some ⟨b, 0, none⟩) 1 1) #[.int .i64 ((dg A 14 : Nat) : Int)] 3] H74 kr fun gs75 w75 H75 => ?_
  show WPs _ _ _ _ [13, 14] _ _
  clear H74
  refine s_append H75 (some 23) 60 3 1 8 (.tmp 10) (.tmp 22) 1 16 b_53 ((gs75 12).b) 14 1 cap_54 1 cur_55 #[.int .i64 ((dg A 14 : Nat) : Int)] 3 (0, 0) (cellsD (dgs A 14)) ([.int .i64 ((dg A 14 : Nat) : Int)]) (fun b_57 cur_59 => [((gs1 0).b, Obj.cells (Value.cells (uv A)) 24 (0, 0)), (b_57, Obj.cells cur_59 3 (0, 0)), ((gs5 12).b, Obj.cells #[.int .i64 ((dg A 0 : Nat) : Int)] 3 (0, 0)), ((gs10 12).b, Obj.cells #[.int .i64 ((dg A 1 : Nat) : Int)] 3 (0, 0)), ((gs15 12).b, Obj.cells #[.int .i64 ((dg A 2 : Nat) : Int)] 3 (0, 0)), ((gs20 12).b, Obj.cells #[.int .i64 ((dg A 3 : Nat) : Int)] 3 (0, 0)), ((gs25 12).b, Obj.cells #[.int .i64 ((dg A 4 : Nat) : Int)] 3 (0, 0)), ((gs30 12).b, Obj.cells #[.int .i64 ((dg A 5 : Nat) : Int)] 3 (0, 0)), ((gs35 12).b, Obj.cells #[.int .i64 ((dg A 6 : Nat) : Int)] 3 (0, 0)), ((gs40 12).b, Obj.cells #[.int .i64 ((dg A 7 : Nat) : Int)] 3 (0, 0)), ((gs45 12).b, Obj.cells #[.int .i64 ((dg A 8 : Nat) : Int)] 3 (0, 0)), ((gs50 12).b, Obj.cells #[.int .i64 ((dg A 9 : Nat) : Int)] 3 (0, 0)), ((gs55 12).b, Obj.cells #[.int .i64 ((dg A 10 : Nat) : Int)] 3 (0, 0)), ((gs60 12).b, Obj.cells #[.int .i64 ((dg A 11 : Nat) : Int)] 3 (0, 0)), ((gs65 12).b, Obj.cells #[.int .i64 ((dg A 12 : Nat) : Int)] 3 (0, 0)), ((gs70 12).b, Obj.cells #[.int .i64 ((dg A 13 : Nat) : Int)] 3 (0, 0)), ((gs75 12).b, Obj.cells #[.int .i64 ((dg A 14 : Nat) : Int)] 3 (0, 0))]) kr kr kr kr kr hr_56' kr kr (by rfl) (by rfl) (by intro u hu; simp at hu; first | exact hu.elim | (rcases hu with rfl | rfl | rfl | rfl <;> rfl) | (rcases hu with rfl | rfl <;> rfl) | (subst hu; rfl)) (by omega) (by unfold maxLen; omega) (fun _ _ => by kernel_rfl) ?_
  intro b_57 cap_58 cur_59 w76 H76 hr_60; clear H75
  have hr_60' : Rw 1 cur_59 cap_58 15 (cellsD (dgs A 15)) := by rw [dgs_succ, cellsD_append]; exact hr_60
  refine rp [.v] H76 kr fun gs77 w77 H77 => ?_
  show WPs _ _ _ _ [] _ _
  clear H76
  refine s_nil ?_
  show WP _ _ _ _ _ _
  refine g_keep [0, 1, 2, 3, 4, 7] fun ρ15 => ?_
  have HK16 := H77.keep
  clear H77
  refine rL [.v, .v, .v] HK16 kr fun gs78 w78 H78 => ?_
  clear HK16
  show WPL _ _ _ _ _ _
  refine g_next ?_
  refine g_seq kr ?_
  refine rS [.v, .v] H78 kr fun gs79 w79 H79 => ?_
  clear H78
  refine g_cond_t kr kr ?_
  refine g_skip kr ?_
  show WP _ _ _ _ _ _
  refine g_seq kr ?_
  refine g_block 1 kr ?_
  refine g_reg0 [0, 1, 2, 3, 4, 5, 6, 7, 8, 9, 10, 11, 12, 13, 14] kr ?_
  refine rp [.v, .v, .v, .v, .l 0, .v, .v, .v, .v, .e (v := .int .u64 (Int.fdiv ((A / 6277101735386680763835789423207666416102355444464034512896 % 18446744073709551616 : Nat) : Int) (2 ^ 48))) (v' := .int .u64 (((A / 6277101735386680763835789423207666416102355444464034512896 % 18446744073709551616) / 281474976710656 : Nat) : Int)) (int_eq (shrN (k := 48) (A / 6277101735386680763835789423207666416102355444464034512896 % 18446744073709551616) 281474976710656 rfl)), .e (v := .int .u64 (Int.tmod (((A / 6277101735386680763835789423207666416102355444464034512896 % 18446744073709551616) / 281474976710656 : Nat) : Int) 65536)) (v' := .int .u64 ((((A / 6277101735386680763835789423207666416102355444464034512896 % 18446744073709551616) / 281474976710656) % 65536 : Nat) : Int)) (int_eq (remN ((A / 6277101735386680763835789423207666416102355444464034512896 % 18446744073709551616) / 281474976710656) 65536)), .e (v := .int .i64 (IntKind.i64.wrap (((((A / 6277101735386680763835789423207666416102355444464034512896 % 18446744073709551616) / 281474976710656) % 65536 : Nat) : Int)))) (v' := .int .i64 ((dg A 15 : Nat) : Int)) (int_eq (of_word3 A 15 rfl)), .nw (fun b => .slice (some ⟨b, 0, none⟩) 1 1) #[.int .i64 ((dg A 15 : Nat) : Int)] 3] H79 kr fun gs80 w80 H80 => ?_
  show WPs _ _ _ _ [13, 14] _ _
  clear H79
  refine s_append H80 (some 23) 60 3 1 8 (.tmp 10) (.tmp 22) 1 17 b_57 ((gs80 12).b) 15 1 cap_58 1 cur_59 #[.int .i64 ((dg A 15 : Nat) : Int)] 3 (0, 0) (cellsD (dgs A 15)) ([.int .i64 ((dg A 15 : Nat) : Int)]) (fun b_61 cur_63 => [((gs1 0).b, Obj.cells (Value.cells (uv A)) 24 (0, 0)), (b_61, Obj.cells cur_63 3 (0, 0)), ((gs5 12).b, Obj.cells #[.int .i64 ((dg A 0 : Nat) : Int)] 3 (0, 0)), ((gs10 12).b, Obj.cells #[.int .i64 ((dg A 1 : Nat) : Int)] 3 (0, 0)), ((gs15 12).b, Obj.cells #[.int .i64 ((dg A 2 : Nat) : Int)] 3 (0, 0)), ((gs20 12).b, Obj.cells #[.int .i64 ((dg A 3 : Nat) : Int)] 3 (0, 0)), ((gs25 12).b, Obj.cells #[.int .i64 ((dg A 4 : Nat) : Int)] 3 (0, 0)), ((gs30 12).b, Obj.cells #[.int .i64 ((dg A 5 : Nat) : Int)] 3 (0, 0)), ((gs35 12).b, Obj.cells #[.int .i64 ((dg A 6 : Nat) : Int)] 3 (0, 0)), ((gs40 12).b, Obj.cells #[.int .i64 ((dg A 7 : Nat) : Int)] 3 (0, 0)), ((gs45 12).b, Obj.cells #[.int .i64 ((dg A 8 : Nat) : Int)] 3 (0, 0)), ((gs50 12).b, Obj.cells #[.int .i64 ((dg A 9 : Nat) : Int)] 3 (0, 0)), ((gs55 12).b, Obj.cells #[.int .i64 ((dg A 10 : Nat) : Int)] 3 (0, 0)), ((gs60 12).b, Obj.cells #[.int .i64 ((dg A 11 : Nat) : Int)] 3 (0, 0)), ((gs65 12).b, Obj.cells #[.int .i64 ((dg A 12 : Nat) : Int)] 3 (0, 0)), ((gs70 12).b, Obj.cells #[.int .i64 ((dg A 13 : Nat) : Int)] 3 (0, 0)), ((gs75 12).b, Obj.cells #[.int .i64 ((dg A 14 : Nat) : Int)] 3 (0, 0)), ((gs80 12).b, Obj.cells #[.int .i64 ((dg A 15 : Nat) : Int)] 3 (0, 0))]) kr kr kr kr kr hr_60' kr kr (by rfl) (by rfl) (by intro u hu; simp at hu; first | exact hu.elim | (rcases hu with rfl | rfl | rfl | rfl <;> rfl) | (rcases hu with rfl | rfl <;> rfl) | (subst hu; rfl)) (by omega) (by unfold maxLen; omega) (fun _ _ => by kernel_rfl) ?_
  intro b_61 cap_62 cur_63 w81 H81 hr_64; clear H80
  have hr_64' : Rw 1 cur_63 cap_62 16 (cellsD (dgs A 16)) := by rw [dgs_succ, cellsD_append]; exact hr_64
  refine rp [.v] H81 kr fun gs82 w82 H82 => ?_
  show WPs _ _ _ _ [] _ _
  clear H81
  refine s_nil ?_
  show WP _ _ _ _ _ _
  refine g_keep [0, 1, 2, 3, 4, 7] fun ρ16 => ?_
  have HK17 := H82.keep
  clear H82
  refine rL [.v, .v, .v] HK17 kr fun gs83 w83 H83 => ?_
  clear HK17
  show WPL _ _ _ _ _ _
  refine g_next ?_
  refine g_seq kr ?_
  refine rS [.v, .v] H83 kr fun gs84 w84 H84 => ?_
  clear H83
  refine g_cond_f kr kr ?_
  refine g_exit 0 kr ?_
  show WP _ _ _ _ _ _
  refine rS [.v, .v] H84 kr fun gs85 w85 H85 => ?_
  clear H84
  refine g_ret kr ?_
  show ∃ vs, Res _ _ _ _ vs ∧ _
  refine ⟨[.slice (some ⟨b_61, 0, none⟩) 16 cap_62], (.tmp (.slice (some ⟨b_61, 0, none⟩) 16 cap_62) kr .nil), H85.below, ?_⟩
  exact ⟨b_61, cap_62, _, _, dgs A 16, rfl, H85.ge 1 (o := .cells cur_63 3 (0, 0)) kr, H85.get 1 kr, by rw [dgs_length], hr_64', dgs_ok A 16, rfl, vl_dgs16 hA, dgs_length A 16⟩
end Go.Proofs.YtmmloghbnpfedaaDoor

namespace Go.Proofs.YtmmloghbnpfedaaDoor
open Go Go.RowKit
set_option linter.unusedVariables false
set_option maxRecDepth 100000 in
set_option maxHeartbeats 2000000 in
theorem sum_fn (x y : List Nat) (ba nx ca bb ny cb : Nat) (curA curB : Array Value) (hnx : nx = List.length x) (hny : ny = List.length y) (hA : Rw 1 curA ca nx (cellsD x)) (hB : Rw 1 curB cb ny (cellsD y)) (hx : Ok x) (hy : Ok y) (lx : List.length x ≤ 5000) (ly : List.length y ≤ 5000) : FnR Tryd.prog 59 #[.slice (some ⟨ba, 0, none⟩) nx ca, .slice (some ⟨bb, 0, none⟩) ny cb] (fun w => w.heap[ba]? = some (.cells curA 3 (0, 0)) ∧ w.heap[bb]? = some (.cells curB 3 (0, 0))) (RetS 3 1 (fun cur cap n l => (n = List.length l ∧ Rw 1 cur cap n (cellsD l) ∧ Ok l ∧ (vl l = vl x + vl y ∧ List.length l ≤ max (List.length x) (List.length y) + 1 ∧ max (List.length x) (List.length y) ≤ List.length l)))) := by
  subst hnx hny
  refine FnR.intro (c := codeOf Tryd.f59) [.tmp 4] 43 Tryd.func59 kr kr kr fun w hpre => ?_
  have H0 := St.start w
  refine rS [.v] H0 kr fun gs1 w1 H1 => ?_
  clear H0
  refine rS [.nw (fun b => .slice (some ⟨b, 0, none⟩) 0 0) #[] 3, .v] H1 kr fun gs2 w2 H2 => ?_
  clear H1
  refine rS [.v] H2 kr fun gs3 w3 H3 => ?_
  clear H2
  refine g_seq kr ?_
  refine rS [.v] H3 kr fun gs4 w4 H4 => ?_
  clear H3
  refine g_block 0 kr ?_
  have HL1 : St w.heap.size w w4 [((gs2 0).b, Obj.cells #[] 3 (0, 0))] := H4.as kr
  clear H4
  refine g_loop kr (fun mz ρ ww => ∃ (b : Nat) (cap : Nat) (n : Nat) (cur : Array Value) (l : List Nat) (k : Nat) (c : Nat), max (List.length x) (List.length y) + 2 - k = mz ∧ (n = List.length l) ∧ (Rw 1 cur cap n (cellsD l)) ∧ (SumI x y l k (c : Int)) ∧ St w.heap.size w ww [(b, Obj.cells cur 3 (0, 0))] ∧ Is [(0, .slice (some ⟨ba, 0, none⟩) (List.length x) ca), (1, .slice (some ⟨bb, 0, none⟩) (List.length y) cb), (4, .slice none 0 0), (5, .slice (some ⟨b, 0, none⟩) n cap), (6, .int .i64 ((c : Nat) : Int)), (7, .int .i64 ((k : Nat) : Int))] ρ) (max (List.length x) (List.length y) + 2 - 0) ⟨(gs2 0).b, 0, 0, #[], [], 0, 0, rfl, rfl, (Rw.lit #[] 0 rfl (by unfold maxLen; omega)), (SumI.start x y), HL1, (Is.of ⟨kr, kr, kr, kr, kr, kr, trivial⟩)⟩ ?_
  clear HL1
  rintro _ _ w5 ⟨b, cap, n, cur, l, k, c, rfl, hn, hr, hS, H5, _, rfl⟩
  have hc1 := hS.c1; have htop := hS.top; have hxk := ok_getD hx k; have hyk := ok_getD hy k; have hlen := hS.len; have hok := hS.ok
  refine g_seq kr ?_
  refine g_sreg [0, 1, 2, 3, 4, 5, 6, 7, 8, 9, 10, 11, 12, 13] kr kr ?_
  refine rp [.v, .v, .v] H5 kr fun gs6 w6 H6 => ?_
  show WPs _ _ _ _ [3, 4, 5, 6, 7, 8, 9, 10, 11, 12, 13] _ _
  clear H5
  by_cases hc2 : (k : Nat) < List.length x
  · skip
    refine rp [.e (v := .bool (decide (((k : Nat) : Int) < ((List.length x : Nat) : Int)))) (v' := .bool true) (bool_eq (decide_eq_true (by omega))), .v, .n, .n, .n, .n, .v, .v, .n, .n, .v] H6 kr fun gs7 w7 H7 => ?_
    show WPs _ _ _ _ [] _ _
    clear H6
    refine s_nil ?_
    refine g_keep [0, 1, 4, 5, 6, 7, 23] fun ρ1 => ?_
    have HK3 := H7.keep
    clear H7
    refine g_cond_t kr kr ?_
    refine g_skip kr ?_
    show WP _ _ _ _ _ _
    refine g_seq kr ?_
    refine g_block 1 kr ?_
    refine rS [.v, .v, .cp (pre := fun w => w.heap[ba]? = some (.cells curA 3 (0, 0))) (digit_fn x ba (List.length x) ca curA rfl hA (by omega) k (by omega)) [] (fun w hb hd => ((hb.block _ (lt_of_heap hpre.1)).trans hpre.1)), .v, .v, .cp (pre := fun w => w.heap[bb]? = some (.cells curB 3 (0, 0))) (digit_fn y bb (List.length y) cb curB rfl hB (by omega) k (by omega)) [] (fun w hb hd => ((hb.block _ (lt_of_heap hpre.2)).trans hpre.2)), .e (v := .int .i64 (IntKind.i64.wrap (((List.getD x k 0 : Nat) : Int) + ((List.getD y k 0 : Nat) : Int)))) (v' := .int .i64 (((List.getD x k 0) + (List.getD y k 0) : Nat) : Int)) (int_eq (wrapAdd_i64 (a := List.getD x k 0) (b := List.getD y k 0) (by omega))), .v, .e (v := .int .i64 (IntKind.i64.wrap ((((List.getD x k 0) + (List.getD y k 0) : Nat) : Int) + ((c : Nat) : Int)))) (v' := .int .i64 ((((List.getD x k 0) + (List.getD y k 0)) + c : Nat) : Int)) (int_eq (wrapAdd_i64 (a := (List.getD x k 0) + (List.getD y k 0)) (b := c) (by omega))), .v] HK3 kr fun gs8 w8 H8 => ?_
    clear HK3
    refine g_sreg [0, 1, 2, 3, 4, 5] kr kr ?_
    refine rp [.v, .v, .e (v := .int .i64 (Int.tmod ((((List.getD x k 0) + (List.getD y k 0)) + c : Nat) : Int) 65536)) (v' := .int .i64 (((((List.getD x k 0) + (List.getD y k 0)) + c) % 65536 : Nat) : Int)) (int_eq (remN (((List.getD x k 0) + (List.getD y k 0)) + c) 65536)), .nw (fun b => .slice (some ⟨b, 0, none⟩) 1 1) #[.int .i64 (((((List.getD x k 0) + (List.getD y k 0)) + c) % 65536 : Nat) : Int)] 3] H8 kr fun gs9 w9 H9 => ?_
    show WPs _ _ _ _ [4, 5] _ _
    clear H8
    refine s_append H9 (some 39) 60 3 1 8 (.tmp 35) (.tmp 38) 0 1 b ((gs9 3).b) n 1 cap 1 cur #[.int .i64 (((((List.getD x k 0) + (List.getD y k 0)) + c) % 65536 : Nat) : Int)] 3 (0, 0) (cellsD l) ([.int .i64 (((((List.getD x k 0) + (List.getD y k 0)) + c) % 65536 : Nat) : Int)]) (fun b_1 cur_3 => [(b_1, Obj.cells cur_3 3 (0, 0)), ((gs9 3).b, Obj.cells #[.int .i64 (((((List.getD x k 0) + (List.getD y k 0)) + c) % 65536 : Nat) : Int)] 3 (0, 0))]) kr kr kr kr kr hr kr kr (by rfl) (by rfl) (by intro u hu; simp at hu; first | exact hu.elim | (rcases hu with rfl | rfl | rfl | rfl <;> rfl) | (rcases hu with rfl | rfl <;> rfl) | (subst hu; rfl)) (by omega) (by unfold maxLen; omega) (fun _ _ => by kernel_rfl) ?_
    intro b_1 cap_2 cur_3 w10 H10 hr_4; clear H9
    refine rp [.v] H10 kr fun gs11 w11 H11 => ?_
    show WPs _ _ _ _ [] _ _
    clear H10
    refine s_nil ?_
    refine rL [.v, .e (v := .int .i64 (IntKind.i64.wrap (((((List.getD x k 0) + (List.getD y k 0)) + c : Nat) : Int).tdiv 65536))) (v' := .int .i64 (((((List.getD x k 0) + (List.getD y k 0)) + c) / 65536 : Nat) : Int)) (int_eq (quoN_i64 (a := ((List.getD x k 0) + (List.getD y k 0)) + c) (b := 65536) (by omega))), .v] H11 kr fun gs12 w12 H12 => ?_
    clear H11
    show WP _ _ _ _ _ _
    refine g_keep [0, 1, 4, 5, 6, 7, 8, 23] fun ρ2 => ?_
    have HK4 := H12.keep
    clear H12
    refine rL [.v, .e (v := .int .i64 (IntKind.i64.wrap (((k : Nat) : Int) + 1))) (v' := .int .i64 ((k + 1 : Nat) : Int)) (int_eq (wrapAdd_i64 (a := k) (b := 1) (by omega))), .v] HK4 kr fun gs13 w13 H13 => ?_
    clear HK4
    have HL5 : St w.heap.size w w13 [(b_1, Obj.cells cur_3 3 (0, 0)), ((gs9 3).b, Obj.cells #[.int .i64 (((((List.getD x k 0) + (List.getD y k 0)) + c) % 65536 : Nat) : Int)] 3 (0, 0))] := H13.as kr
    clear H13
    have hS2 := hS.go hx hy (by omega)
    have HD6 : St w.heap.size w w13 [(b_1, Obj.cells cur_3 3 (0, 0))] := HL5.sub (List.Sublist.cons_cons _ (List.Sublist.cons _ List.Sublist.slnil))
    show ∃ m, _ ∧ _
    exact ⟨_, (by have := hS2.top; omega), b_1, cap_2, n + 1, cur_3, l ++ [(List.getD x k 0 + List.getD y k 0 + c) % 65536], k + 1, (List.getD x k 0 + List.getD y k 0 + c) / 65536, rfl, (by rw [List.length_append, ← hn]; rfl), (by rw [cellsD_append]; exact hr_4), hS2, HD6, (Is.of ⟨kr, kr, kr, kr, kr, kr, trivial⟩)⟩
  · skip
    refine rp [.e (v := .bool (decide (((k : Nat) : Int) < ((List.length x : Nat) : Int)))) (v' := .bool false) (bool_eq (decide_eq_false (by omega))), .v, .v, .v, .v] H6 kr fun gs14 w14 H14 => ?_
    show WPs _ _ _ _ [8, 9, 10, 11, 12, 13] _ _
    clear H6
    by_cases hc7 : (k : Nat) < List.length y
    · skip
      refine rp [.e (v := .bool (decide (((k : Nat) : Int) < ((List.length y : Nat) : Int)))) (v' := .bool true) (bool_eq (decide_eq_true (by omega))), .v, .v, .n, .n, .v] H14 kr fun gs15 w15 H15 => ?_
      show WPs _ _ _ _ [] _ _
      clear H14
      refine s_nil ?_
      refine g_keep [0, 1, 4, 5, 6, 7, 23] fun ρ3 => ?_
      have HK8 := H15.keep
      clear H15
      refine g_cond_t kr kr ?_
      refine g_skip kr ?_
      show WP _ _ _ _ _ _
      refine g_seq kr ?_
      refine g_block 1 kr ?_
      refine rS [.v, .v, .cp (pre := fun w => w.heap[ba]? = some (.cells curA 3 (0, 0))) (digit_fn x ba (List.length x) ca curA rfl hA (by omega) k (by omega)) [] (fun w hb hd => ((hb.block _ (lt_of_heap hpre.1)).trans hpre.1)), .v, .v, .cp (pre := fun w => w.heap[bb]? = some (.cells curB 3 (0, 0))) (digit_fn y bb (List.length y) cb curB rfl hB (by omega) k (by omega)) [] (fun w hb hd => ((hb.block _ (lt_of_heap hpre.2)).trans hpre.2)), .e (v := .int .i64 (IntKind.i64.wrap (((List.getD x k 0 : Nat) : Int) + ((List.getD y k 0 : Nat) : Int)))) (v' := .int .i64 (((List.getD x k 0) + (List.getD y k 0) : Nat) : Int)) (int_eq (wrapAdd_i64 (a := List.getD x k 0) (b := List.getD y k 0) (by omega))), .v, .e (v := .int .i64 (IntKind.i64.wrap ((((List.getD x k 0) + (List.getD y k 0) : Nat) : Int) + ((c : Nat) : Int)))) (v' := .int .i64 ((((List.getD x k 0) + (List.getD y k 0)) + c : Nat) : Int)) (int_eq (wrapAdd_i64 (a := (List.getD x k 0) + (List.getD y k 0)) (b := c) (by omega))), .v] HK8 kr fun gs16 w16 H16 => ?_
      clear HK8
      refine g_sreg [0, 1, 2, 3, 4, 5] kr kr ?_
      refine rp [.v, .v, .e (v := .int .i64 (Int.tmod ((((List.getD x k 0) + (List.getD y k 0)) + c : Nat) : Int) 65536)) (v' := .int .i64 (((((List.getD x k 0) + (List.getD y k 0)) + c) % 65536 : Nat) : Int)) (int_eq (remN (((List.getD x k 0) + (List.getD y k 0)) + c) 65536)), .nw (fun b => .slice (some ⟨b, 0, none⟩) 1 1) #[.int .i64 (((((List.getD x k 0) + (List.getD y k 0)) + c) % 65536 : Nat) : Int)] 3] H16 kr fun gs17 w17 H17 => ?_
      show WPs _ _ _ _ [4, 5] _ _
      clear H16
      refine s_append H17 (some 39) 60 3 1 8 (.tmp 35) (.tmp 38) 0 1 b ((gs17 3).b) n 1 cap 1 cur #[.int .i64 (((((List.getD x k 0) + (List.getD y k 0)) + c) % 65536 : Nat) : Int)] 3 (0, 0) (cellsD l) ([.int .i64 (((((List.getD x k 0) + (List.getD y k 0)) + c) % 65536 : Nat) : Int)]) (fun b_5 cur_7 => [(b_5, Obj.cells cur_7 3 (0, 0)), ((gs17 3).b, Obj.cells #[.int .i64 (((((List.getD x k 0) + (List.getD y k 0)) + c) % 65536 : Nat) : Int)] 3 (0, 0))]) kr kr kr kr kr hr kr kr (by rfl) (by rfl) (by intro u hu; simp at hu; first | exact hu.elim | (rcases hu with rfl | rfl | rfl | rfl <;> rfl) | (rcases hu with rfl | rfl <;> rfl) | (subst hu; rfl)) (by omega) (by unfold maxLen; omega) (fun _ _ => by kernel_rfl) ?_
      intro b_5 cap_6 cur_7 w18 H18 hr_8; clear H17
      refine rp [.v] H18 kr fun gs19 w19 H19 => ?_
      show WPs _ _ _ _ [] _ _
      clear H18
      refine s_nil ?_
      refine rL [.v, .e (v := .int .i64 (IntKind.i64.wrap (((((List.getD x k 0) + (List.getD y k 0)) + c : Nat) : Int).tdiv 65536))) (v' := .int .i64 (((((List.getD x k 0) + (List.getD y k 0)) + c) / 65536 : Nat) : Int)) (int_eq (quoN_i64 (a := ((List.getD x k 0) + (List.getD y k 0)) + c) (b := 65536) (by omega))), .v] H19 kr fun gs20 w20 H20 => ?_
      clear H19
      show WP _ _ _ _ _ _
      refine g_keep [0, 1, 4, 5, 6, 7, 8, 23] fun ρ4 => ?_
      have HK9 := H20.keep
      clear H20
      refine rL [.v, .e (v := .int .i64 (IntKind.i64.wrap (((k : Nat) : Int) + 1))) (v' := .int .i64 ((k + 1 : Nat) : Int)) (int_eq (wrapAdd_i64 (a := k) (b := 1) (by omega))), .v] HK9 kr fun gs21 w21 H21 => ?_
      clear HK9
      have HL10 : St w.heap.size w w21 [(b_5, Obj.cells cur_7 3 (0, 0)), ((gs17 3).b, Obj.cells #[.int .i64 (((((List.getD x k 0) + (List.getD y k 0)) + c) % 65536 : Nat) : Int)] 3 (0, 0))] := H21.as kr
      clear H21
      have hS2 := hS.go hx hy (by omega)
      have HD11 : St w.heap.size w w21 [(b_5, Obj.cells cur_7 3 (0, 0))] := HL10.sub (List.Sublist.cons_cons _ (List.Sublist.cons _ List.Sublist.slnil))
      show ∃ m, _ ∧ _
      exact ⟨_, (by have := hS2.top; omega), b_5, cap_6, n + 1, cur_7, l ++ [(List.getD x k 0 + List.getD y k 0 + c) % 65536], k + 1, (List.getD x k 0 + List.getD y k 0 + c) / 65536, rfl, (by rw [List.length_append, ← hn]; rfl), (by rw [cellsD_append]; exact hr_8), hS2, HD11, (Is.of ⟨kr, kr, kr, kr, kr, kr, trivial⟩)⟩
    · skip
      refine rp [.e (v := .bool (decide (((k : Nat) : Int) < ((List.length y : Nat) : Int)))) (v' := .bool false) (bool_eq (decide_eq_false (by omega))), .v, .v, .v] H14 kr fun gs22 w22 H22 => ?_
      show WPs _ _ _ _ [12, 13] _ _
      clear H14
      by_cases hc12 : (c : Nat) > 0
      · skip
        refine rp [.e (v := .bool (decide (0 < ((c : Nat) : Int)))) (v' := .bool true) (bool_eq (decide_eq_true (by omega))), .v] H22 kr fun gs23 w23 H23 => ?_
        show WPs _ _ _ _ [] _ _
        clear H22
        refine s_nil ?_
        refine g_keep [0, 1, 4, 5, 6, 7, 23] fun ρ5 => ?_
        have HK13 := H23.keep
        clear H23
        refine g_cond_t kr kr ?_
        refine g_skip kr ?_
        show WP _ _ _ _ _ _
        refine g_seq kr ?_
        refine g_block 1 kr ?_
        refine rS [.v, .v, .cp (pre := fun w => w.heap[ba]? = some (.cells curA 3 (0, 0))) (digit_fn x ba (List.length x) ca curA rfl hA (by omega) k (by omega)) [] (fun w hb hd => ((hb.block _ (lt_of_heap hpre.1)).trans hpre.1)), .v, .v, .cp (pre := fun w => w.heap[bb]? = some (.cells curB 3 (0, 0))) (digit_fn y bb (List.length y) cb curB rfl hB (by omega) k (by omega)) [] (fun w hb hd => ((hb.block _ (lt_of_heap hpre.2)).trans hpre.2)), .e (v := .int .i64 (IntKind.i64.wrap (((List.getD x k 0 : Nat) : Int) + ((List.getD y k 0 : Nat) : Int)))) (v' := .int .i64 (((List.getD x k 0) + (List.getD y k 0) : Nat) : Int)) (int_eq (wrapAdd_i64 (a := List.getD x k 0) (b := List.getD y k 0) (by omega))), .v, .e (v := .int .i64 (IntKind.i64.wrap ((((List.getD x k 0) + (List.getD y k 0) : Nat) : Int) + ((c : Nat) : Int)))) (v' := .int .i64 ((((List.getD x k 0) + (List.getD y k 0)) + c : Nat) : Int)) (int_eq (wrapAdd_i64 (a := (List.getD x k 0) + (List.getD y k 0)) (b := c) (by omega))), .v] HK13 kr fun gs24 w24 H24 => ?_
        clear HK13
        refine g_sreg [0, 1, 2, 3, 4, 5] kr kr ?_
        refine rp [.v, .v, .e (v := .int .i64 (Int.tmod ((((List.getD x k 0) + (List.getD y k 0)) + c : Nat) : Int) 65536)) (v' := .int .i64 (((((List.getD x k 0) + (List.getD y k 0)) + c) % 65536 : Nat) : Int)) (int_eq (remN (((List.getD x k 0) + (List.getD y k 0)) + c) 65536)), .nw (fun b => .slice (some ⟨b, 0, none⟩) 1 1) #[.int .i64 (((((List.getD x k 0) + (List.getD y k 0)) + c) % 65536 : Nat) : Int)] 3] H24 kr fun gs25 w25 H25 => ?_
        show WPs _ _ _ _ [4, 5] _ _
        clear H24
        refine s_append H25 (some 39) 60 3 1 8 (.tmp 35) (.tmp 38) 0 1 b ((gs25 3).b) n 1 cap 1 cur #[.int .i64 (((((List.getD x k 0) + (List.getD y k 0)) + c) % 65536 : Nat) : Int)] 3 (0, 0) (cellsD l) ([.int .i64 (((((List.getD x k 0) + (List.getD y k 0)) + c) % 65536 : Nat) : Int)]) (fun b_9 cur_11 => [(b_9, Obj.cells cur_11 3 (0, 0)), ((gs25 3).b, Obj.cells #[.int .i64 (((((List.getD x k 0) + (List.getD y k 0)) + c) % 65536 : Nat) : Int)] 3 (0, 0))]) kr kr kr kr kr hr kr kr (by rfl) (by rfl) (by intro u hu; simp at hu; first | exact hu.elim | (rcases hu with rfl | rfl | rfl | rfl <;> rfl) | (rcases hu with rfl | rfl <;> rfl) | (subst hu; rfl)) (by omega) (by unfold maxLen; omega) (fun _ _ => by kernel_rfl) ?_
        intro b_9 cap_10 cur_11 w26 H26 hr_12; clear H25
        refine rp [.v] H26 kr fun gs27 w27 H27 => ?_
        show WPs _ _ _ _ [] _ _
        clear H26
        refine s_nil ?_
        refine rL [.v, .e (v := .int .i64 (IntKind.i64.wrap (((((List.getD x k 0) + (List.getD y k 0)) + c : Nat) : Int).tdiv 65536))) (v' := .int .i64 (((((List.getD x k 0) + (List.getD y k 0)) + c) / 65536 : Nat) : Int)) (int_eq (quoN_i64 (a := ((List.getD x k 0) + (List.getD y k 0)) + c) (b := 65536) (by omega))), .v] H27 kr fun gs28 w28 H28 => ?_
        clear H27
        show WP _ _ _ _ _ _
        refine g_keep [0, 1, 4, 5, 6, 7, 8, 23] fun ρ6 => ?_
        have HK14 := H28.keep
        clear H28
        refine rL [.v, .e (v := .int .i64 (IntKind.i64.wrap (((k : Nat) : Int) + 1))) (v' := .int .i64 ((k + 1 : Nat) : Int)) (int_eq (wrapAdd_i64 (a := k) (b := 1) (by omega))), .v] HK14 kr fun gs29 w29 H29 => ?_
        clear HK14
        have HL15 : St w.heap.size w w29 [(b_9, Obj.cells cur_11 3 (0, 0)), ((gs25 3).b, Obj.cells #[.int .i64 (((((List.getD x k 0) + (List.getD y k 0)) + c) % 65536 : Nat) : Int)] 3 (0, 0))] := H29.as kr
        clear H29
        have hS2 := hS.go hx hy (by omega)
        have HD16 : St w.heap.size w w29 [(b_9, Obj.cells cur_11 3 (0, 0))] := HL15.sub (List.Sublist.cons_cons _ (List.Sublist.cons _ List.Sublist.slnil))
        show ∃ m, _ ∧ _
        exact ⟨_, (by have := hS2.top; omega), b_9, cap_10, n + 1, cur_11, l ++ [(List.getD x k 0 + List.getD y k 0 + c) % 65536], k + 1, (List.getD x k 0 + List.getD y k 0 + c) / 65536, rfl, (by rw [List.length_append, ← hn]; rfl), (by rw [cellsD_append]; exact hr_12), hS2, HD16, (Is.of ⟨kr, kr, kr, kr, kr, kr, trivial⟩)⟩
      · skip
        refine rp [.e (v := .bool (decide (0 < ((c : Nat) : Int)))) (v' := .bool false) (bool_eq (decide_eq_false (by omega))), .v] H22 kr fun gs30 w30 H30 => ?_
        show WPs _ _ _ _ [] _ _
        clear H22
        refine s_nil ?_
        refine g_keep [0, 1, 4, 5, 6, 7, 23] fun ρ7 => ?_
        have HK17 := H30.keep
        clear H30
        refine g_cond_f kr kr ?_
        refine g_exit 0 kr ?_
        show WP _ _ _ _ _ _
        refine rS [.v, .v] HK17 kr fun gs31 w31 H31 => ?_
        clear HK17
        refine g_ret kr ?_
        show ∃ vs, Res _ _ _ _ vs ∧ _
        refine ⟨[.slice (some ⟨b, 0, none⟩) n cap], (.tmp (.slice (some ⟨b, 0, none⟩) n cap) kr .nil), H31.below, ?_⟩
        exact ⟨b, cap, _, _, l, rfl, H31.ge 0 (o := .cells cur 3 (0, 0)) kr, H31.get 0 kr, hn, hr, hok, hS.done (by omega) (by omega) (by omega), by omega, by omega⟩
end Go.Proofs.YtmmloghbnpfedaaDoor

namespace Go.Proofs.YtmmloghbnpfedaaDoor
open Go Go.RowKit
set_option linter.unusedVariables false
set_option maxRecDepth 100000 in
set_option maxHeartbeats 2000000 in
theorem less_fn (x y : List Nat) (ba nx ca bb ny cb : Nat) (curA curB : Array Value) (hnx : nx = List.length x) (hny : ny = List.length y) (hA : Rw 1 curA ca nx (cellsD x)) (hB : Rw 1 curB cb ny (cellsD y)) (hx : Ok x) (hy : Ok y) (lx : List.length x ≤ 5000) (ly : List.length y ≤ 5000) : FnP Tryd.prog 37 #[.slice (some ⟨ba, 0, none⟩) nx ca, .slice (some ⟨bb, 0, none⟩) ny cb] (fun w => w.heap[ba]? = some (.cells curA 3 (0, 0)) ∧ w.heap[bb]? = some (.cells curB 3 (0, 0))) (.bool (ls x y)) := by
  subst hnx hny
  refine FnP.intro (c := codeOf Tryd.f37) [.tmp 4] 35 Tryd.func37 kr kr kr fun w hpre => ?_
  have H0 := St.start w
  refine rS [.v] H0 kr fun gs1 w1 H1 => ?_
  clear H0
  refine rS [.v, .v, .v] H1 kr fun gs2 w2 H2 => ?_
  clear H1
  refine g_seq kr ?_
  refine g_sreg [0, 1, 2, 3] kr kr ?_
  refine rp [.v, .v, .v] H2 kr fun gs3 w3 H3 => ?_
  show WPs _ _ _ _ [3] _ _
  clear H2
  by_cases hc1 : (List.length y : Nat) > List.length x
  · skip
    refine rp [.e (v := .bool (decide (((List.length x : Nat) : Int) < ((List.length y : Nat) : Int)))) (v' := .bool true) (bool_eq (decide_eq_true (by omega)))] H3 kr fun gs4 w4 H4 => ?_
    show WPs _ _ _ _ [] _ _
    clear H3
    refine s_nil ?_
    refine g_cond_t kr kr ?_
    refine rL [.v, .v, .v] H4 kr fun gs5 w5 H5 => ?_
    clear H4
    show WP _ _ _ _ _ _
    refine g_seq kr ?_
    refine rS [.v, .e (v := .int .i64 (IntKind.i64.wrap (((List.length y : Nat) : Int) - 1))) (v' := .int .i64 (((List.length y : Nat) : Int) - 1)) (int_eq (wrap_i64 (by omega) (by omega))), .v] H5 kr fun gs6 w6 H6 => ?_
    clear H5
    refine g_block 0 kr ?_
    have HL2 : St w.heap.size w w6 [] := H6.as kr
    clear H6
    refine g_loop kr (fun mz ρ ww => ∃ (j : Nat), j = mz ∧ (j ≤ 5000) ∧ (Same x y (((j : Nat) : Int) - 1)) ∧ St w.heap.size w ww [] ∧ Is [(0, .slice (some ⟨ba, 0, none⟩) (List.length x) ca), (1, .slice (some ⟨bb, 0, none⟩) (List.length y) cb), (5, .int .i64 ((List.length y : Nat) : Int)), (6, .int .i64 (((j : Nat) : Int) - 1)), (12, .bool true)] ρ) (List.length y) ⟨List.length y, rfl, (by omega), (Same.start x y _ (by omega) (by omega)), HL2, (Is.of ⟨kr, kr, kr, kr, kr, trivial⟩)⟩ ?_
    clear HL2
    rintro _ _ w7 ⟨j, rfl, hj, hs, H7, _, rfl⟩
    refine g_seq kr ?_
    refine g_sreg [0, 1] kr kr ?_
    refine rp [.v] H7 kr fun gs8 w8 H8 => ?_
    show WPs _ _ _ _ [1] _ _
    clear H7
    by_cases hc3 : (((j : Nat) : Int) - 1 : Int) ≥ 0
    · skip
      refine rp [.e (v := .bool (decide (0 ≤ ((j : Nat) : Int) - 1))) (v' := .bool true) (bool_eq (decide_eq_true (by omega)))] H8 kr fun gs9 w9 H9 => ?_
      show WPs _ _ _ _ [] _ _
      clear H8
      refine s_nil ?_
      refine g_cond_t kr kr ?_
      refine g_skip kr ?_
      show WP _ _ _ _ _ _
      refine g_seq kr ?_
      refine g_block 1 kr ?_
      refine g_sreg [0, 1, 2, 3, 4, 5, 6] kr kr ?_
      refine rp [.v] H9 kr fun gs10 w10 H10 => ?_
      show WPs _ _ _ _ [1, 2, 3, 4, 5, 6] _ _
      clear H9
      refine s_now 6 (v := .int .i64 (((j : Nat) : Int) - 1)) (v' := .int .i64 ((j - 1 : Nat) : Int)) (int_eq (show (((j : Nat) : Int) - 1) = ((j - 1 : Nat) : Int) from by omega)) kr ?_
      refine s_now 17 (v := .int .i64 (((j : Nat) : Int) - 1)) (v' := .int .i64 ((j - 1 : Nat) : Int)) (int_eq (show (((j : Nat) : Int) - 1) = ((j - 1 : Nat) : Int) from by omega)) kr ?_
      refine rp [.v, .cp (pre := fun w => w.heap[ba]? = some (.cells curA 3 (0, 0))) (digit_fn x ba (List.length x) ca curA rfl hA (by omega) (j - 1) (by omega)) [] (fun w hb hd => ((hb.block _ (lt_of_heap hpre.1)).trans hpre.1)), .v, .v, .cp (pre := fun w => w.heap[bb]? = some (.cells curB 3 (0, 0))) (digit_fn y bb (List.length y) cb curB rfl hB (by omega) (j - 1) (by omega)) [] (fun w hb hd => ((hb.block _ (lt_of_heap hpre.2)).trans hpre.2))] H10 kr fun gs11 w11 H11 => ?_
      show WPs _ _ _ _ [6] _ _
      clear H10
      by_cases hc4 : (List.getD x (j - 1) 0 : Nat) ≠ List.getD y (j - 1) 0
      · skip
        refine rp [.e (v := .bool (!(((List.getD x (j - 1) 0 : Nat) : Int) == ((List.getD y (j - 1) 0 : Nat) : Int)))) (v' := .bool true) (bool_eq (by rw [beq_eq_false_iff_ne.2 (by omega)]; rfl))] H11 kr fun gs12 w12 H12 => ?_
        show WPs _ _ _ _ [] _ _
        clear H11
        refine s_nil ?_
        refine g_keep [0, 1, 5, 6, 12, 18, 27] fun ρ1 => ?_
        have HK5 := H12.keep
        clear H12
        refine g_cond_t kr kr ?_
        refine rS [.v, .v, .cp (pre := fun w => w.heap[ba]? = some (.cells curA 3 (0, 0))) (digit_fn x ba (List.length x) ca curA rfl hA (by omega) (j - 1) (by omega)) [] (fun w hb hd => ((hb.block _ (lt_of_heap hpre.1)).trans hpre.1)), .v, .v, .cp (pre := fun w => w.heap[bb]? = some (.cells curB 3 (0, 0))) (digit_fn y bb (List.length y) cb curB rfl hB (by omega) (j - 1) (by omega)) [] (fun w hb hd => ((hb.block _ (lt_of_heap hpre.2)).trans hpre.2)), .e (v := .bool (decide (((List.getD x (j - 1) 0 : Nat) : Int) < ((List.getD y (j - 1) 0 : Nat) : Int)))) (v' := .bool (ls x y)) (bool_eq (ls_digit hx hy (j - 1) (fun t ht => hs t (by omega)) (by unfold dAt; omega))), .v] HK5 kr fun gs13 w13 H13 => ?_
        clear HK5
        refine g_ret kr ?_
        show ∃ vs, Res _ _ _ _ vs ∧ _
        refine ⟨[.bool (ls x y)], (.tmp (.bool (ls x y)) kr .nil), ?_, H13.below⟩
        rfl
      · skip
        refine rp [.e (v := .bool (!(((List.getD x (j - 1) 0 : Nat) : Int) == ((List.getD y (j - 1) 0 : Nat) : Int)))) (v' := .bool false) (bool_eq (by rw [beq_iff_eq.2 (by omega)]; rfl))] H11 kr fun gs14 w14 H14 => ?_
        show WPs _ _ _ _ [] _ _
        clear H11
        refine s_nil ?_
        refine g_keep [0, 1, 5, 6, 12, 18, 27] fun ρ2 => ?_
        have HK6 := H14.keep
        clear H14
        refine g_cond_f kr kr ?_
        refine g_skip kr ?_
        show WP _ _ _ _ _ _
        refine rL [.v, .e (v := .int .i64 (IntKind.i64.wrap (((j - 1 : Nat) : Int) - 1))) (v' := .int .i64 (((j - 1 : Nat) : Int) - 1)) (int_eq (wrap_i64 (by omega) (by omega))), .v] HK6 kr fun gs15 w15 H15 => ?_
        clear HK6
        have HL7 : St w.heap.size w w15 [] := H15.as kr
        clear H15
        show ∃ m, _ ∧ _
        exact ⟨_, (by omega), (j - 1), rfl, (by omega), (Same.down (j := j - 1) (fun t ht => hs t (by omega)) (by unfold dAt; omega)), HL7, (Is.of ⟨kr, kr, kr, kr, kr, trivial⟩)⟩
    · skip
      refine rp [.e (v := .bool (decide (0 ≤ ((j : Nat) : Int) - 1))) (v' := .bool false) (bool_eq (decide_eq_false (by omega)))] H8 kr fun gs16 w16 H16 => ?_
      show WPs _ _ _ _ [] _ _
      clear H8
      refine s_nil ?_
      refine g_cond_f kr kr ?_
      refine g_exit 0 kr ?_
      show WP _ _ _ _ _ _
      refine rS [.v] H16 kr fun gs17 w17 H17 => ?_
      clear H16
      refine g_ret kr ?_
      show ∃ vs, Res _ _ _ _ vs ∧ _
      refine ⟨[.bool false], (.tmp (.bool false) kr .nil), ?_, H17.below⟩
      exact congrArg Value.bool (ls_none (x := x) (y := y) fun t => hs t (by omega)).symm
  · skip
    refine rp [.e (v := .bool (decide (((List.length x : Nat) : Int) < ((List.length y : Nat) : Int)))) (v' := .bool false) (bool_eq (decide_eq_false (by omega)))] H3 kr fun gs18 w18 H18 => ?_
    show WPs _ _ _ _ [] _ _
    clear H3
    refine s_nil ?_
    refine g_cond_f kr kr ?_
    refine g_skip kr ?_
    show WP _ _ _ _ _ _
    refine g_seq kr ?_
    refine rS [.v, .e (v := .int .i64 (IntKind.i64.wrap (((List.length x : Nat) : Int) - 1))) (v' := .int .i64 (((List.length x : Nat) : Int) - 1)) (int_eq (wrap_i64 (by omega) (by omega))), .v] H18 kr fun gs19 w19 H19 => ?_
    clear H18
    refine g_block 0 kr ?_
    have HL8 : St w.heap.size w w19 [] := H19.as kr
    clear H19
    refine g_loop kr (fun mz ρ ww => ∃ (j : Nat), j = mz ∧ (j ≤ 5000) ∧ (Same x y (((j : Nat) : Int) - 1)) ∧ St w.heap.size w ww [] ∧ Is [(0, .slice (some ⟨ba, 0, none⟩) (List.length x) ca), (1, .slice (some ⟨bb, 0, none⟩) (List.length y) cb), (5, .int .i64 ((List.length x : Nat) : Int)), (6, .int .i64 (((j : Nat) : Int) - 1)), (12, .bool false)] ρ) (List.length x) ⟨List.length x, rfl, (by omega), (Same.start x y _ (by omega) (by omega)), HL8, (Is.of ⟨kr, kr, kr, kr, kr, trivial⟩)⟩ ?_
    clear HL8
    rintro _ _ w20 ⟨j, rfl, hj, hs, H20, _, rfl⟩
    refine g_seq kr ?_
    refine g_sreg [0, 1] kr kr ?_
    refine rp [.v] H20 kr fun gs21 w21 H21 => ?_
    show WPs _ _ _ _ [1] _ _
    clear H20
    by_cases hc9 : (((j : Nat) : Int) - 1 : Int) ≥ 0
    · skip
      refine rp [.e (v := .bool (decide (0 ≤ ((j : Nat) : Int) - 1))) (v' := .bool true) (bool_eq (decide_eq_true (by omega)))] H21 kr fun gs22 w22 H22 => ?_
      show WPs _ _ _ _ [] _ _
      clear H21
      refine s_nil ?_
      refine g_cond_t kr kr ?_
      refine g_skip kr ?_
      show WP _ _ _ _ _ _
      refine g_seq kr ?_
      refine g_block 1 kr ?_
      refine g_sreg [0, 1, 2, 3, 4, 5, 6] kr kr ?_
      refine rp [.v] H22 kr fun gs23 w23 H23 => ?_
      show WPs _ _ _ _ [1, 2, 3, 4, 5, 6] _ _
      clear H22
      refine s_now 6 (v := .int .i64 (((j : Nat) : Int) - 1)) (v' := .int .i64 ((j - 1 : Nat) : Int)) (int_eq (show (((j : Nat) : Int) - 1) = ((j - 1 : Nat) : Int) from by omega)) kr ?_
      refine s_now 17 (v := .int .i64 (((j : Nat) : Int) - 1)) (v' := .int .i64 ((j - 1 : Nat) : Int)) (int_eq (show (((j : Nat) : Int) - 1) = ((j - 1 : Nat) : Int) from by omega)) kr ?_
      refine rp [.v, .cp (pre := fun w => w.heap[ba]? = some (.cells curA 3 (0, 0))) (digit_fn x ba (List.length x) ca curA rfl hA (by omega) (j - 1) (by omega)) [] (fun w hb hd => ((hb.block _ (lt_of_heap hpre.1)).trans hpre.1)), .v, .v, .cp (pre := fun w => w.heap[bb]? = some (.cells curB 3 (0, 0))) (digit_fn y bb (List.length y) cb curB rfl hB (by omega) (j - 1) (by omega)) [] (fun w hb hd => ((hb.block _ (lt_of_heap hpre.2)).trans hpre.2))] H23 kr fun gs24 w24 H24 => ?_
      show WPs _ _ _ _ [6] _ _
      clear H23
      by_cases hc10 : (List.getD x (j - 1) 0 : Nat) ≠ List.getD y (j - 1) 0
      · skip
        refine rp [.e (v := .bool (!(((List.getD x (j - 1) 0 : Nat) : Int) == ((List.getD y (j - 1) 0 : Nat) : Int)))) (v' := .bool true) (bool_eq (by rw [beq_eq_false_iff_ne.2 (by omega)]; rfl))] H24 kr fun gs25 w25 H25 => ?_
        show WPs _ _ _ _ [] _ _
        clear H24
        refine s_nil ?_
        refine g_keep [0, 1, 5, 6, 12, 18, 27] fun ρ3 => ?_
        have HK11 := H25.keep
        clear H25
        refine g_cond_t kr kr ?_
        refine rS [.v, .v, .cp (pre := fun w => w.heap[ba]? = some (.cells curA 3 (0, 0))) (digit_fn x ba (List.length x) ca curA rfl hA (by omega) (j - 1) (by omega)) [] (fun w hb hd => ((hb.block _ (lt_of_heap hpre.1)).trans hpre.1)), .v, .v, .cp (pre := fun w => w.heap[bb]? = some (.cells curB 3 (0, 0))) (digit_fn y bb (List.length y) cb curB rfl hB (by omega) (j - 1) (by omega)) [] (fun w hb hd => ((hb.block _ (lt_of_heap hpre.2)).trans hpre.2)), .e (v := .bool (decide (((List.getD x (j - 1) 0 : Nat) : Int) < ((List.getD y (j - 1) 0 : Nat) : Int)))) (v' := .bool (ls x y)) (bool_eq (ls_digit hx hy (j - 1) (fun t ht => hs t (by omega)) (by unfold dAt; omega))), .v] HK11 kr fun gs26 w26 H26 => ?_
        clear HK11
        refine g_ret kr ?_
        show ∃ vs, Res _ _ _ _ vs ∧ _
        refine ⟨[.bool (ls x y)], (.tmp (.bool (ls x y)) kr .nil), ?_, H26.below⟩
        rfl
      · skip
        refine rp [.e (v := .bool (!(((List.getD x (j - 1) 0 : Nat) : Int) == ((List.getD y (j - 1) 0 : Nat) : Int)))) (v' := .bool false) (bool_eq (by rw [beq_iff_eq.2 (by omega)]; rfl))] H24 kr fun gs27 w27 H27 => ?_
        show WPs _ _ _ _ [] _ _
        clear H24
        refine s_nil ?_
        refine g_keep [0, 1, 5, 6, 12, 18, 27] fun ρ4 => ?_
        have HK12 := H27.keep
        clear H27
        refine g_cond_f kr kr ?_
        refine g_skip kr ?_
        show WP _ _ _ _ _ _
        refine rL [.v, .e (v := .int .i64 (IntKind.i64.wrap (((j - 1 : Nat) : Int) - 1))) (v' := .int .i64 (((j - 1 : Nat) : Int) - 1)) (int_eq (wrap_i64 (by omega) (by omega))), .v] HK12 kr fun gs28 w28 H28 => ?_
        clear HK12
        have HL13 : St w.heap.size w w28 [] := H28.as kr
        clear H28
        show ∃ m, _ ∧ _
        exact ⟨_, (by omega), (j - 1), rfl, (by omega), (Same.down (j := j - 1) (fun t ht => hs t (by omega)) (by unfold dAt; omega)), HL13, (Is.of ⟨kr, kr, kr, kr, kr, trivial⟩)⟩
    · skip
      refine rp [.e (v := .bool (decide (0 ≤ ((j : Nat) : Int) - 1))) (v' := .bool false) (bool_eq (decide_eq_false (by omega)))] H21 kr fun gs29 w29 H29 => ?_
      show WPs _ _ _ _ [] _ _
      clear H21
      refine s_nil ?_
      refine g_cond_f kr kr ?_
      refine g_exit 0 kr ?_
      show WP _ _ _ _ _ _
      refine rS [.v] H29 kr fun gs30 w30 H30 => ?_
      clear H29
      refine g_ret kr ?_
      show ∃ vs, Res _ _ _ _ vs ∧ _
      refine ⟨[.bool false], (.tmp (.bool false) kr .nil), ?_, H30.below⟩
      exact congrArg Value.bool (ls_none (x := x) (y := y) fun t => hs t (by omega)).symm
set_option maxRecDepth 100000 in
set_option maxHeartbeats 2000000 in
theorem take_fn (x y : List Nat) (ba nx ca bb ny cb : Nat) (curA curB : Array Value) (hnx : nx = List.length x) (hny : ny = List.length y) (hA : Rw 1 curA ca nx (cellsD x)) (hB : Rw 1 curB cb ny (cellsD y)) (hx : Ok x) (hy : Ok y) (lx : List.length x ≤ 5000) (ly : List.length y ≤ 5000) (hle : vl y ≤ vl x) : FnR Tryd.prog 60 #[.slice (some ⟨ba, 0, none⟩) nx ca, .slice (some ⟨bb, 0, none⟩) ny cb] (fun w => w.heap[ba]? = some (.cells curA 3 (0, 0)) ∧ w.heap[bb]? = some (.cells curB 3 (0, 0))) (RetS 3 1 (fun cur cap n l => (n = List.length l ∧ Rw 1 cur cap n (cellsD l) ∧ Ok l ∧ (vl l = vl x - vl y ∧ List.length l = List.length x)))) := by
  subst hnx hny
  refine FnR.intro (c := codeOf Tryd.f60) [.tmp 4] 35 Tryd.func60 kr kr kr fun w hpre => ?_
  have H0 := St.start w
  refine rS [.v] H0 kr fun gs1 w1 H1 => ?_
  clear H0
  refine rS [.nw (fun b => .slice (some ⟨b, 0, none⟩) 0 0) #[] 3, .v] H1 kr fun gs2 w2 H2 => ?_
  clear H1
  refine rS [.v] H2 kr fun gs3 w3 H3 => ?_
  clear H2
  refine g_seq kr ?_
  refine rS [.v, .v, .v] H3 kr fun gs4 w4 H4 => ?_
  clear H3
  refine g_block 0 kr ?_
  have HL1 : St w.heap.size w w4 [((gs2 0).b, Obj.cells #[] 3 (0, 0))] := H4.as kr
  clear H4
  refine g_loop kr (fun mz ρ ww => ∃ (b : Nat) (cap : Nat) (n : Nat) (cur : Array Value) (l : List Nat) (k : Nat) (c : Nat), List.length x + 1 - k = mz ∧ (n = List.length l) ∧ (Rw 1 cur cap n (cellsD l)) ∧ (k ≤ List.length x) ∧ (TakeI x y l k (c : Int)) ∧ St w.heap.size w ww [(b, Obj.cells cur 3 (0, 0))] ∧ Is [(0, .slice (some ⟨ba, 0, none⟩) (List.length x) ca), (1, .slice (some ⟨bb, 0, none⟩) (List.length y) cb), (4, .slice none 0 0), (5, .slice (some ⟨b, 0, none⟩) n cap), (6, .int .i64 ((c : Nat) : Int)), (11, .int .i64 ((List.length x : Nat) : Int)), (12, .int .i64 ((k : Nat) : Int))] ρ) (List.length x + 1 - 0) ⟨(gs2 0).b, 0, 0, #[], [], 0, 0, rfl, rfl, (Rw.lit #[] 0 rfl (by unfold maxLen; omega)), (by omega), (TakeI.start x y), HL1, (Is.of ⟨kr, kr, kr, kr, kr, kr, kr, trivial⟩)⟩ ?_
  clear HL1
  rintro _ _ w5 ⟨b, cap, n, cur, l, k, c, rfl, hn, hr, hk, hS, H5, _, rfl⟩
  have hc0 := hS.c0; have hc1 := hS.c1; have hxk := ok_getD hx k; have hyk := ok_getD hy k; have hlen := hS.len; have hok := hS.ok
  by_cases hc2 : (k : Nat) < List.length x
  · skip
    refine rS [.e (v := .bool (decide (((k : Nat) : Int) < ((List.length x : Nat) : Int)))) (v' := .bool true) (bool_eq (decide_eq_true (by omega)))] H5 kr fun gs6 w6 H6 => ?_
    clear H5
    refine g_seq kr ?_
    refine g_cond_t kr kr ?_
    refine g_skip kr ?_
    show WP _ _ _ _ _ _
    refine g_seq kr ?_
    refine g_block 1 kr ?_
    refine rS [.v, .v] H6 kr fun gs7 w7 H7 => ?_
    clear H6
    refine dS [.v, .v, .o (ins := [((.tmp 15), .slice (some ⟨ba, 0, none⟩) (List.length x) ca), ((.tmp 16), .int .i64 ((k : Nat) : Int))]) (v := .pointer (some ⟨ba, 0 + k * 1, none⟩)) (fun ρ o w ho hi => idxS_run (kd := .i64) (t := 60) (e := 3) (size := 1) (bytes := 8) kr (x := (.tmp 15)) (y := (.tmp 16)) ba 0 (List.length x) ca k ho hi.1 hi.2.1 (by omega) w), .fs (off := 0 + k * 1) (v := .int .i64 ((List.getD x k 0 : Nat) : Int)) hpre.1 (lt_of_heap hpre.1) (hA.atD (by omega) rfl), .v, .v, .cp (pre := fun w => w.heap[bb]? = some (.cells curB 3 (0, 0))) (digit_fn y bb (List.length y) cb curB rfl hB (by omega) k (by omega)) [] (fun w hb hd => ((hb.block _ (lt_of_heap hpre.2)).trans hpre.2)), .e (v := .int .i64 (IntKind.i64.wrap (((List.getD x k 0 : Nat) : Int) - ((List.getD y k 0 : Nat) : Int)))) (v' := .int .i64 (((List.getD x k 0 : Nat) : Int) - ((List.getD y k 0 : Nat) : Int))) (int_eq (wrap_i64 (by omega) (by omega))), .v, .e (v := .int .i64 (IntKind.i64.wrap ((((List.getD x k 0 : Nat) : Int) - ((List.getD y k 0 : Nat) : Int)) - ((c : Nat) : Int)))) (v' := .int .i64 ((((List.getD x k 0 : Nat) : Int) - ((List.getD y k 0 : Nat) : Int)) - ((c : Nat) : Int))) (int_eq (wrap_i64 (by omega) (by omega))), .v] H7 kr fun w8 H8 => ?_
    clear H7
    refine g_keep [0, 1, 4, 5, 6, 7, 8, 11, 12, 13] fun ρ1 => ?_
    have HK3 := H8.keep
    clear H8
    refine rS [.v] HK3 kr fun gs9 w9 H9 => ?_
    clear HK3
    refine g_seq kr ?_
    refine g_sreg [0, 1] kr kr ?_
    refine rp [.v] H9 kr fun gs10 w10 H10 => ?_
    show WPs _ _ _ _ [1] _ _
    clear H9
    by_cases hc4 : ((((List.getD x k 0 : Nat) : Int) - ((List.getD y k 0 : Nat) : Int)) - ((c : Nat) : Int) : Int) < 0
    · skip
      refine rp [.e (v := .bool (decide ((((List.getD x k 0 : Nat) : Int) - ((List.getD y k 0 : Nat) : Int)) - ((c : Nat) : Int) < 0))) (v' := .bool true) (bool_eq (decide_eq_true (by omega)))] H10 kr fun gs11 w11 H11 => ?_
      show WPs _ _ _ _ [] _ _
      clear H10
      refine s_nil ?_
      refine g_cond_t kr kr ?_
      refine rS [.v, .e (v := .int .i64 (IntKind.i64.wrap (((((List.getD x k 0 : Nat) : Int) - ((List.getD y k 0 : Nat) : Int)) - ((c : Nat) : Int)) + 65536))) (v' := .int .i64 (((((List.getD x k 0 : Nat) : Int) - ((List.getD y k 0 : Nat) : Int)) - ((c : Nat) : Int)) + 65536)) (int_eq (wrap_i64 (by omega) (by omega))), .v] H11 kr fun gs12 w12 H12 => ?_
      clear H11
      refine rL [.v] H12 kr fun gs13 w13 H13 => ?_
      clear H12
      show WP _ _ _ _ _ _
      refine g_reg0 [0, 1, 2, 3, 4] kr ?_
      refine rp [.v] H13 kr fun gs14 w14 H14 => ?_
      show WPs _ _ _ _ [1, 2, 3, 4] _ _
      clear H13
      refine s_now 8 (v := .int .i64 (((((List.getD x k 0 : Nat) : Int) - ((List.getD y k 0 : Nat) : Int)) - ((c : Nat) : Int)) + 65536)) (v' := .int .i64 ((Int.toNat (((((List.getD x k 0 : Nat) : Int) - ((List.getD y k 0 : Nat) : Int)) - ((c : Nat) : Int)) + 65536) : Nat) : Int)) (int_eq (show (((((List.getD x k 0 : Nat) : Int) - ((List.getD y k 0 : Nat) : Int)) - ((c : Nat) : Int)) + 65536) = ((Int.toNat (((((List.getD x k 0 : Nat) : Int) - ((List.getD y k 0 : Nat) : Int)) - ((c : Nat) : Int)) + 65536) : Nat) : Int) from by omega)) kr ?_
      refine s_now 28 (v := .int .i64 (((((List.getD x k 0 : Nat) : Int) - ((List.getD y k 0 : Nat) : Int)) - ((c : Nat) : Int)) + 65536)) (v' := .int .i64 ((Int.toNat (((((List.getD x k 0 : Nat) : Int) - ((List.getD y k 0 : Nat) : Int)) - ((c : Nat) : Int)) + 65536) : Nat) : Int)) (int_eq (show (((((List.getD x k 0 : Nat) : Int) - ((List.getD y k 0 : Nat) : Int)) - ((c : Nat) : Int)) + 65536) = ((Int.toNat (((((List.getD x k 0 : Nat) : Int) - ((List.getD y k 0 : Nat) : Int)) - ((c : Nat) : Int)) + 65536) : Nat) : Int) from by omega)) kr ?_
      refine rp [.v, .nw (fun b => .slice (some ⟨b, 0, none⟩) 1 1) #[.int .i64 ((Int.toNat (((((List.getD x k 0 : Nat) : Int) - ((List.getD y k 0 : Nat) : Int)) - ((c : Nat) : Int)) + 65536) : Nat) : Int)] 3] H14 kr fun gs15 w15 H15 => ?_
      show WPs _ _ _ _ [3, 4] _ _
      clear H14
      refine s_append H15 (some 32) 60 3 1 8 (.tmp 29) (.tmp 31) 0 1 b ((gs15 1).b) n 1 cap 1 cur #[.int .i64 ((Int.toNat (((((List.getD x k 0 : Nat) : Int) - ((List.getD y k 0 : Nat) : Int)) - ((c : Nat) : Int)) + 65536) : Nat) : Int)] 3 (0, 0) (cellsD l) ([.int .i64 ((Int.toNat (((((List.getD x k 0 : Nat) : Int) - ((List.getD y k 0 : Nat) : Int)) - ((c : Nat) : Int)) + 65536) : Nat) : Int)]) (fun b_1 cur_3 => [(b_1, Obj.cells cur_3 3 (0, 0)), ((gs15 1).b, Obj.cells #[.int .i64 ((Int.toNat (((((List.getD x k 0 : Nat) : Int) - ((List.getD y k 0 : Nat) : Int)) - ((c : Nat) : Int)) + 65536) : Nat) : Int)] 3 (0, 0))]) kr kr kr kr kr hr kr kr (by rfl) (by rfl) (by intro u hu; simp at hu; first | exact hu.elim | (rcases hu with rfl | rfl | rfl | rfl <;> rfl) | (rcases hu with rfl | rfl <;> rfl) | (subst hu; rfl)) (by omega) (by unfold maxLen; omega) (fun _ _ => by kernel_rfl) ?_
      intro b_1 cap_2 cur_3 w16 H16 hr_4; clear H15
      refine rp [.v] H16 kr fun gs17 w17 H17 => ?_
      show WPs _ _ _ _ [] _ _
      clear H16
      refine s_nil ?_
      show WP _ _ _ _ _ _
      refine rL [.e (v := .int .i64 (IntKind.i64.wrap (((k : Nat) : Int) + 1))) (v' := .int .i64 ((k + 1 : Nat) : Int)) (int_eq (wrapAdd_i64 (a := k) (b := 1) (by omega))), .v] H17 kr fun gs18 w18 H18 => ?_
      clear H17
      have HL5 : St w.heap.size w w18 [(b_1, Obj.cells cur_3 3 (0, 0)), ((gs15 1).b, Obj.cells #[.int .i64 ((Int.toNat (((((List.getD x k 0 : Nat) : Int) - ((List.getD y k 0 : Nat) : Int)) - ((c : Nat) : Int)) + 65536) : Nat) : Int)] 3 (0, 0))] := H18.as kr
      clear H18
      have hS2 := hS.step (((((List.getD x k 0 : Nat) : Int) - ((List.getD y k 0 : Nat) : Int)) - ((c : Nat) : Int)) + 65536) ((1 : Nat) : Int) (by omega) (by omega) (by omega) (by omega) (by unfold dAt; omega)
      have HD6 : St w.heap.size w w18 [(b_1, Obj.cells cur_3 3 (0, 0))] := HL5.sub (List.Sublist.cons_cons _ (List.Sublist.cons _ List.Sublist.slnil))
      show ∃ m, _ ∧ _
      exact ⟨_, (by omega), b_1, cap_2, n + 1, cur_3, l ++ [Int.toNat (((((List.getD x k 0 : Nat) : Int) - ((List.getD y k 0 : Nat) : Int)) - ((c : Nat) : Int)) + 65536)], k + 1, 1, rfl, (by rw [List.length_append, ← hn]; rfl), (by rw [cellsD_append]; exact hr_4), (by omega), hS2, HD6, (Is.of ⟨kr, kr, kr, kr, kr, kr, kr, trivial⟩)⟩
    · skip
      refine rp [.e (v := .bool (decide ((((List.getD x k 0 : Nat) : Int) - ((List.getD y k 0 : Nat) : Int)) - ((c : Nat) : Int) < 0))) (v' := .bool false) (bool_eq (decide_eq_false (by omega)))] H10 kr fun gs19 w19 H19 => ?_
      show WPs _ _ _ _ [] _ _
      clear H10
      refine s_nil ?_
      refine g_cond_f kr kr ?_
      refine g_skip kr ?_
      show WP _ _ _ _ _ _
      refine g_reg0 [0, 1, 2, 3, 4] kr ?_
      refine rp [.v] H19 kr fun gs20 w20 H20 => ?_
      show WPs _ _ _ _ [1, 2, 3, 4] _ _
      clear H19
      refine s_now 8 (v := .int .i64 ((((List.getD x k 0 : Nat) : Int) - ((List.getD y k 0 : Nat) : Int)) - ((c : Nat) : Int))) (v' := .int .i64 ((Int.toNat ((((List.getD x k 0 : Nat) : Int) - ((List.getD y k 0 : Nat) : Int)) - ((c : Nat) : Int)) : Nat) : Int)) (int_eq (show ((((List.getD x k 0 : Nat) : Int) - ((List.getD y k 0 : Nat) : Int)) - ((c : Nat) : Int)) = ((Int.toNat ((((List.getD x k 0 : Nat) : Int) - ((List.getD y k 0 : Nat) : Int)) - ((c : Nat) : Int)) : Nat) : Int) from by omega)) kr ?_
      refine s_now 25 (v := .int .i64 ((((List.getD x k 0 : Nat) : Int) - ((List.getD y k 0 : Nat) : Int)) - ((c : Nat) : Int))) (v' := .int .i64 ((Int.toNat ((((List.getD x k 0 : Nat) : Int) - ((List.getD y k 0 : Nat) : Int)) - ((c : Nat) : Int)) : Nat) : Int)) (int_eq (show ((((List.getD x k 0 : Nat) : Int) - ((List.getD y k 0 : Nat) : Int)) - ((c : Nat) : Int)) = ((Int.toNat ((((List.getD x k 0 : Nat) : Int) - ((List.getD y k 0 : Nat) : Int)) - ((c : Nat) : Int)) : Nat) : Int) from by omega)) kr ?_
      refine rp [.v, .nw (fun b => .slice (some ⟨b, 0, none⟩) 1 1) #[.int .i64 ((Int.toNat ((((List.getD x k 0 : Nat) : Int) - ((List.getD y k 0 : Nat) : Int)) - ((c : Nat) : Int)) : Nat) : Int)] 3] H20 kr fun gs21 w21 H21 => ?_
      show WPs _ _ _ _ [3, 4] _ _
      clear H20
      refine s_append H21 (some 32) 60 3 1 8 (.tmp 29) (.tmp 31) 0 1 b ((gs21 1).b) n 1 cap 1 cur #[.int .i64 ((Int.toNat ((((List.getD x k 0 : Nat) : Int) - ((List.getD y k 0 : Nat) : Int)) - ((c : Nat) : Int)) : Nat) : Int)] 3 (0, 0) (cellsD l) ([.int .i64 ((Int.toNat ((((List.getD x k 0 : Nat) : Int) - ((List.getD y k 0 : Nat) : Int)) - ((c : Nat) : Int)) : Nat) : Int)]) (fun b_5 cur_7 => [(b_5, Obj.cells cur_7 3 (0, 0)), ((gs21 1).b, Obj.cells #[.int .i64 ((Int.toNat ((((List.getD x k 0 : Nat) : Int) - ((List.getD y k 0 : Nat) : Int)) - ((c : Nat) : Int)) : Nat) : Int)] 3 (0, 0))]) kr kr kr kr kr hr kr kr (by rfl) (by rfl) (by intro u hu; simp at hu; first | exact hu.elim | (rcases hu with rfl | rfl | rfl | rfl <;> rfl) | (rcases hu with rfl | rfl <;> rfl) | (subst hu; rfl)) (by omega) (by unfold maxLen; omega) (fun _ _ => by kernel_rfl) ?_
      intro b_5 cap_6 cur_7 w22 H22 hr_8; clear H21
      refine rp [.v] H22 kr fun gs23 w23 H23 => ?_
      show WPs _ _ _ _ [] _ _
      clear H22
      refine s_nil ?_
      show WP _ _ _ _ _ _
      refine rL [.e (v := .int .i64 (IntKind.i64.wrap (((k : Nat) : Int) + 1))) (v' := .int .i64 ((k + 1 : Nat) : Int)) (int_eq (wrapAdd_i64 (a := k) (b := 1) (by omega))), .v] H23 kr fun gs24 w24 H24 => ?_
      clear H23
      have HL7 : St w.heap.size w w24 [(b_5, Obj.cells cur_7 3 (0, 0)), ((gs21 1).b, Obj.cells #[.int .i64 ((Int.toNat ((((List.getD x k 0 : Nat) : Int) - ((List.getD y k 0 : Nat) : Int)) - ((c : Nat) : Int)) : Nat) : Int)] 3 (0, 0))] := H24.as kr
      clear H24
      have hS2 := hS.step ((((List.getD x k 0 : Nat) : Int) - ((List.getD y k 0 : Nat) : Int)) - ((c : Nat) : Int)) ((0 : Nat) : Int) (by omega) (by omega) (by omega) (by omega) (by unfold dAt; omega)
      have HD8 : St w.heap.size w w24 [(b_5, Obj.cells cur_7 3 (0, 0))] := HL7.sub (List.Sublist.cons_cons _ (List.Sublist.cons _ List.Sublist.slnil))
      show ∃ m, _ ∧ _
      exact ⟨_, (by omega), b_5, cap_6, n + 1, cur_7, l ++ [Int.toNat ((((List.getD x k 0 : Nat) : Int) - ((List.getD y k 0 : Nat) : Int)) - ((c : Nat) : Int))], k + 1, 0, rfl, (by rw [List.length_append, ← hn]; rfl), (by rw [cellsD_append]; exact hr_8), (by omega), hS2, HD8, (Is.of ⟨kr, kr, kr, kr, kr, kr, kr, trivial⟩)⟩
  · skip
    refine rS [.e (v := .bool (decide (((k : Nat) : Int) < ((List.length x : Nat) : Int)))) (v' := .bool false) (bool_eq (decide_eq_false (by omega)))] H5 kr fun gs25 w25 H25 => ?_
    clear H5
    refine g_seq kr ?_
    refine g_cond_f kr kr ?_
    refine g_exit 0 kr ?_
    show WP _ _ _ _ _ _
    refine rS [.v, .v] H25 kr fun gs26 w26 H26 => ?_
    clear H25
    refine g_ret kr ?_
    show ∃ vs, Res _ _ _ _ vs ∧ _
    refine ⟨[.slice (some ⟨b, 0, none⟩) n cap], (.tmp (.slice (some ⟨b, 0, none⟩) n cap) kr .nil), H26.below, ?_⟩
    obtain rfl : k = List.length x := by omega
    exact ⟨b, cap, _, _, l, rfl, H26.ge 0 (o := .cells cur 3 (0, 0)) kr, H26.get 0 kr, hn, hr, hok, hS.fin hx hy hle, hlen⟩
end Go.Proofs.YtmmloghbnpfedaaDoor

namespace Go.Proofs.YtmmloghbnpfedaaDoor
open Go Go.RowKit
set_option linter.unusedVariables false
set_option maxRecDepth 100000 in
set_option maxHeartbeats 2000000 in
theorem times_fn (x y : List Nat) (ba nx ca bb ny cb : Nat) (curA curB : Array Value) (hnx : nx = List.length x) (hny : ny = List.length y) (hA : Rw 1 curA ca nx (cellsD x)) (hB : Rw 1 curB cb ny (cellsD y)) (hx : Ok x) (hy : Ok y) (lx : List.length x ≤ 5000) (ly : List.length y ≤ 5000) : FnR Tryd.prog 58 #[.slice (some ⟨ba, 0, none⟩) nx ca, .slice (some ⟨bb, 0, none⟩) ny cb] (fun w => w.heap[ba]? = some (.cells curA 3 (0, 0)) ∧ w.heap[bb]? = some (.cells curB 3 (0, 0))) (RetS 3 1 (fun cur cap n l => (n = List.length l ∧ Rw 1 cur cap n (cellsD l) ∧ Ok l ∧ (vl l = vl x * vl y ∧ List.length l = List.length x + List.length y + 1)))) := by
  subst hnx hny
  refine FnR.intro (c := codeOf Tryd.f58) [.tmp 4] 60 Tryd.func58 kr kr kr fun w hpre => ?_
  have H0 := St.start w
  refine rS [.v] H0 kr fun gs1 w1 H1 => ?_
  clear H0
  refine g_sreg [0, 1, 2, 3, 4, 5, 6, 7] kr kr ?_
  refine rp [.v, .v, .v, .v, .e (v := .int .i64 (IntKind.i64.wrap (((List.length x : Nat) : Int) + ((List.length y : Nat) : Int)))) (v' := .int .i64 (((List.length x) + (List.length y) : Nat) : Int)) (int_eq (wrapAdd_i64 (a := List.length x) (b := List.length y) (by omega))), .e (v := .int .i64 (IntKind.i64.wrap ((((List.length x) + (List.length y) : Nat) : Int) + 1))) (v' := .int .i64 ((((List.length x) + (List.length y)) + 1 : Nat) : Int)) (int_eq (wrapAdd_i64 (a := (List.length x) + (List.length y)) (b := 1) (by omega)))] H1 kr fun gs2 w2 H2 => ?_
  show WPs _ _ _ _ [6, 7] _ _
  clear H1
  refine s_make H2 (some 16) 59 3 8 (.int .i64 0) (.tmp 15) (.tmp 15) .i64 .i64 (((List.length x) + (List.length y)) + 1) kr kr kr kr rfl kr kr (by omega) (by unfold maxLen; omega) ?_
  intro b_1 cur_2 w3 H3 hr_3; clear H2
  have hr_3z : Rw 1 cur_2 (((List.length x) + (List.length y)) + 1) (((List.length x) + (List.length y)) + 1) (cellsD (List.replicate (((List.length x) + (List.length y)) + 1) 0)) := by unfold cellsD; rw [List.map_replicate]; exact hr_3
  refine rp [.v] H3 kr fun gs4 w4 H4 => ?_
  show WPs _ _ _ _ [] _ _
  clear H3
  refine s_nil ?_
  refine g_seq kr ?_
  refine rS [.v, .v, .v] H4 kr fun gs5 w5 H5 => ?_
  clear H4
  refine g_block 0 kr ?_
  have HL1 : St w.heap.size w w5 [(b_1, Obj.cells cur_2 3 (0, 0))] := H5.as kr
  clear H5
  refine g_loop kr (fun mz ρ ww => ∃ (b : Nat) (cap : Nat) (n : Nat) (cur : Array Value) (l : List Nat) (i : Nat), List.length x + 1 - i = mz ∧ (n = List.length l) ∧ (Rw 1 cur cap n (cellsD l)) ∧ (i ≤ List.length x) ∧ (List.length l = List.length x + List.length y + 1) ∧ (Ok l) ∧ (vl l = vl (List.take i x) * vl y) ∧ St w.heap.size w ww [(b, Obj.cells cur 3 (0, 0))] ∧ Is [(0, .slice (some ⟨ba, 0, none⟩) (List.length x) ca), (1, .slice (some ⟨bb, 0, none⟩) (List.length y) cb), (4, .slice none 0 0), (5, .slice (some ⟨b, 0, none⟩) n cap), (18, .int .i64 ((List.length x : Nat) : Int)), (19, .int .i64 ((i : Nat) : Int))] ρ) (List.length x + 1 - 0) ⟨b_1, ((List.length x) + (List.length y)) + 1, ((List.length x) + (List.length y)) + 1, cur_2, (List.replicate (((List.length x) + (List.length y)) + 1) 0), 0, rfl, (by rw [List.length_replicate]), hr_3z, (by omega), (by rw [List.length_replicate]), (ok_zeros _), (by rw [vl_zeros]; simp [vl]), HL1, (Is.of ⟨kr, kr, kr, kr, kr, kr, trivial⟩)⟩ ?_
  clear HL1
  rintro _ _ w6 ⟨b, cap, n, cur, l, i, rfl, hn, hr, hi, hl, hok, hv, H6, _, rfl⟩
  by_cases hc2 : (i : Nat) < List.length x
  · skip
    refine rS [.e (v := .bool (decide (((i : Nat) : Int) < ((List.length x : Nat) : Int)))) (v' := .bool true) (bool_eq (decide_eq_true (by omega)))] H6 kr fun gs7 w7 H7 => ?_
    clear H6
    refine g_seq kr ?_
    refine g_cond_t kr kr ?_
    refine g_skip kr ?_
    show WP _ _ _ _ _ _
    refine g_seq kr ?_
    refine g_block 1 kr ?_
    refine rS [.v, .v] H7 kr fun gs8 w8 H8 => ?_
    clear H7
    refine rS [.v] H8 kr fun gs9 w9 H9 => ?_
    clear H8
    refine rS [.v] H9 kr fun gs10 w10 H10 => ?_
    clear H9
    refine g_block 2 kr ?_
    have HL3 : St w.heap.size w w10 [(b, Obj.cells cur 3 (0, 0))] := H10.as kr
    clear H10
    refine g_loop kr (fun mz ρ ww => ∃ (b2 : Nat) (cap2 : Nat) (n2 : Nat) (cur2 : Array Value) (l2 : List Nat) (k : Nat) (c : Nat), List.length y + 2 - k = mz ∧ (n2 = List.length l2) ∧ (Rw 1 cur2 cap2 n2 (cellsD l2)) ∧ (MulI x y l2 i k c) ∧ St w.heap.size w ww [(b2, Obj.cells cur2 3 (0, 0))] ∧ Is [(0, .slice (some ⟨ba, 0, none⟩) (List.length x) ca), (1, .slice (some ⟨bb, 0, none⟩) (List.length y) cb), (4, .slice none 0 0), (5, .slice (some ⟨b2, 0, none⟩) n2 cap2), (6, .int .i64 ((i : Nat) : Int)), (7, .int .i64 ((c : Nat) : Int)), (8, .int .i64 ((k : Nat) : Int)), (18, .int .i64 ((List.length x : Nat) : Int)), (19, .int .i64 ((i : Nat) : Int)), (20, .bool true)] ρ) (List.length y + 2 - 0) ⟨b, cap, n, cur, l, 0, 0, rfl, hn, hr, (MulI.start hl hok (by omega) hv), HL3, (Is.of ⟨kr, kr, kr, kr, kr, kr, kr, kr, kr, kr, trivial⟩)⟩ ?_
    clear HL3
    rintro _ _ w11 ⟨b2, cap2, n2, cur2, l2, k, c, rfl, hn2, hr2, hM, H11, _, rfl⟩
    have hcw := hM.cw; have htop := hM.top; have hii := hM.hi; have hlen2 := hM.len; have ho := ok_getD hM.ok (i + k); have hxi := ok_getD hx i; have hyk := ok_getD hy k
    have hm : List.getD x i 0 * List.getD y k 0 ≤ 65535 * 65535 := Nat.mul_le_mul (by omega) (by omega)
    refine g_seq kr ?_
    refine g_sreg [0, 1, 2, 3, 4, 5, 6, 7] kr kr ?_
    refine rp [.v, .v, .v] H11 kr fun gs12 w12 H12 => ?_
    show WPs _ _ _ _ [3, 4, 5, 6, 7] _ _
    clear H11
    by_cases hc4 : (k : Nat) < List.length y
    · skip
      refine rp [.e (v := .bool (decide (((k : Nat) : Int) < ((List.length y : Nat) : Int)))) (v' := .bool true) (bool_eq (decide_eq_true (by omega))), .v, .n, .n, .v] H12 kr fun gs13 w13 H13 => ?_
      show WPs _ _ _ _ [] _ _
      clear H12
      refine s_nil ?_
      refine g_keep [0, 1, 4, 5, 6, 7, 8, 18, 19, 20, 29] fun ρ1 => ?_
      have HK5 := H13.keep
      clear H13
      refine g_cond_t kr kr ?_
      refine g_skip kr ?_
      show WP _ _ _ _ _ _
      refine g_seq kr ?_
      refine g_block 3 kr ?_
      obtain ⟨hij, hM2⟩ := hM.next hx hy (by omega)
      refine dS [.v, .v, .v, .e (v := .int .i64 (IntKind.i64.wrap (((i : Nat) : Int) + ((k : Nat) : Int)))) (v' := .int .i64 ((i + k : Nat) : Int)) (int_eq (wrapAdd_i64 (a := i) (b := k) (by omega))), .o (ins := [((.tmp 32), .slice (some ⟨b2, 0, none⟩) n2 cap2), ((.tmp 35), .int .i64 ((i + k : Nat) : Int))]) (v := .pointer (some ⟨b2, 0 + (i + k) * 1, none⟩)) (fun ρ o w ho hi => idxS_run (kd := .i64) (t := 59) (e := 3) (size := 1) (bytes := 8) kr (x := (.tmp 32)) (y := (.tmp 35)) b2 0 n2 cap2 (i + k) ho hi.1 hi.2.1 (by omega) w), .ls (C := cur2) (off := 0 + (i + k) * 1) (v := .int .i64 ((List.getD l2 (i + k) 0 : Nat) : Int)) 0 (hr2.atD (by omega) hn2), .v, .v, .o (ins := [((.tmp 38), .slice (some ⟨ba, 0, none⟩) (List.length x) ca), ((.tmp 39), .int .i64 ((i : Nat) : Int))]) (v := .pointer (some ⟨ba, 0 + i * 1, none⟩)) (fun ρ o w ho hi => idxS_run (kd := .i64) (t := 60) (e := 3) (size := 1) (bytes := 8) kr (x := (.tmp 38)) (y := (.tmp 39)) ba 0 (List.length x) ca i ho hi.1 hi.2.1 (by omega) w), .fs (off := 0 + i * 1) (v := .int .i64 ((List.getD x i 0 : Nat) : Int)) hpre.1 (lt_of_heap hpre.1) (hA.atD (by omega) rfl), .v, .v, .cp (pre := fun w => w.heap[bb]? = some (.cells curB 3 (0, 0))) (digit_fn y bb (List.length y) cb curB rfl hB (by omega) k (by omega)) [] (fun w hb hd => ((hb.block _ (lt_of_heap hpre.2)).trans hpre.2)), .e (v := .int .i64 (IntKind.i64.wrap (((List.getD x i 0 : Nat) : Int) * ((List.getD y k 0 : Nat) : Int)))) (v' := .int .i64 (((List.getD x i 0) * (List.getD y k 0) : Nat) : Int)) (int_eq (wrapMul_i64 (a := List.getD x i 0) (b := List.getD y k 0) (by omega))), .e (v := .int .i64 (IntKind.i64.wrap (((List.getD l2 (i + k) 0 : Nat) : Int) + (((List.getD x i 0) * (List.getD y k 0) : Nat) : Int)))) (v' := .int .i64 (((List.getD l2 (i + k) 0) + ((List.getD x i 0) * (List.getD y k 0)) : Nat) : Int)) (int_eq (wrapAdd_i64 (a := List.getD l2 (i + k) 0) (b := (List.getD x i 0) * (List.getD y k 0)) (by omega))), .v, .e (v := .int .i64 (IntKind.i64.wrap ((((List.getD l2 (i + k) 0) + ((List.getD x i 0) * (List.getD y k 0)) : Nat) : Int) + ((c : Nat) : Int)))) (v' := .int .i64 ((((List.getD l2 (i + k) 0) + ((List.getD x i 0) * (List.getD y k 0))) + c : Nat) : Int)) (int_eq (wrapAdd_i64 (a := (List.getD l2 (i + k) 0) + ((List.getD x i 0) * (List.getD y k 0))) (b := c) (by omega))), .v] HK5 kr fun w14 H14 => ?_
      clear HK5
      refine g_keep [0, 1, 4, 5, 6, 7, 8, 9, 18, 19, 20, 29] fun ρ2 => ?_
      have HK6 := H14.keep
      clear H14
      refine g_sreg [0, 1, 2, 3, 4, 5, 6, 7] kr kr ?_
      refine rp [.v, .v, .v, .e (v := .int .i64 (IntKind.i64.wrap (((i : Nat) : Int) + ((k : Nat) : Int)))) (v' := .int .i64 ((i + k : Nat) : Int)) (int_eq (wrapAdd_i64 (a := i) (b := k) (by omega))), .v, .e (v := .int .i64 (Int.tmod ((((List.getD l2 (i + k) 0) + ((List.getD x i 0) * (List.getD y k 0))) + c : Nat) : Int) 65536)) (v' := .int .i64 (((((List.getD l2 (i + k) 0) + ((List.getD x i 0) * (List.getD y k 0))) + c) % 65536 : Nat) : Int)) (int_eq (remN (((List.getD l2 (i + k) 0) + ((List.getD x i 0) * (List.getD y k 0))) + c) 65536)), .o (ins := [((.tmp 49), .slice (some ⟨b2, 0, none⟩) n2 cap2), ((.tmp 52), .int .i64 ((i + k : Nat) : Int))]) (v := .pointer (some ⟨b2, 0 + (i + k) * 1, none⟩)) (fun ρ o w ho hi => idxS_run (kd := .i64) (t := 59) (e := 3) (size := 1) (bytes := 8) kr (x := (.tmp 49)) (y := (.tmp 52)) b2 0 n2 cap2 (i + k) ho hi.1 hi.2.1 (by omega) w)] HK6 kr fun gs15 w15 H15 => ?_
      show WPs _ _ _ _ [7] _ _
      clear HK6
      obtain ⟨cur_4, hc_5, hs_6, hr_7⟩ := hr2.put (i + k) ((((List.getD l2 (i + k) 0) + ((List.getD x i 0) * (List.getD y k 0))) + c) % 65536) (by omega)
      refine rp [.se (C := cur2) (C' := cur_4) (off := 0 + (i + k) * 1) (v := .int .i64 (((((List.getD l2 (i + k) 0) + ((List.getD x i 0) * (List.getD y k 0))) + c) % 65536 : Nat) : Int)) 0 hs_6 hc_5] H15 kr fun gs16 w16 H16 => ?_
      show WPs _ _ _ _ [] _ _
      clear H15
      refine s_nil ?_
      refine rL [.v, .e (v := .int .i64 (IntKind.i64.wrap (((((List.getD l2 (i + k) 0) + ((List.getD x i 0) * (List.getD y k 0))) + c : Nat) : Int).tdiv 65536))) (v' := .int .i64 (((((List.getD l2 (i + k) 0) + ((List.getD x i 0) * (List.getD y k 0))) + c) / 65536 : Nat) : Int)) (int_eq (quoN_i64 (a := ((List.getD l2 (i + k) 0) + ((List.getD x i 0) * (List.getD y k 0))) + c) (b := 65536) (by omega))), .v] H16 kr fun gs17 w17 H17 => ?_
      clear H16
      show WP _ _ _ _ _ _
      refine rL [.v, .e (v := .int .i64 (IntKind.i64.wrap (((k : Nat) : Int) + 1))) (v' := .int .i64 ((k + 1 : Nat) : Int)) (int_eq (wrapAdd_i64 (a := k) (b := 1) (by omega))), .v] H17 kr fun gs18 w18 H18 => ?_
      clear H17
      have HL7 : St w.heap.size w w18 [(b2, Obj.cells cur_4 3 (0, 0))] := H18.as kr
      clear H18
      show ∃ m, _ ∧ _
      exact ⟨_, (by have := hM2.top; omega), b2, cap2, n2, cur_4, (List.set l2 (i + k) ((((List.getD l2 (i + k) 0) + ((List.getD x i 0) * (List.getD y k 0))) + c) % 65536)), k + 1, (List.getD l2 (i + k) 0 + List.getD x i 0 * List.getD y k 0 + c) / 65536, rfl, (by rw [List.length_set]; exact hn2), hr_7, hM2, HL7, (Is.of ⟨kr, kr, kr, kr, kr, kr, kr, kr, kr, kr, trivial⟩)⟩
    · skip
      refine rp [.e (v := .bool (decide (((k : Nat) : Int) < ((List.length y : Nat) : Int)))) (v' := .bool false) (bool_eq (decide_eq_false (by omega))), .v, .v] H12 kr fun gs19 w19 H19 => ?_
      show WPs _ _ _ _ [6, 7] _ _
      clear H12
      by_cases hc8 : (c : Nat) > 0
      · skip
        refine rp [.e (v := .bool (decide (0 < ((c : Nat) : Int)))) (v' := .bool true) (bool_eq (decide_eq_true (by omega))), .v] H19 kr fun gs20 w20 H20 => ?_
        show WPs _ _ _ _ [] _ _
        clear H19
        refine s_nil ?_
        refine g_keep [0, 1, 4, 5, 6, 7, 8, 18, 19, 20, 29] fun ρ3 => ?_
        have HK9 := H20.keep
        clear H20
        refine g_cond_t kr kr ?_
        refine g_skip kr ?_
        show WP _ _ _ _ _ _
        refine g_seq kr ?_
        refine g_block 3 kr ?_
        obtain ⟨hij, hM2⟩ := hM.next hx hy (by omega)
        refine dS [.v, .v, .v, .e (v := .int .i64 (IntKind.i64.wrap (((i : Nat) : Int) + ((k : Nat) : Int)))) (v' := .int .i64 ((i + k : Nat) : Int)) (int_eq (wrapAdd_i64 (a := i) (b := k) (by omega))), .o (ins := [((.tmp 32), .slice (some ⟨b2, 0, none⟩) n2 cap2), ((.tmp 35), .int .i64 ((i + k : Nat) : Int))]) (v := .pointer (some ⟨b2, 0 + (i + k) * 1, none⟩)) (fun ρ o w ho hi => idxS_run (kd := .i64) (t := 59) (e := 3) (size := 1) (bytes := 8) kr (x := (.tmp 32)) (y := (.tmp 35)) b2 0 n2 cap2 (i + k) ho hi.1 hi.2.1 (by omega) w), .ls (C := cur2) (off := 0 + (i + k) * 1) (v := .int .i64 ((List.getD l2 (i + k) 0 : Nat) : Int)) 0 (hr2.atD (by omega) hn2), .v, .v, .o (ins := [((.tmp 38), .slice (some ⟨ba, 0, none⟩) (List.length x) ca), ((.tmp 39), .int .i64 ((i : Nat) : Int))]) (v := .pointer (some ⟨ba, 0 + i * 1, none⟩)) (fun ρ o w ho hi => idxS_run (kd := .i64) (t := 60) (e := 3) (size := 1) (bytes := 8) kr (x := (.tmp 38)) (y := (.tmp 39)) ba 0 (List.length x) ca i ho hi.1 hi.2.1 (by omega) w), .fs (off := 0 + i * 1) (v := .int .i64 ((List.getD x i 0 : Nat) : Int)) hpre.1 (lt_of_heap hpre.1) (hA.atD (by omega) rfl), .v, .v, .cp (pre := fun w => w.heap[bb]? = some (.cells curB 3 (0, 0))) (digit_fn y bb (List.length y) cb curB rfl hB (by omega) k (by omega)) [] (fun w hb hd => ((hb.block _ (lt_of_heap hpre.2)).trans hpre.2)), .e (v := .int .i64 (IntKind.i64.wrap (((List.getD x i 0 : Nat) : Int) * ((List.getD y k 0 : Nat) : Int)))) (v' := .int .i64 (((List.getD x i 0) * (List.getD y k 0) : Nat) : Int)) (int_eq (wrapMul_i64 (a := List.getD x i 0) (b := List.getD y k 0) (by omega))), .e (v := .int .i64 (IntKind.i64.wrap (((List.getD l2 (i + k) 0 : Nat) : Int) + (((List.getD x i 0) * (List.getD y k 0) : Nat) : Int)))) (v' := .int .i64 (((List.getD l2 (i + k) 0) + ((List.getD x i 0) * (List.getD y k 0)) : Nat) : Int)) (int_eq (wrapAdd_i64 (a := List.getD l2 (i + k) 0) (b := (List.getD x i 0) * (List.getD y k 0)) (by omega))), .v, .e (v := .int .i64 (IntKind.i64.wrap ((((List.getD l2 (i + k) 0) + ((List.getD x i 0) * (List.getD y k 0)) : Nat) : Int) + ((c : Nat) : Int)))) (v' := .int .i64 ((((List.getD l2 (i + k) 0) + ((List.getD x i 0) * (List.getD y k 0))) + c : Nat) : Int)) (int_eq (wrapAdd_i64 (a := (List.getD l2 (i + k) 0) + ((List.getD x i 0) * (List.getD y k 0))) (b := c) (by omega))), .v] HK9 kr fun w21 H21 => ?_
        clear HK9
        refine g_keep [0, 1, 4, 5, 6, 7, 8, 9, 18, 19, 20, 29] fun ρ4 => ?_
        have HK10 := H21.keep
        clear H21
        refine g_sreg [0, 1, 2, 3, 4, 5, 6, 7] kr kr ?_
        refine rp [.v, .v, .v, .e (v := .int .i64 (IntKind.i64.wrap (((i : Nat) : Int) + ((k : Nat) : Int)))) (v' := .int .i64 ((i + k : Nat) : Int)) (int_eq (wrapAdd_i64 (a := i) (b := k) (by omega))), .v, .e (v := .int .i64 (Int.tmod ((((List.getD l2 (i + k) 0) + ((List.getD x i 0) * (List.getD y k 0))) + c : Nat) : Int) 65536)) (v' := .int .i64 (((((List.getD l2 (i + k) 0) + ((List.getD x i 0) * (List.getD y k 0))) + c) % 65536 : Nat) : Int)) (int_eq (remN (((List.getD l2 (i + k) 0) + ((List.getD x i 0) * (List.getD y k 0))) + c) 65536)), .o (ins := [((.tmp 49), .slice (some ⟨b2, 0, none⟩) n2 cap2), ((.tmp 52), .int .i64 ((i + k : Nat) : Int))]) (v := .pointer (some ⟨b2, 0 + (i + k) * 1, none⟩)) (fun ρ o w ho hi => idxS_run (kd := .i64) (t := 59) (e := 3) (size := 1) (bytes := 8) kr (x := (.tmp 49)) (y := (.tmp 52)) b2 0 n2 cap2 (i + k) ho hi.1 hi.2.1 (by omega) w)] HK10 kr fun gs22 w22 H22 => ?_
        show WPs _ _ _ _ [7] _ _
        clear HK10
        obtain ⟨cur_8, hc_9, hs_10, hr_11⟩ := hr2.put (i + k) ((((List.getD l2 (i + k) 0) + ((List.getD x i 0) * (List.getD y k 0))) + c) % 65536) (by omega)
        refine rp [.se (C := cur2) (C' := cur_8) (off := 0 + (i + k) * 1) (v := .int .i64 (((((List.getD l2 (i + k) 0) + ((List.getD x i 0) * (List.getD y k 0))) + c) % 65536 : Nat) : Int)) 0 hs_10 hc_9] H22 kr fun gs23 w23 H23 => ?_
        show WPs _ _ _ _ [] _ _
        clear H22
        refine s_nil ?_
        refine rL [.v, .e (v := .int .i64 (IntKind.i64.wrap (((((List.getD l2 (i + k) 0) + ((List.getD x i 0) * (List.getD y k 0))) + c : Nat) : Int).tdiv 65536))) (v' := .int .i64 (((((List.getD l2 (i + k) 0) + ((List.getD x i 0) * (List.getD y k 0))) + c) / 65536 : Nat) : Int)) (int_eq (quoN_i64 (a := ((List.getD l2 (i + k) 0) + ((List.getD x i 0) * (List.getD y k 0))) + c) (b := 65536) (by omega))), .v] H23 kr fun gs24 w24 H24 => ?_
        clear H23
        show WP _ _ _ _ _ _
        refine rL [.v, .e (v := .int .i64 (IntKind.i64.wrap (((k : Nat) : Int) + 1))) (v' := .int .i64 ((k + 1 : Nat) : Int)) (int_eq (wrapAdd_i64 (a := k) (b := 1) (by omega))), .v] H24 kr fun gs25 w25 H25 => ?_
        clear H24
        have HL11 : St w.heap.size w w25 [(b2, Obj.cells cur_8 3 (0, 0))] := H25.as kr
        clear H25
        show ∃ m, _ ∧ _
        exact ⟨_, (by have := hM2.top; omega), b2, cap2, n2, cur_8, (List.set l2 (i + k) ((((List.getD l2 (i + k) 0) + ((List.getD x i 0) * (List.getD y k 0))) + c) % 65536)), k + 1, (List.getD l2 (i + k) 0 + List.getD x i 0 * List.getD y k 0 + c) / 65536, rfl, (by rw [List.length_set]; exact hn2), hr_11, hM2, HL11, (Is.of ⟨kr, kr, kr, kr, kr, kr, kr, kr, kr, kr, trivial⟩)⟩
      · skip
        refine rp [.e (v := .bool (decide (0 < ((c : Nat) : Int)))) (v' := .bool false) (bool_eq (decide_eq_false (by omega))), .v] H19 kr fun gs26 w26 H26 => ?_
        show WPs _ _ _ _ [] _ _
        clear H19
        refine s_nil ?_
        refine g_keep [0, 1, 4, 5, 6, 7, 8, 18, 19, 20, 29] fun ρ5 => ?_
        have HK12 := H26.keep
        clear H26
        refine g_cond_f kr kr ?_
        refine g_exit 2 kr ?_
        show WP _ _ _ _ _ _
        refine rL [.e (v := .int .i64 (IntKind.i64.wrap (((i : Nat) : Int) + 1))) (v' := .int .i64 ((i + 1 : Nat) : Int)) (int_eq (wrapAdd_i64 (a := i) (b := 1) (by omega))), .v] HK12 kr fun gs27 w27 H27 => ?_
        clear HK12
        have HL13 : St w.heap.size w w27 [(b2, Obj.cells cur2 3 (0, 0))] := H27.as kr
        clear H27
        show ∃ m, _ ∧ _
        exact ⟨_, (by omega), b2, cap2, n2, cur2, l2, i + 1, rfl, hn2, hr2, (by omega), hM.len, hM.ok, (hM.fin (by omega) (by omega)), HL13, (Is.of ⟨kr, kr, kr, kr, kr, kr, trivial⟩)⟩
  · skip
    refine rS [.e (v := .bool (decide (((i : Nat) : Int) < ((List.length x : Nat) : Int)))) (v' := .bool false) (bool_eq (decide_eq_false (by omega)))] H6 kr fun gs28 w28 H28 => ?_
    clear H6
    refine g_seq kr ?_
    refine g_cond_f kr kr ?_
    refine g_exit 0 kr ?_
    show WP _ _ _ _ _ _
    refine rS [.v, .v] H28 kr fun gs29 w29 H29 => ?_
    clear H28
    refine g_ret kr ?_
    show ∃ vs, Res _ _ _ _ vs ∧ _
    refine ⟨[.slice (some ⟨b, 0, none⟩) n cap], (.tmp (.slice (some ⟨b, 0, none⟩) n cap) kr .nil), H29.below, ?_⟩
    obtain rfl : i = List.length x := by omega
    exact ⟨b, cap, _, _, l, rfl, H29.ge 0 (o := .cells cur 3 (0, 0)) kr, H29.get 0 kr, hn, hr, hok, by rw [hv, List.take_of_length_le (Nat.le_refl _)], hl⟩
end Go.Proofs.YtmmloghbnpfedaaDoor

namespace Go.Proofs.YtmmloghbnpfedaaDoor
open Go Go.RowKit
set_option linter.unusedVariables false
set_option maxRecDepth 100000 in
set_option maxHeartbeats 2000000 in
theorem to_fn (x : List Nat) (ba nx ca : Nat) (curA : Array Value) (hnx : nx = List.length x) (hA : Rw 1 curA ca nx (cellsD x)) (lx : List.length x ≤ 100000) (hx : Ok x) : FnP Tryd.prog 77 #[.slice (some ⟨ba, 0, none⟩) nx ca] (fun w => w.heap[ba]? = some (.cells curA 3 (0, 0))) (uv (vl x % big)) := by
  subst hnx
  have hd0 := ok_getD hx 0
  have hd1 := ok_getD hx 1
  have hd2 := ok_getD hx 2
  have hd3 := ok_getD hx 3
  have hd4 := ok_getD hx 4
  have hd5 := ok_getD hx 5
  have hd6 := ok_getD hx 6
  have hd7 := ok_getD hx 7
  have hd8 := ok_getD hx 8
  have hd9 := ok_getD hx 9
  have hd10 := ok_getD hx 10
  have hd11 := ok_getD hx 11
  have hd12 := ok_getD hx 12
  have hd13 := ok_getD hx 13
  have hd14 := ok_getD hx 14
  have hd15 := ok_getD hx 15
  refine FnP.intro (c := codeOf Tryd.f77) [.cell 2 24] 24 Tryd.func77 kr kr kr fun w hpre => ?_
  have H0 := St.start w
  refine rS [.a] H0 kr fun gs1 w1 H1 => ?_
  clear H0
  refine rS [.v, .a, .s 1] H1 kr fun gs2 w2 H2 => ?_
  clear H1
  refine g_seq kr ?_
  refine rS [.v] H2 kr fun gs3 w3 H3 => ?_
  clear H2
  refine g_block 0 kr ?_
  have HL1 : St w.heap.size w w3 [((gs1 0).b, Obj.cells #[.int .u64 0, .int .u64 0, .int .u64 0, .int .u64 0] 24 (0, 0)), ((gs2 1).b, Obj.cells #[.int .u64 0, .int .u64 0, .int .u64 0, .int .u64 0] 24 (0, 0))] := H3.as kr
  clear H3
  refine g_first kr ?_
  refine g_seq kr ?_
  refine rS [.v, .v] HL1 kr fun gs4 w4 H4 => ?_
  clear HL1
  refine g_cond_t kr kr ?_
  refine g_skip kr ?_
  show WP _ _ _ _ _ _
  refine g_seq kr ?_
  refine g_block 1 kr ?_
  refine dL [.v, .v, .v, .v, .v, .l 1, .v, .v, .v, .cp (pre := fun w => w.heap[ba]? = some (.cells curA 3 (0, 0))) (digit_fn x ba (List.length x) ca curA rfl hA (by omega) 15 (by omega)) [] (fun w hb hd => ((hb.block _ (lt_of_heap hpre)).trans hpre)), .e (v := .int .u64 (IntKind.u64.wrap (((List.getD x 15 0 : Nat) : Int)))) (v' := .int .u64 ((List.getD x 15 0 : Nat) : Int)) (int_eq (wrapN_u64 (a := List.getD x 15 0) (by omega))), .e (v := .int .u64 (IntKind.u64.wrap (0 + ((List.getD x 15 0 : Nat) : Int)))) (v' := .int .u64 ((List.getD x 15 0 : Nat) : Int)) (int_eq (show IntKind.u64.wrap ((0 : Int) + ((List.getD x 15 0 : Nat) : Int)) = _ by rw [Int.zero_add]; exact wrapN_u64 (by omega))), .v, .s 1] H4 kr fun w5 H5 => ?_
  clear H4
  show WP _ _ _ _ _ _
  refine g_keep [0, 2, 3, 4, 7] fun ρ1 => ?_
  have HK2 := H5.keep
  clear H5
  refine rL [.v, .v, .v] HK2 kr fun gs6 w6 H6 => ?_
  clear HK2
  show WPL _ _ _ _ _ _
  refine g_next ?_
  refine g_seq kr ?_
  refine rS [.v, .v] H6 kr fun gs7 w7 H7 => ?_
  clear H6
  refine g_cond_t kr kr ?_
  refine g_skip kr ?_
  show WP _ _ _ _ _ _
  refine g_seq kr ?_
  refine g_block 1 kr ?_
  refine dL [.v, .v, .v, .v, .v, .l 1, .e (v := .int .u64 (IntKind.u64.wrap (((List.getD x 15 0 : Nat) : Int) * 65536))) (v' := .int .u64 (((List.getD x 15 0) * 65536 : Nat) : Int)) (int_eq (wrapMul_u64 (a := List.getD x 15 0) (b := 65536) (by omega))), .v, .v, .cp (pre := fun w => w.heap[ba]? = some (.cells curA 3 (0, 0))) (digit_fn x ba (List.length x) ca curA rfl hA (by omega) 14 (by omega)) [] (fun w hb hd => ((hb.block _ (lt_of_heap hpre)).trans hpre)), .e (v := .int .u64 (IntKind.u64.wrap (((List.getD x 14 0 : Nat) : Int)))) (v' := .int .u64 ((List.getD x 14 0 : Nat) : Int)) (int_eq (wrapN_u64 (a := List.getD x 14 0) (by omega))), .e (v := .int .u64 (IntKind.u64.wrap ((((List.getD x 15 0) * 65536 : Nat) : Int) + ((List.getD x 14 0 : Nat) : Int)))) (v' := .int .u64 ((((List.getD x 15 0) * 65536) + (List.getD x 14 0) : Nat) : Int)) (int_eq (wrapAdd_u64 (a := (List.getD x 15 0) * 65536) (b := List.getD x 14 0) (by omega))), .v, .s 1] H7 kr fun w8 H8 => ?_
  clear H7
  show WP _ _ _ _ _ _
  refine g_keep [0, 2, 3, 4, 7] fun ρ2 => ?_
  have HK3 := H8.keep
  clear H8
  refine rL [.v, .v, .v] HK3 kr fun gs9 w9 H9 => ?_
  clear HK3
  show WPL _ _ _ _ _ _
  refine g_next ?_
  refine g_seq kr ?_
  refine rS [.v, .v] H9 kr fun gs10 w10 H10 => ?_
  clear H9
  refine g_cond_t kr kr ?_
  refine g_skip kr ?_
  show WP _ _ _ _ _ _
  refine g_seq kr ?_
  refine g_block 1 kr ?_
  refine dL [.v, .v, .v, .v, .v, .l 1, .e (v := .int .u64 (IntKind.u64.wrap (((((List.getD x 15 0) * 65536) + (List.getD x 14 0) : Nat) : Int) * 65536))) (v' := .int .u64 (((((List.getD x 15 0) * 65536) + (List.getD x 14 0)) * 65536 : Nat) : Int)) (int_eq (wrapMul_u64 (a := ((List.getD x 15 0) * 65536) + (List.getD x 14 0)) (b := 65536) (by omega))), .v, .v, .cp (pre := fun w => w.heap[ba]? = some (.cells curA 3 (0, 0))) (digit_fn x ba (List.length x) ca curA rfl hA (by omega) 13 (by omega)) [] (fun w hb hd => ((hb.block _ (lt_of_heap hpre)).trans hpre)), .e (v := .int .u64 (IntKind.u64.wrap (((List.getD x 13 0 : Nat) : Int)))) (v' := .int .u64 ((List.getD x 13 0 : Nat) : Int)) (int_eq (wrapN_u64 (a := List.getD x 13 0) (by omega))), .e (v := .int .u64 (IntKind.u64.wrap ((((((List.getD x 15 0) * 65536) + (List.getD x 14 0)) * 65536 : Nat) : Int) + ((List.getD x 13 0 : Nat) : Int)))) (v' := .int .u64 ((((((List.getD x 15 0) * 65536) + (List.getD x 14 0)) * 65536) + (List.getD x 13 0) : Nat) : Int)) (int_eq (wrapAdd_u64 (a := (((List.getD x 15 0) * 65536) + (List.getD x 14 0)) * 65536) (b := List.getD x 13 0) (by omega))), .v, .s 1] H10 kr fun w11 H11 => ?_
  clear H10
  show WP _ _ _ _ _ _
  refine g_keep [0, 2, 3, 4, 7] fun ρ3 => ?_
  have HK4 := H11.keep
  clear H11
  refine rL [.v, .v, .v] HK4 kr fun gs12 w12 H12 => ?_
  clear HK4
  show WPL _ _ _ _ _ _
  refine g_next ?_
  refine g_seq kr ?_
  refine rS [.v, .v] H12 kr fun gs13 w13 H13 => ?_
  clear H12
  refine g_cond_t kr kr ?_
  refine g_skip kr ?_
  show WP _ _ _ _ _ _
  refine g_seq kr ?_
  refine g_block 1 kr ?_
  refine dL [.v, .v, .v, .v, .v, .l 1, .e (v := .int .u64 (IntKind.u64.wrap (((((((List.getD x 15 0) * 65536) + (List.getD x 14 0)) * 65536) + (List.getD x 13 0) : Nat) : Int) * 65536))) (v' := .int .u64 (((((((List.getD x 15 0) * 65536) + (List.getD x 14 0)) * 65536) + (List.getD x 13 0)) * 65536 : Nat) : Int)) (int_eq (wrapMul_u64 (a := ((((List.getD x 15 0) * 65536) + (List.getD x 14 0)) * 65536) + (List.getD x 13 0)) (b := 65536) (by omega))), .v, .v, .cp (pre := fun w => w.heap[ba]? = some (.cells curA 3 (0, 0))) (digit_fn x ba (List.length x) ca curA rfl hA (by omega) 12 (by omega)) [] (fun w hb hd => ((hb.block _ (lt_of_heap hpre)).trans hpre)), .e (v := .int .u64 (IntKind.u64.wrap (((List.getD x 12 0 : Nat) : Int)))) (v' := .int .u64 ((List.getD x 12 0 : Nat) : Int)) (int_eq (wrapN_u64 (a := List.getD x 12 0) (by omega))), .e (v := .int .u64 (IntKind.u64.wrap ((((((((List.getD x 15 0) * 65536) + (List.getD x 14 0)) * 65536) + (List.getD x 13 0)) * 65536 : Nat) : Int) + ((List.getD x 12 0 : Nat) : Int)))) (v' := .int .u64 ((((((((List.getD x 15 0) * 65536) + (List.getD x 14 0)) * 65536) + (List.getD x 13 0)) * 65536) + (List.getD x 12 0) : Nat) : Int)) (int_eq (wrapAdd_u64 (a := (((((List.getD x 15 0) * 65536) + (List.getD x 14 0)) * 65536) + (List.getD x 13 0)) * 65536) (b := List.getD x 12 0) (by omega))), .v, .s 1] H13 kr fun w14 H14 => ?_
  clear H13
  show WP _ _ _ _ _ _
  refine g_keep [0, 2, 3, 4, 7] fun ρ4 => ?_
  have HK5 := H14.keep
  clear H14
  refine rL [.v, .v, .v] HK5 kr fun gs15 w15 H15 => ?_
  clear HK5
  show WPL _ _ _ _ _ _
  refine g_next ?_
  refine g_seq kr ?_
  refine rS [.v, .v] H15 kr fun gs16 w16 H16 => ?_
  clear H15
  refine g_cond_t kr kr ?_
  refine g_skip kr ?_
  show WP _ _ _ _ _ _
  refine g_seq kr ?_
  refine g_block 1 kr ?_
  refine dL [.v, .v, .v, .v, .v, .l 1, .v, .v, .v, .cp (pre := fun w => w.heap[ba]? = some (.cells curA 3 (0, 0))) (digit_fn x ba (List.length x) ca curA rfl hA (by omega) 11 (by omega)) [] (fun w hb hd => ((hb.block _ (lt_of_heap hpre)).trans hpre)), .e (v := .int .u64 (IntKind.u64.wrap (((List.getD x 11 0 : Nat) : Int)))) (v' := .int .u64 ((List.getD x 11 0 : Nat) : Int)) (int_eq (wrapN_u64 (a := List.getD x 11 0) (by omega))), .e (v := .int .u64 (IntKind.u64.wrap (0 + ((List.getD x 11 0 : Nat) : Int)))) (v' := .int .u64 ((List.getD x 11 0 : Nat) : Int)) (int_eq (show IntKind.u64.wrap ((0 : Int) + ((List.getD x 11 0 : Nat) : Int)) = _ by rw [Int.zero_add]; exact wrapN_u64 (by omega))), .v, .s 1] H16 kr fun w17 H17 => ?_
  clear H16
  show WP _ _ _ _ _ _
  refine g_keep [0, 2, 3, 4, 7] fun ρ5 => ?_
  have HK6 := H17.keep
  clear H17
  refine rL [.v, .v, .v] HK6 kr fun gs18 w18 H18 => ?_
  clear HK6
  show WPL _ _ _ _ _ _
  refine g_next ?_
  refine g_seq kr ?_
  refine rS [.v, .v] H18 kr fun gs19 w19 H19 => ?_
  clear H18
  refine g_cond_t kr kr ?_
  refine g_skip kr ?_
  show WP _ _ _ _ _ _
  refine g_seq kr ?_
  refine g_block 1 kr ?_
  refine dL [.v, .v, .v, .v, .v, .l 1, .e (v := .int .u64 (IntKind.u64.wrap (((List.getD x 11 0 : Nat) : Int) * 65536))) (v' := .int .u64 (((List.getD x 11 0) * 65536 : Nat) : Int)) (int_eq (wrapMul_u64 (a := List.getD x 11 0) (b := 65536) (by omega))), .v, .v, .cp (pre := fun w => w.heap[ba]? = some (.cells curA 3 (0, 0))) (digit_fn x ba (List.length x) ca curA rfl hA (by omega) 10 (by omega)) [] (fun w hb hd => ((hb.block _ (lt_of_heap hpre)).trans hpre)), .e (v := .int .u64 (IntKind.u64.wrap (((List.getD x 10 0 : Nat) : Int)))) (v' := .int .u64 ((List.getD x 10 0 : Nat) : Int)) (int_eq (wrapN_u64 (a := List.getD x 10 0) (by omega))), .e (v := .int .u64 (IntKind.u64.wrap ((((List.getD x 11 0) * 65536 : Nat) : Int) + ((List.getD x 10 0 : Nat) : Int)))) (v' := .int .u64 ((((List.getD x 11 0) * 65536) + (List.getD x 10 0) : Nat) : Int)) (int_eq (wrapAdd_u64 (a := (List.getD x 11 0) * 65536) (b := List.getD x 10 0) (by omega))), .v, .s 1] H19 kr fun w20 H20 => ?_
  clear H19
  show WP _ _ _ _ _ _
  refine g_keep [0, 2, 3, 4, 7] fun ρ6 => ?_
  have HK7 := H20.keep
  clear H20
  refine rL [.v, .v, .v] HK7 kr fun gs21 w21 H21 => ?_
  clear HK7
  show WPL _ _ _ _ _ _
  refine g_next ?_
  refine g_seq kr ?_
  refine rS [.v, .v] H21 kr fun gs22 w22 H22 => ?_
  clear H21
  refine g_cond_t kr kr ?_
  refine g_skip kr ?_
  show WP _ _ _ _ _ _
  refine g_seq kr ?_
  refine g_block 1 kr ?_
  refine dL [.v, .v, .v, .v, .v, .l 1, .e (v := .int .u64 (IntKind.u64.wrap (((((List.getD x 11 0) * 65536) + (List.getD x 10 0) : Nat) : Int) * 65536))) (v' := .int .u64 (((((List.getD x 11 0) * 65536) + (List.getD x 10 0)) * 65536 : Nat) : Int)) (int_eq (wrapMul_u64 (a := ((List.getD x 11 0) * 65536) + (List.getD x 10 0)) (b := 65536) (by omega))), .v, .v, .cp (pre := fun w => w.heap[ba]? = some (.cells curA 3 (0, 0))) (digit_fn x ba (List.length x) ca curA rfl hA (by omega) 9 (by omega)) [] (fun w hb hd => ((hb.block _ (lt_of_heap hpre)).trans hpre)), .e (v := .int .u64 (IntKind.u64.wrap (((List.getD x 9 0 : Nat) : Int)))) (v' := .int .u64 ((List.getD x 9 0 : Nat) : Int)) (int_eq (wrapN_u64 (a := List.getD x 9 0) (by omega))), .e (v := .int .u64 (IntKind.u64.wrap ((((((List.getD x 11 0) * 65536) + (List.getD x 10 0)) * 65536 : Nat) : Int) + ((List.getD x 9 0 : Nat) : Int)))) (v' := .int .u64 ((((((List.getD x 11 0) * 65536) + (List.getD x 10 0)) * 65536) + (List.getD x 9 0) : Nat) : Int)) (int_eq (wrapAdd_u64 (a := (((List.getD x 11 0) * 65536) + (List.getD x 10 0)) * 65536) (b := List.getD x 9 0) (by omega))), .v, .s 1] H22 kr fun w23 H23 => ?_
  clear H22
  show WP _ _ _ _ _ _
  refine g_keep [0, 2, 3, 4, 7] fun ρ7 => ?_
  have HK8 := H23.keep
  clear H23
  refine rL [.v, .v, .v] HK8 kr fun gs24 w24 H24 => ?_
  clear HK8
  show WPL _ _ _ _ _ _
  refine g_next ?_
  refine g_seq kr ?_
  refine rS [.v, .v] H24 kr fun gs25 w25 H25 => ?_
  clear H24
  refine g_cond_t kr kr ?_
  refine g_skip kr ?_
  show WP _ _ _ _ _ _
  refine g_seq kr ?_
  refine g_block 1 kr ?_
  refine dL [.v, .v, .v, .v, .v, .l 1, .e (v := .int .u64 (IntKind.u64.wrap (((((((List.getD x 11 0) * 65536) + (List.getD x 10 0)) * 65536) + (List.getD x 9 0) : Nat) : Int) * 65536))) (v' := .int .u64 (((((((List.getD x 11 0) * 65536) + (List.getD x 10 0)) * 65536) + (List.getD x 9 0)) * 65536 : Nat) : Int)) (int_eq (wrapMul_u64 (a := ((((List.getD x 11 0) * 65536) + (List.getD x 10 0)) * 65536) + (List.getD x 9 0)) (b := 65536) (by omega))), .v, .v, .cp (pre := fun w => w.heap[ba]? = some (.cells curA 3 (0, 0))) (digit_fn x ba (List.length x) ca curA rfl hA (by omega) 8 (by omega)) [] (fun w hb hd => ((hb.block _ (lt_of_heap hpre)).trans hpre)), .e (v := .int .u64 (IntKind.u64.wrap (((List.getD x 8 0 : Nat) : Int)))) (v' := .int .u64 ((List.getD x 8 0 : Nat) : Int)) (int_eq (wrapN_u64 (a := List.getD x 8 0) (by omega))), .e (v := .int .u64 (IntKind.u64.wrap ((((((((List.getD x 11 0) * 65536) + (List.getD x 10 0)) * 65536) + (List.getD x 9 0)) * 65536 : Nat) : Int) + ((List.getD x 8 0 : Nat) : Int)))) (v' := .int .u64 ((((((((List.getD x 11 0) * 65536) + (List.getD x 10 0)) * 65536) + (List.getD x 9 0)) * 65536) + (List.getD x 8 0) : Nat) : Int)) (int_eq (wrapAdd_u64 (a := (((((List.getD x 11 0) * 65536) + (List.getD x 10 0)) * 65536) + (List.getD x 9 0)) * 65536) (b := List.getD x 8 0) (by omega))), .v, .s 1] H25 kr fun w26 H26 => ?_
  clear H25
  show WP _ _ _ _ _ _
  refine g_keep [0, 2, 3, 4, 7] fun ρ8 => ?_
  have HK9 := H26.keep
  clear H26
  refine rL [.v, .v, .v] HK9 kr fun gs27 w27 H27 => ?_
  clear HK9
  show WPL _ _ _ _ _ _
  refine g_next ?_
  refine g_seq kr ?_
  refine rS [.v, .v] H27 kr fun gs28 w28 H28 => ?_
  clear H27
  refine g_cond_t kr kr ?_
  refine g_skip kr ?_
  show WP _ _ _ _ _ _
  refine g_seq kr ?_
  refine g_block 1 kr ?_
  refine dL [.v, .v, .v, .v, .v, .l 1, .v, .v, .v, .cp (pre := fun w => w.heap[ba]? = some (.cells curA 3 (0, 0))) (digit_fn x ba (List.length x) ca curA rfl hA (by omega) 7 (by omega)) [] (fun w hb hd => ((hb.block _ (lt_of_heap hpre)).trans hpre)), .e (v := .int .u64 (IntKind.u64.wrap (((List.getD x 7 0 : Nat) : Int)))) (v' := .int .u64 ((List.getD x 7 0 : Nat) : Int)) (int_eq (wrapN_u64 (a := List.getD x 7 0) (by omega))), .e (v := .int .u64 (IntKind.u64.wrap (0 + ((List.getD x 7 0 : Nat) : Int)))) (v' := .int .u64 ((List.getD x 7 0 : Nat) : Int)) (int_eq (show IntKind.u64.wrap ((0 : Int) + ((List.getD x 7 0 : Nat) : Int)) = _ by rw [Int.zero_add]; exact wrapN_u64 (by omega))), .v, .s 1] H28 kr fun w29 H29 => ?_
  clear H28
  show WP _ _ _ _ _ _
  refine g_keep [0, 2, 3, 4, 7] fun ρ9 => ?_
  have HK10 := H29.keep
  clear H29
  refine rL [.v, .v, .v] HK10 kr fun gs30 w30 H30 => ?_
  clear HK10
  show WPL _ _ _ _ _ _
  refine g_next ?_
  refine g_seq kr ?_
  refine rS [.v, .v] H30 kr fun gs31 w31 H31 => ?_
  clear H30
  refine g_cond_t kr kr ?_
  refine g_skip kr ?_
  show WP _ _ _ _ _ _
  refine g_seq kr ?_
  refine g_block 1 kr ?_
  refine dL [.v, .v, .v, .v, .v, .l 1, .e (v := .int .u64 (IntKind.u64.wrap (((List.getD x 7 0 : Nat) : Int) * 65536))) (v' := .int .u64 (((List.getD x 7 0) * 65536 : Nat) : Int)) (int_eq (wrapMul_u64 (a := List.getD x 7 0) (b := 65536) (by omega))), .v, .v, .cp (pre := fun w => w.heap[ba]? = some (.cells curA 3 (0, 0))) (digit_fn x ba (List.length x) ca curA rfl hA (by omega) 6 (by omega)) [] (fun w hb hd => ((hb.block _ (lt_of_heap hpre)).trans hpre)), .e (v := .int .u64 (IntKind.u64.wrap (((List.getD x 6 0 : Nat) : Int)))) (v' := .int .u64 ((List.getD x 6 0 : Nat) : Int)) (int_eq (wrapN_u64 (a := List.getD x 6 0) (by omega))), .e (v := .int .u64 (IntKind.u64.wrap ((((List.getD x 7 0) * 65536 : Nat) : Int) + ((List.getD x 6 0 : Nat) : Int)))) (v' := .int .u64 ((((List.getD x 7 0) * 65536) + (List.getD x 6 0) : Nat) : Int)) (int_eq (wrapAdd_u64 (a := (List.getD x 7 0) * 65536) (b := List.getD x 6 0) (by omega))), .v, .s 1] H31 kr fun w32 H32 => ?_
  clear H31
  show WP _ _ _ _ _ _
  refine g_keep [0, 2, 3, 4, 7] fun ρ10 => ?_
  have HK11 := H32.keep
  clear H32
  refine rL [.v, .v, .v] HK11 kr fun gs33 w33 H33 => ?_
  clear HK11
  show WPL _ _ _ _ _ _
  refine g_next ?_
  refine g_seq kr ?_
  refine rS [.v, .v] H33 kr fun gs34 w34 H34 => ?_
  clear H33
  refine g_cond_t kr kr ?_
  refine g_skip kr ?_
  show WP _ _ _ _ _ _
  refine g_seq kr ?_
  refine g_block 1 kr ?_
  refine dL [.v, .v, .v, .v, .v, .l 1, .e (v := .int .u64 (IntKind.u64.wrap (((((List.getD x 7 0) * 65536) + (List.getD x 6 0) : Nat) : Int) * 65536))) (v' := .int .u64 (((((List.getD x 7 0) * 65536) + (List.getD x 6 0)) * 65536 : Nat) : Int)) (int_eq (wrapMul_u64 (a := ((List.getD x 7 0) * 65536) + (List.getD x 6 0)) (b := 65536) (by omega))), .v, .v, .cp (pre := fun w => w.heap[ba]? = some (.cells curA 3 (0, 0))) (digit_fn x ba (List.length x) ca curA rfl hA (by omega) 5 (by omega)) [] (fun w hb hd => ((hb.block _ (lt_of_heap hpre)).trans hpre)), .e (v := .int .u64 (IntKind.u64.wrap (((List.getD x 5 0 : Nat) : Int)))) (v' := .int .u64 ((List.getD x 5 0 : Nat) : Int)) (int_eq (wrapN_u64 (a := List.getD x 5 0) (by omega))), .e (v := .int .u64 (IntKind.u64.wrap ((((((List.getD x 7 0) * 65536) + (List.getD x 6 0)) * 65536 : Nat) : Int) + ((List.getD x 5 0 : Nat) : Int)))) (v' := .int .u64 ((((((List.getD x 7 0) * 65536) + (List.getD x 6 0)) * 65536) + (List.getD x 5 0) : Nat) : Int)) (int_eq (wrapAdd_u64 (a := (((List.getD x 7 0) * 65536) + (List.getD x 6 0)) * 65536) (b := List.getD x 5 0) (by omega))), .v, .s 1] H34 kr fun w35 H35 => ?_
  clear H34
  show WP _ _ _ _ _ _
  refine g_keep [0, 2, 3, 4, 7] fun ρ11 => ?_
  have HK12 := H35.keep
  clear H35
  refine rL [.v, .v, .v] HK12 kr fun gs36 w36 H36 => ?_
  clear HK12
  show WPL _ _ _ _ _ _
  refine g_next ?_
  refine g_seq kr ?_
  refine rS [.v, .v] H36 kr fun gs37 w37 H37 => ?_
  clear H36
  refine g_cond_t kr kr ?_
  refine g_skip kr ?_
  show WP _ _ _ _ _ _
  refine g_seq kr ?_
  refine g_block 1 kr ?_
  refine dL [.v, .v, .v, .v, .v, .l 1, .e (v := .int .u64 (IntKind.u64.wrap (((((((List.getD x 7 0) * 65536) + (List.getD x 6 0)) * 65536) + (List.getD x 5 0) : Nat) : Int) * 65536))) (v' := .int .u64 (((((((List.getD x 7 0) * 65536) + (List.getD x 6 0)) * 65536) + (List.getD x 5 0)) * 65536 : Nat) : Int)) (int_eq (wrapMul_u64 (a := ((((List.getD x 7 0) * 65536) + (List.getD x 6 0)) * 65536) + (List.getD x 5 0)) (b := 65536) (by omega))), .v, .v, .cp (pre := fun w => w.heap[ba]? = some (.cells curA 3 (0, 0))) (digit_fn x ba (List.length x) ca curA rfl hA (by omega) 4 (by omega)) [] (fun w hb hd => ((hb.block _ (lt_of_heap hpre)).trans hpre)), .e (v := .int .u64 (IntKind.u64.wrap (((List.getD x 4 0 : Nat) : Int)))) (v' := .int .u64 ((List.getD x 4 0 : Nat) : Int)) (int_eq (wrapN_u64 (a := List.getD x 4 0) (by omega))), .e (v := .int .u64 (IntKind.u64.wrap ((((((((List.getD x 7 0) * 65536) + (List.getD x 6 0)) * 65536) + (List.getD x 5 0)) * 65536 : Nat) : Int) + ((List.getD x 4 0 : Nat) : Int)))) (v' := .int .u64 ((((((((List.getD x 7 0) * 65536) + (List.getD x 6 0)) * 65536) + (List.getD x 5 0)) * 65536) + (List.getD x 4 0) : Nat) : Int)) (int_eq (wrapAdd_u64 (a := (((((List.getD x 7 0) * 65536) + (List.getD x 6 0)) * 65536) + (List.getD x 5 0)) * 65536) (b := List.getD x 4 0) (by omega))), .v, .s 1] H37 kr fun w38 H38 => ?_
  clear H37
  show WP _ _ _ _ _ _
  refine g_keep [0, 2, 3, 4, 7] fun ρ12 => ?_
  have HK13 := H38.keep
  clear H38
  refine rL [.v, .v, .v] HK13 kr fun gs39 w39 H39 => ?_
  clear HK13
  show WPL _ _ _ _ _ _
  refine g_next ?_
  refine g_seq kr ?_
  refine rS [.v, .v] H39 kr fun gs40 w40 H40 => ?_
  clear H39
  refine g_cond_t kr kr ?_
  refine g_skip kr ?_
  show WP _ _ _ _ _ _
  refine g_seq kr ?_
  refine g_block 1 kr ?_
  refine dL [.v, .v, .v, .v, .v, .l 1, .v, .v, .v, .cp (pre := fun w => w.heap[ba]? = some (.cells curA 3 (0, 0))) (digit_fn x ba (List.length x) ca curA rfl hA (by omega) 3 (by omega)) [] (fun w hb hd => ((hb.block _ (lt_of_heap hpre)).trans hpre)), .e (v := .int .u64 (IntKind.u64.wrap (((List.getD x 3 0 : Nat) : Int)))) (v' := .int .u64 ((List.getD x 3 0 : Nat) : Int)) (int_eq (wrapN_u64 (a := List.getD x 3 0) (by omega))), .e (v := .int .u64 (IntKind.u64.wrap (0 + ((List.getD x 3 0 : Nat) : Int)))) (v' := .int .u64 ((List.getD x 3 0 : Nat) : Int)) (int_eq (show IntKind.u64.wrap ((0 : Int) + ((List.getD x 3 0 : Nat) : Int)) = _ by rw [Int.zero_add]; exact wrapN_u64 (by omega))), .v, .s 1] H40 kr fun w41 H41 => ?_
  clear H40
  show WP _ _ _ _ _ _
  refine g_keep [0, 2, 3, 4, 7] fun ρ13 => ?_
  have HK14 := H41.keep
  clear H41
  refine rL [.v, .v, .v] HK14 kr fun gs42 w42 H42 => ?_
  clear HK14
  show WPL _ _ _ _ _ _
  refine g_next ?_
  refine g_seq kr ?_
  refine rS [.v, .v] H42 kr fun gs43 w43 H43 => ?_
  clear H42
  refine g_cond_t kr kr ?_
  refine g_skip kr ?_
  show WP _ _ _ _ _ _
  refine g_seq kr ?_
  refine g_block 1 kr ?_
  refine dL [.v, .v, .v, .v, .v, .l 1, .e (v := .int .u64 (IntKind.u64.wrap (((List.getD x 3 0 : Nat) : Int) * 65536))) (v' := .int .u64 (((List.getD x 3 0) * 65536 : Nat) : Int)) (int_eq (wrapMul_u64 (a := List.getD x 3 0) (b := 65536) (by omega))), .v, .v, .cp (pre := fun w => w.heap[ba]? = some (.cells curA 3 (0, 0))) (digit_fn x ba (List.length x) ca curA rfl hA (by omega) 2 (by omega)) [] (fun w hb hd => ((hb.block _ (lt_of_heap hpre)).trans hpre)), .e (v := .int .u64 (IntKind.u64.wrap (((List.getD x 2 0 : Nat) : Int)))) (v' := .int .u64 ((List.getD x 2 0 : Nat) : Int)) (int_eq (wrapN_u64 (a := List.getD x 2 0) (by omega))), .e (v := .int .u64 (IntKind.u64.wrap ((((List.getD x 3 0) * 65536 : Nat) : Int) + ((List.getD x 2 0 : Nat) : Int)))) (v' := .int .u64 ((((List.getD x 3 0) * 65536) + (List.getD x 2 0) : Nat) : Int)) (int_eq (wrapAdd_u64 (a := (List.getD x 3 0) * 65536) (b := List.getD x 2 0) (by omega))), .v, .s 1] H43 kr fun w44 H44 => ?_
  clear H43
  show WP _ _ _ _ _ _
  refine g_keep [0, 2, 3, 4, 7] fun ρ14 => ?_
  have HK15 := H44.keep
  clear H44
  refine rL [.v, .v, .v] HK15 kr fun gs45 w45 H45 => ?_
  clear HK15
  show WPL _ _ _ _ _ _
  refine g_next ?_
  refine g_seq kr ?_
  refine rS [.v, .v] H45 kr fun gs46 w46 H46 => ?_
  clear H45
  refine g_cond_t kr kr ?_
  refine g_skip kr ?_
  show WP _ _ _ _ _ _
  refine g_seq kr ?_
  refine g_block 1 kr ?_
  refine dL [.v, .v, .v, .v, .v, .l 1, .e (v := .int .u64 (IntKind.u64.wrap (((((List.getD x 3 0) * 65536) + (List.getD x 2 0) : Nat) : Int) * 65536))) (v' := .int .u64 (((((List.getD x 3 0) * 65536) + (List.getD x 2 0)) * 65536 : Nat) : Int)) (int_eq (wrapMul_u64 (a := ((List.getD x 3 0) * 65536) + (List.getD x 2 0)) (b := 65536) (by omega))), .v, .v, .cp (pre := fun w => w.heap[ba]? = some (.cells curA 3 (0, 0))) (digit_fn x ba (List.length x) ca curA rfl hA (by omega) 1 (by omega)) [] (fun w hb hd => ((hb.block _ (lt_of_heap hpre)).trans hpre)), .e (v := .int .u64 (IntKind.u64.wrap (((List.getD x 1 0 : Nat) : Int)))) (v' := .int .u64 ((List.getD x 1 0 : Nat) : Int)) (int_eq (wrapN_u64 (a := List.getD x 1 0) (by omega))), .e (v := .int .u64 (IntKind.u64.wrap ((((((List.getD x 3 0) * 65536) + (List.getD x 2 0)) * 65536 : Nat) : Int) + ((List.getD x 1 0 : Nat) : Int)))) (v' := .int .u64 ((((((List.getD x 3 0) * 65536) + (List.getD x 2 0)) * 65536) + (List.getD x 1 0) : Nat) : Int)) (int_eq (wrapAdd_u64 (a := (((List.getD x 3 0) * 65536) + (List.getD x 2 0)) * 65536) (b := List.getD x 1 0) (by omega))), .v, .s 1] H46 kr fun w47 H47 => ?_
  clear H46
  show WP _ _ _ _ _ _
  refine g_keep [0, 2, 3, 4, 7] fun ρ15 => ?_
  have HK16 := H47.keep
  clear H47
  refine rL [.v, .v, .v] HK16 kr fun gs48 w48 H48 => ?_
  clear HK16
  show WPL _ _ _ _ _ _
  refine g_next ?_
  refine g_seq kr ?_
  refine rS [.v, .v] H48 kr fun gs49 w49 H49 => ?_
  clear H48
  refine g_cond_t kr kr ?_
  refine g_skip kr ?_
  show WP _ _ _ _ _ _
  refine g_seq kr ?_
  refine g_block 1 kr ?_
  refine dL [.v, .v, .v, .v, .v, .l 1, .e (v := .int .u64 (IntKind.u64.wrap (((((((List.getD x 3 0) * 65536) + (List.getD x 2 0)) * 65536) + (List.getD x 1 0) : Nat) : Int) * 65536))) (v' := .int .u64 (((((((List.getD x 3 0) * 65536) + (List.getD x 2 0)) * 65536) + (List.getD x 1 0)) * 65536 : Nat) : Int)) (int_eq (wrapMul_u64 (a := ((((List.getD x 3 0) * 65536) + (List.getD x 2 0)) * 65536) + (List.getD x 1 0)) (b := 65536) (by omega))), .v, .v, .cp (pre := fun w => w.heap[ba]? = some (.cells curA 3 (0, 0))) (digit_fn x ba (List.length x) ca curA rfl hA (by omega) 0 (by omega)) [] (fun w hb hd => ((hb.block _ (lt_of_heap hpre)).trans hpre)), .e (v := .int .u64 (IntKind.u64.wrap (((List.getD x 0 0 : Nat) : Int)))) (v' := .int .u64 ((List.getD x 0 0 : Nat) : Int)) (int_eq (wrapN_u64 (a := List.getD x 0 0) (by omega))), .e (v := .int .u64 (IntKind.u64.wrap ((((((((List.getD x 3 0) * 65536) + (List.getD x 2 0)) * 65536) + (List.getD x 1 0)) * 65536 : Nat) : Int) + ((List.getD x 0 0 : Nat) : Int)))) (v' := .int .u64 ((((((((List.getD x 3 0) * 65536) + (List.getD x 2 0)) * 65536) + (List.getD x 1 0)) * 65536) + (List.getD x 0 0) : Nat) : Int)) (int_eq (wrapAdd_u64 (a := (((((List.getD x 3 0) * 65536) + (List.getD x 2 0)) * 65536) + (List.getD x 1 0)) * 65536) (b := List.getD x 0 0) (by omega))), .v, .s 1] H49 kr fun w50 H50 => ?_
  clear H49
  show WP _ _ _ _ _ _
  refine g_keep [0, 2, 3, 4, 7] fun ρ16 => ?_
  have HK17 := H50.keep
  clear H50
  refine rL [.v, .v, .v] HK17 kr fun gs51 w51 H51 => ?_
  clear HK17
  show WPL _ _ _ _ _ _
  refine g_next ?_
  refine g_seq kr ?_
  refine rS [.v, .v] H51 kr fun gs52 w52 H52 => ?_
  clear H51
  refine g_cond_f kr kr ?_
  refine g_exit 0 kr ?_
  show WP _ _ _ _ _ _
  refine rS [.l 1, .s 0] H52 kr fun gs53 w53 H53 => ?_
  clear H52
  refine g_ret kr ?_
  show ∃ vs, Res _ _ _ _ vs ∧ _
  refine ⟨[.agg #[.int .u64 ((((((((List.getD x 3 0) * 65536) + (List.getD x 2 0)) * 65536) + (List.getD x 1 0)) * 65536) + (List.getD x 0 0) : Nat) : Int), .int .u64 ((((((((List.getD x 7 0) * 65536) + (List.getD x 6 0)) * 65536) + (List.getD x 5 0)) * 65536) + (List.getD x 4 0) : Nat) : Int), .int .u64 ((((((((List.getD x 11 0) * 65536) + (List.getD x 10 0)) * 65536) + (List.getD x 9 0)) * 65536) + (List.getD x 8 0) : Nat) : Int), .int .u64 ((((((((List.getD x 15 0) * 65536) + (List.getD x 14 0)) * 65536) + (List.getD x 13 0)) * 65536) + (List.getD x 12 0) : Nat) : Int)]], (.agg (b := (gs1 0).b) #[.int .u64 ((((((((List.getD x 3 0) * 65536) + (List.getD x 2 0)) * 65536) + (List.getD x 1 0)) * 65536) + (List.getD x 0 0) : Nat) : Int), .int .u64 ((((((((List.getD x 7 0) * 65536) + (List.getD x 6 0)) * 65536) + (List.getD x 5 0)) * 65536) + (List.getD x 4 0) : Nat) : Int), .int .u64 ((((((((List.getD x 11 0) * 65536) + (List.getD x 10 0)) * 65536) + (List.getD x 9 0)) * 65536) + (List.getD x 8 0) : Nat) : Int), .int .u64 ((((((((List.getD x 15 0) * 65536) + (List.getD x 14 0)) * 65536) + (List.getD x 13 0)) * 65536) + (List.getD x 12 0) : Nat) : Int)] 24 (0, 0) kr (H53.get 0 kr) kr .nil), ?_, H53.below⟩
  have e := uv_digits hx (fun i => List.getD x i 0) (fun _ => rfl)
  exact e
end Go.Proofs.YtmmloghbnpfedaaDoor

namespace Go.Proofs.YtmmloghbnpfedaaDoor
open Go Go.RowKit
set_option linter.unusedVariables false
end Go.Proofs.YtmmloghbnpfedaaDoor

namespace Go.Proofs.YtmmloghbnpfedaaDoor
open Go Go.RowKit
set_option linter.unusedVariables false
set_option maxRecDepth 100000 in
set_option maxHeartbeats 2000000 in
theorem modulus1_fn  : Fn Tryd.prog 36 #[.int .i64 1] (uv NR) := by
  refine Fn.intro (c := codeOf Tryd.f36) [.cell 2 24] 7 Tryd.func36 kr kr kr fun w => ?_
  have H0 := St.start w
  refine rS [.a] H0 kr fun gs1 w1 H1 => ?_
  clear H0
  refine g_seq kr ?_
  refine rS [.v, .v] H1 kr fun gs2 w2 H2 => ?_
  clear H1
  refine g_cond_f kr kr ?_
  refine g_skip kr ?_
  show WP _ _ _ _ _ _
  refine rS [.v, .s 0] H2 kr fun gs3 w3 H3 => ?_
  clear H2
  refine g_ret kr ?_
  show ∃ vs, Res _ _ _ _ vs ∧ _
  refine ⟨[.agg #[.int .u64 13822214165235122497, .int .u64 13451932020343611451, .int .u64 18446744073709551614, .int .u64 18446744073709551615]], (.agg (b := (gs1 0).b) #[.int .u64 13822214165235122497, .int .u64 13451932020343611451, .int .u64 18446744073709551614, .int .u64 18446744073709551615] 24 (0, 0) kr (H3.get 0 kr) kr .nil), ?_, H3.below⟩
  kernel_rfl
end Go.Proofs.YtmmloghbnpfedaaDoor

namespace Go.Proofs.YtmmloghbnpfedaaDoor
open Go Go.RowKit
set_option linter.unusedVariables false
@[reducible] def wu0 (n : Nat) : Int := w0 n
@[reducible] def wu1 (n : Nat) : Int := w1 n
@[reducible] def wu2 (n : Nat) : Int := w2 n
@[reducible] def wu3 (n : Nat) : Int := w3 n
def pv (p : Ec.Pd) : Value := .agg #[.int .u64 (w0 p.X), .int .u64 (w1 p.X), .int .u64 (w2 p.X), .int .u64 (w3 p.X), .int .u64 (w0 p.Y), .int .u64 (w1 p.Y), .int .u64 (w2 p.Y), .int .u64 (w3 p.Y), .bool p.b]
def wv (p : Ec.Wp) : Value := .agg #[.int .u64 (w0 p.X), .int .u64 (w1 p.X), .int .u64 (w2 p.X), .int .u64 (w3 p.X), .int .u64 (w0 p.Y), .int .u64 (w1 p.Y), .int .u64 (w2 p.Y), .int .u64 (w3 p.Y), .bool p.b, .int .u64 (w0 p.Z), .int .u64 (w1 p.Z), .int .u64 (w2 p.Z), .int .u64 (w3 p.Z)]
theorem pd_eq {p q : Ec.Pd} : (decide (p.X = q.X) && (decide (p.Y = q.Y) && (p.b == q.b))) = decide (p = q) := by
  obtain ⟨X, Y, b⟩ := p
  obtain ⟨X', Y', b'⟩ := q
  rw [Bool.eq_iff_iff]
  simp only [Bool.and_eq_true, decide_eq_true_iff, beq_iff_eq]
  exact ⟨fun ⟨a, b, c⟩ => by subst a b c; rfl, fun h => by injection h with a b c; exact ⟨a, b, c⟩⟩
theorem eqP (p q : Ec.Pd) (hp : p.Ok) (hq : q.Ok) (w : World) : (Op.equalIn 10000 26 (.agg (Value.cells (pv p))) (.agg (Value.cells (pv q)))).run Tryd.prog w = .ok (decide (p = q)) w := by
  rw [run_equalIn_struct w 9999 26 _ _ kr kr,
    show (Tryd.prog.fieldsOf 26).toList = [{ name := "X", type := 24, offset := 0, embedded := false, tag := "", pkgPath := "", byteOffset := 0 }, { name := "Y", type := 24, offset := 4, embedded := false, tag := "", pkgPath := "", byteOffset := 32 }, { name := "Zero", type := 4, offset := 8, embedded := false, tag := "", pkgPath := "", byteOffset := 64 }] by kernel_rfl]
  have px : ∀ p, (part 24 (Value.cells (pv p)) 0).run Tryd.prog w = .ok (uv p.X) w := fun p => by kernel_rfl
  have py : ∀ p, (part 24 (Value.cells (pv p)) 4).run Tryd.prog w = .ok (uv p.Y) w := fun p => by kernel_rfl
  have pb : ∀ p, (part 4 (Value.cells (pv p)) 8).run Tryd.prog w = .ok (.bool p.b) w := fun p => by kernel_rfl
  have ex : (Op.equalIn 9999 24 (uv p.X) (uv q.X)).run Tryd.prog w = .ok (decide (p.X = q.X)) w := by
    rw [← uv_words hp.X hq.X]; exact eqU_any 9997 _ _ _ _ _ _ _ _ w
  have ey : (Op.equalIn 9999 24 (uv p.Y) (uv q.Y)).run Tryd.prog w = .ok (decide (p.Y = q.Y)) w := by
    rw [← uv_words hp.Y hq.Y]; exact eqU_any 9997 _ _ _ _ _ _ _ _ w
  have eb : (Op.equalIn 9999 4 (.bool p.b) (.bool q.b)).run Tryd.prog w = .ok (p.b == q.b) w := run_equalIn_bool w 9998 4 _ _ Tryd.underlying4
  have n1 : ("X" : String) ≠ "_" := by decide
  have n2 : ("Y" : String) ≠ "_" := by decide
  have n3 : ("Zero" : String) ≠ "_" := by decide
  rw [← pd_eq]
  simp only [Op.eqFields, if_pos n1, if_pos n2, if_pos n3, Sem.run_bind, px, py, pb, Result.andThen_ok, ex, ey, eb]
  cases decide (p.X = q.X)
  · simp
  · simp only [py, Bool.not_true, Bool.false_eq_true, if_false, Result.andThen_ok, ey, Sem.run_ite, Sem.run_bind, Bool.true_and]
    cases decide (p.Y = q.Y)
    · simp
    · simp only [pb, Bool.not_true, Bool.false_eq_true, if_false, Result.andThen_ok, eb, Sem.run_ite, Sem.run_bind, Bool.true_and]
      cases (p.b == q.b) <;> simp
theorem eqP_run {ρ : Env} (p q : Ec.Pd) (hp : p.Ok) (hq : q.Ok) {x y : Operand} {o : Oper} (w : World) (ho : o.op = .binOp .eql 26 x y 26) (hx : ev ρ x = .agg (Value.cells (pv p))) (hy : ev ρ y = .agg (Value.cells (pv q))) :
    (execOp (ev ρ) o).run Tryd.prog w = .ok (.value (.bool (decide (p = q)))) w := by
  have h := eqP p q hp hq w
  generalize Value.cells (pv p) = X at h hx
  generalize Value.cells (pv q) = Y at h hy
  unfold execOp
  simp only [ho, hx, hy, resolve, Sem.run_bind, Sem.run_pure, Result.andThen_ok, run_eqGuard_agg w _ _ _ _ _ _ (show Tryd.prog.eqGuardType Tryd.prog.depth 26 = false by kernel_rfl), run_eql_struct, run_neq_struct, h]
section
variable {P : Program} {N : Nat} {ops : Array Oper} {i : Nat} {r : List Nat} {K : Env → World → Prop} {ρ : Env} {w : World} {B : Nat} {w0 : World} {l : List (Nat × Obj)}
/-- A call that hands over the address of a block of its own. -/
def RetP (T : TypeId) (C : Array Value) : Nat → Value → World → Prop := fun B v w' => ∃ b, v = .pointer (some ⟨b, 0, none⟩) ∧ B ≤ b ∧ w'.heap[b]? = some (.cells C T (0, 0))
theorem s_callN (HS : St B w0 w l) (d : Option Nat) (f : Nat) (args : Array Value) (pre : World → Prop) (T : TypeId) (C : Array Value) (hc : FnR P f args pre (RetP T C)) (hp : pre w)
    (h : opv P ops i ρ w = some (d, true, .ok (.enter f args) w)) (hd : dOK d N = true)
    (kk : ∀ b w', St B w0 w' ((b, .cells C T (0, 0)) :: l) → WPs P N ops K r (updO ρ d (.pointer (some ⟨b, 0, none⟩))) w') : WPs P N ops K (i :: r) ρ w := by
  obtain ⟨o, ho, rfl, hw, hr⟩ := opv_some h
  refine WPo.run ho hw fun a ha => ?_
  rw [hr, Oper.upon_enter]
  refine (hc w hp).mono ?_
  rintro e w' ⟨v, rfl, hb, b, rfl, hle, hh⟩
  exact ⟨_, ha.put _ (dOK_lt hd) _, kk b w' (HS.add hb hle hh)⟩
end
namespace D2
section
variable {P : Program} {ops : Array Oper} {R : (Nat → Gh) → Env} {i : Nat} {d : Option Nat}
variable {E : (Nat → Bool) → (Nat → Gh) → List Ent} {F : (Nat → Bool) → (Nat → Gh) → Prop} {B : Nat} {w0 : World}
end
end D2
end Go.Proofs.YtmmloghbnpfedaaDoor

namespace Go.Proofs.YtmmloghbnpfedaaDoor
open Go Go.RowKit
set_option linter.unusedVariables false
theorem cm_lt {A B : Nat} (h : A < B) : cm A B < 0 := by unfold cm; split <;> (try split) <;> omega
theorem cm_nlt {A B : Nat} (h : ¬ A < B) : ¬ cm A B < 0 := by unfold cm; split <;> (try split) <;> omega
set_option maxRecDepth 100000 in
set_option maxHeartbeats 2000000 in
theorem pmul_fn (A B : Nat) (hA : A < big) (hB : B < big) : Fn Tryd.prog 63 #[uv A, uv B] (uv (fMul A B PR)) := by
  refine Fn.intro (c := codeOf Tryd.f63) [.cell 4 24] 14 Tryd.func63 kr kr kr fun w => ?_
  have H0 := St.start w
  refine rS [.b, .b, .a] H0 kr fun gs1 w1 H1 => ?_
  clear H0
  refine rS [.l 0, .l 1, .c (fmul0_fn A B hA hB), .v, .v, .v, .a, .s 3, .v] H1 kr fun gs2 w2 H2 => ?_
  clear H1
  refine rS [.l 3, .s 2] H2 kr fun gs3 w3 H3 => ?_
  clear H2
  refine g_ret kr ?_
  show ∃ vs, Res _ _ _ _ vs ∧ _
  refine ⟨[uv (fMul A B PR)], (.agg (b := (gs1 2).b) (Value.cells (uv (fMul A B PR))) 24 (0, 0) kr (H3.get 2 kr) kr .nil), ?_, H3.below⟩
  rfl
set_option maxRecDepth 100000 in
set_option maxHeartbeats 2000000 in
theorem psum_fn (A B : Nat) (hA : A < big) (hB : B < big) : Fn Tryd.prog 82 #[uv A, uv B] (uv (fAdd A B PR)) := by
  refine Fn.intro (c := codeOf Tryd.f82) [.cell 4 24] 14 Tryd.func82 kr kr kr fun w => ?_
  have H0 := St.start w
  refine rS [.b, .b, .a] H0 kr fun gs1 w1 H1 => ?_
  clear H0
  refine rS [.l 0, .l 1, .c (fadd0_fn A B hA hB), .v, .v, .v, .a, .s 3, .v] H1 kr fun gs2 w2 H2 => ?_
  clear H1
  refine rS [.l 3, .s 2] H2 kr fun gs3 w3 H3 => ?_
  clear H2
  refine g_ret kr ?_
  show ∃ vs, Res _ _ _ _ vs ∧ _
  refine ⟨[uv (fAdd A B PR)], (.agg (b := (gs1 2).b) (Value.cells (uv (fAdd A B PR))) 24 (0, 0) kr (H3.get 2 kr) kr .nil), ?_, H3.below⟩
  rfl
set_option maxRecDepth 100000 in
set_option maxHeartbeats 2000000 in
theorem pless_fn (A B : Nat) (hA : A < big) (hB : B < big) : Fn Tryd.prog 51 #[uv A, uv B] (uv (fSub A B PR)) := by
  refine Fn.intro (c := codeOf Tryd.f51) [.cell 4 24] 14 Tryd.func51 kr kr kr fun w => ?_
  have H0 := St.start w
  refine rS [.b, .b, .a] H0 kr fun gs1 w1 H1 => ?_
  clear H0
  refine rS [.l 0, .l 1, .c (fsub0_fn A B hA hB), .v, .v, .v, .a, .s 3, .v] H1 kr fun gs2 w2 H2 => ?_
  clear H1
  refine rS [.l 3, .s 2] H2 kr fun gs3 w3 H3 => ?_
  clear H2
  refine g_ret kr ?_
  show ∃ vs, Res _ _ _ _ vs ∧ _
  refine ⟨[uv (fSub A B PR)], (.agg (b := (gs1 2).b) (Value.cells (uv (fSub A B PR))) 24 (0, 0) kr (H3.get 2 kr) kr .nil), ?_, H3.below⟩
  rfl
set_option maxRecDepth 100000 in
set_option maxHeartbeats 2000000 in
theorem red_yes (A : Nat) (hA : A < big) (h : A < PR) : Fn Tryd.prog 48 #[uv A] (.bool true) := by
  refine Fn.intro (c := codeOf Tryd.f48) [.tmp 2] 13 Tryd.func48 kr kr kr fun w => ?_
  have H0 := St.start w
  refine rS [.b, .v] H0 kr fun gs1 w1 H1 => ?_
  clear H0
  refine rS [.c prime0_fn, .v, .v, .v, .a, .s 1, .v] H1 kr fun gs2 w2 H2 => ?_
  clear H1
  refine rS [.l 0, .l 1, .c (cmp_fn A PR hA pr_ok.1), .e (v := .bool (decide (cm A PR < 0))) (v' := .bool true) (bool_eq (decide_eq_true (cm_lt h))), .v] H2 kr fun gs3 w3 H3 => ?_
  clear H2
  refine g_ret kr ?_
  show ∃ vs, Res _ _ _ _ vs ∧ _
  refine ⟨[.bool true], (.tmp (.bool true) kr .nil), ?_, H3.below⟩
  rfl
set_option maxRecDepth 100000 in
set_option maxHeartbeats 2000000 in
theorem red_no (A : Nat) (hA : A < big) (h : ¬ A < PR) : Fn Tryd.prog 48 #[uv A] (.bool false) := by
  refine Fn.intro (c := codeOf Tryd.f48) [.tmp 2] 13 Tryd.func48 kr kr kr fun w => ?_
  have H0 := St.start w
  refine rS [.b, .v] H0 kr fun gs1 w1 H1 => ?_
  clear H0
  refine rS [.c prime0_fn, .v, .v, .v, .a, .s 1, .v] H1 kr fun gs2 w2 H2 => ?_
  clear H1
  refine rS [.l 0, .l 1, .c (cmp_fn A PR hA pr_ok.1), .e (v := .bool (decide (cm A PR < 0))) (v' := .bool false) (bool_eq (decide_eq_false (cm_nlt h))), .v] H2 kr fun gs3 w3 H3 => ?_
  clear H2
  refine g_ret kr ?_
  show ∃ vs, Res _ _ _ _ vs ∧ _
  refine ⟨[.bool false], (.tmp (.bool false) kr .nil), ?_, H3.below⟩
  rfl
set_option maxRecDepth 100000 in
set_option maxHeartbeats 2000000 in
theorem square_fn (A : Nat) (hA : A < big) : Fn Tryd.prog 50 #[uv A] (uv (Ec.sqN A)) := by
  refine Fn.intro (c := codeOf Tryd.f50) [.cell 2 24] 10 Tryd.func50 kr kr kr fun w => ?_
  have H0 := St.start w
  refine rS [.b, .a] H0 kr fun gs1 w1 H1 => ?_
  clear H0
  refine dS [.l 0, .l 0, .c (pmul_fn A A hA hA), .l 0, .c (pmul_fn (fMul A A PR) A (fMul_lt pr_ok) hA), .c (small_fn 7 (by omega)), .c (psum_fn (fMul (fMul A A PR) A PR) 7 (fMul_lt pr_ok) (by unfold big; omega)), .s 1] H1 kr fun w2 H2 => ?_
  clear H1
  refine g_ret kr ?_
  show ∃ vs, Res _ _ _ _ vs ∧ _
  refine ⟨[uv (fAdd (fMul (fMul A A PR) A PR) 7 PR)], (.agg (b := (gs1 1).b) (Value.cells (uv (fAdd (fMul (fMul A A PR) A PR) 7 PR))) 24 (0, 0) kr (H2.get 1 kr) kr .nil), ?_, H2.below⟩
  rfl
set_option maxRecDepth 100000 in
set_option maxHeartbeats 2000000 in
theorem pzero_fn  : Fn Tryd.prog 62 #[] (wv Ec.zeroW) := by
  refine Fn.intro (c := codeOf Tryd.f62) [.cell 0 65] 3 Tryd.func62 kr kr kr fun w => ?_
  have H0 := St.start w
  refine rS [.a] H0 kr fun gs1 w1 H1 => ?_
  clear H0
  refine rS [.v, .v, .s 0] H1 kr fun gs2 w2 H2 => ?_
  clear H1
  refine g_ret kr ?_
  show ∃ vs, Res _ _ _ _ vs ∧ _
  refine ⟨[wv (Ec.Wp.mk 0 0 true 0)], (.agg (b := (gs1 0).b) (Value.cells (wv (Ec.Wp.mk 0 0 true 0))) 65 (0, 0) kr (H2.get 0 kr) kr .nil), ?_, H2.below⟩
  rfl
set_option maxRecDepth 100000 in
set_option maxHeartbeats 2000000 in
theorem widen_fn (p : Ec.Pd) (hp : p.Ok) : Fn Tryd.prog 75 #[pv p] (wv (Ec.widenW p)) := by
  refine Fn.intro (c := codeOf Tryd.f75) [.cell 2 65] 6 Tryd.func75 kr kr kr fun w => ?_
  have H0 := St.start w
  refine rS [.b, .a] H0 kr fun gs1 w1 H1 => ?_
  clear H0
  refine dS [.l 0, .c (small_fn 1 (by omega)), .v, .s 1] H1 kr fun w2 H2 => ?_
  clear H1
  refine g_ret kr ?_
  show ∃ vs, Res _ _ _ _ vs ∧ _
  refine ⟨[wv (Ec.Wp.mk (Ec.Pd.X p) (Ec.Pd.Y p) (Ec.Pd.b p) 1)], (.agg (b := (gs1 1).b) (Value.cells (wv (Ec.Wp.mk (Ec.Pd.X p) (Ec.Pd.Y p) (Ec.Pd.b p) 1))) 65 (0, 0) kr (H2.get 1 kr) kr .nil), ?_, H2.below⟩
  rfl
set_option maxRecDepth 100000 in
set_option maxHeartbeats 2000000 in
theorem third_fn (r x o y z : Nat) (hr : r < big) (hx : x < big) (ho : o < big) (hy : y < big) (hz : z < big) : Fn Tryd.prog 92 #[uv r, uv x, uv o, uv y, uv z] (wv (Ec.thirdW r x o y z)) := by
  refine Fn.intro (c := codeOf Tryd.f92) [.cell 10 65] 30 Tryd.func92 kr kr kr fun w => ?_
  have H0 := St.start w
  refine rS [.b, .b, .b, .b, .b, .a] H0 kr fun gs1 w1 H1 => ?_
  clear H0
  refine dSg (fun gs2 => [.l 0, .l 0, .c (pmul_fn r r hr hr), .l 1, .c (pless_fn (fMul r r PR) x (fMul_lt pr_ok) hx), .l 2, .c (pless_fn (fSub (fMul r r PR) x PR) o (fSub_lt pr_ok) ho), .a, .s 6]) H1 kr fun gs2 w2 H2 => ?_
  clear H1
  refine dS [.l 6, .l 0, .l 1, .l 6, .c (pless_fn x (fSub (fSub (fMul r r PR) x PR) o PR) hx (fSub_lt pr_ok)), .c (pmul_fn r (fSub x (fSub (fSub (fMul r r PR) x PR) o PR) PR) hr (fSub_lt pr_ok)), .l 3, .c (pless_fn (fMul r (fSub x (fSub (fSub (fMul r r PR) x PR) o PR) PR) PR) y (fMul_lt pr_ok) hy), .v, .l 4, .v, .s 5] H2 kr fun w3 H3 => ?_
  clear H2
  refine g_ret kr ?_
  show ∃ vs, Res _ _ _ _ vs ∧ _
  refine ⟨[wv (Ec.Wp.mk (fSub (fSub (fMul r r PR) x PR) o PR) (fSub (fMul r (fSub x (fSub (fSub (fMul r r PR) x PR) o PR) PR) PR) y PR) false z)], (.agg (b := (gs1 5).b) (Value.cells (wv (Ec.Wp.mk (fSub (fSub (fMul r r PR) x PR) o PR) (fSub (fMul r (fSub x (fSub (fSub (fMul r r PR) x PR) o PR) PR) PR) y PR) false z))) 65 (0, 0) kr (H3.get 5 kr) kr .nil), ?_, H3.below⟩
  rfl
set_option maxRecDepth 100000 in
set_option maxHeartbeats 2000000 in
theorem dbl_fn (p : Ec.Wp) (hp : p.Ok) : Fn Tryd.prog 72 #[wv p] (wv (Ec.dblW p)) := by
  refine Fn.intro (c := codeOf Tryd.f72) [.cell 2 65] 57 Tryd.func72 kr kr kr fun w => ?_
  have H0 := St.start w
  refine rS [.b, .a] H0 kr fun gs1 w1 H1 => ?_
  clear H0
  refine g_seq kr ?_
  refine rS [.v, .v, .l 0] H1 kr fun gs2 w2 H2 => ?_
  clear H1
  rcases (Bool.eq_false_or_eq_true (Ec.Wp.b p)).symm with hb1 | hb1
  · skip
    refine g_now 11 (v := .bool (Ec.Wp.b p)) (v' := .bool false) (bool_eq hb1) kr ?_
    refine g_cond_f kr kr ?_
    refine g_skip kr ?_
    show WP _ _ _ _ _ _
    refine rS [.v, .v, .l 0, .v, .v, .l 0, .c (psum_fn (Ec.Wp.Y p) (Ec.Wp.Y p) hp.Y hp.Y), .a, .s 2] H2 kr fun gs3 w3 H3 => ?_
    clear H2
    refine rS [.l 2, .v, .v, .l 0, .c (pmul_fn (fAdd (Ec.Wp.Y p) (Ec.Wp.Y p) PR) (Ec.Wp.Y p) (fAdd_lt pr_ok) hp.Y), .a, .s 3] H3 kr fun gs4 w4 H4 => ?_
    clear H3
    refine g_keep [0, 1, 2, 3, 4, 11] fun ρ1 => ?_
    have HK1 := H4.keep
    clear H4
    refine rS [.l 3, .l 3, .c (psum_fn (fMul (fAdd (Ec.Wp.Y p) (Ec.Wp.Y p) PR) (Ec.Wp.Y p) PR) (fMul (fAdd (Ec.Wp.Y p) (Ec.Wp.Y p) PR) (Ec.Wp.Y p) PR) (fMul_lt pr_ok) (fMul_lt pr_ok)), .a, .s 4] HK1 kr fun gs5 w5 H5 => ?_
    clear HK1
    refine rS [.v, .v, .l 0, .v, .v, .l 0, .c (pmul_fn (Ec.Wp.X p) (Ec.Wp.X p) hp.X hp.X), .a, .s 5] H5 kr fun gs6 w6 H6 => ?_
    clear H5
    refine dS [.l 5, .l 5, .c (psum_fn (fMul (Ec.Wp.X p) (Ec.Wp.X p) PR) (fMul (Ec.Wp.X p) (Ec.Wp.X p) PR) (fMul_lt pr_ok) (fMul_lt pr_ok)), .l 5, .c (psum_fn (fAdd (fMul (Ec.Wp.X p) (Ec.Wp.X p) PR) (fMul (Ec.Wp.X p) (Ec.Wp.X p) PR) PR) (fMul (Ec.Wp.X p) (Ec.Wp.X p) PR) (fAdd_lt pr_ok) (fMul_lt pr_ok)), .s 5] H6 kr fun w7 H7 => ?_
    clear H6
    refine g_keep [0, 1, 2, 3, 4, 5, 6, 11] fun ρ2 => ?_
    have HK2 := H7.keep
    clear H7
    refine dSg (fun gs8 => [.v, .v, .l 0, .l 4, .c (pmul_fn (Ec.Wp.X p) (fAdd (fMul (fAdd (Ec.Wp.Y p) (Ec.Wp.Y p) PR) (Ec.Wp.Y p) PR) (fMul (fAdd (Ec.Wp.Y p) (Ec.Wp.Y p) PR) (Ec.Wp.Y p) PR) PR) hp.X (fAdd_lt pr_ok)), .l 4, .l 3, .c (pmul_fn (fAdd (fMul (fAdd (Ec.Wp.Y p) (Ec.Wp.Y p) PR) (Ec.Wp.Y p) PR) (fMul (fAdd (Ec.Wp.Y p) (Ec.Wp.Y p) PR) (Ec.Wp.Y p) PR) PR) (fMul (fAdd (Ec.Wp.Y p) (Ec.Wp.Y p) PR) (Ec.Wp.Y p) PR) (fAdd_lt pr_ok) (fMul_lt pr_ok)), .a, .a, .s 6, .s 7]) HK2 kr fun gs8 w8 H8 => ?_
    clear HK2
    refine dS [.l 5, .l 6, .l 6, .l 7, .l 2, .v, .l 0, .c (pmul_fn (fAdd (Ec.Wp.Y p) (Ec.Wp.Y p) PR) (Ec.Wp.Z p) (fAdd_lt pr_ok) hp.Z), .c (third_fn (fAdd (fAdd (fMul (Ec.Wp.X p) (Ec.Wp.X p) PR) (fMul (Ec.Wp.X p) (Ec.Wp.X p) PR) PR) (fMul (Ec.Wp.X p) (Ec.Wp.X p) PR) PR) (fMul (Ec.Wp.X p) (fAdd (fMul (fAdd (Ec.Wp.Y p) (Ec.Wp.Y p) PR) (Ec.Wp.Y p) PR) (fMul (fAdd (Ec.Wp.Y p) (Ec.Wp.Y p) PR) (Ec.Wp.Y p) PR) PR) PR) (fMul (Ec.Wp.X p) (fAdd (fMul (fAdd (Ec.Wp.Y p) (Ec.Wp.Y p) PR) (Ec.Wp.Y p) PR) (fMul (fAdd (Ec.Wp.Y p) (Ec.Wp.Y p) PR) (Ec.Wp.Y p) PR) PR) PR) (fMul (fAdd (fMul (fAdd (Ec.Wp.Y p) (Ec.Wp.Y p) PR) (Ec.Wp.Y p) PR) (fMul (fAdd (Ec.Wp.Y p) (Ec.Wp.Y p) PR) (Ec.Wp.Y p) PR) PR) (fMul (fAdd (Ec.Wp.Y p) (Ec.Wp.Y p) PR) (Ec.Wp.Y p) PR) PR) (fMul (fAdd (Ec.Wp.Y p) (Ec.Wp.Y p) PR) (Ec.Wp.Z p) PR) (fAdd_lt pr_ok) (fMul_lt pr_ok) (fMul_lt pr_ok) (fMul_lt pr_ok) (fMul_lt pr_ok)), .s 1] H8 kr fun w9 H9 => ?_
    clear H8
    refine g_ret kr ?_
    show ∃ vs, Res _ _ _ _ vs ∧ _
    refine ⟨[wv (Ec.thirdW (fAdd (fAdd (fMul (Ec.Wp.X p) (Ec.Wp.X p) PR) (fMul (Ec.Wp.X p) (Ec.Wp.X p) PR) PR) (fMul (Ec.Wp.X p) (Ec.Wp.X p) PR) PR) (fMul (Ec.Wp.X p) (fAdd (fMul (fAdd (Ec.Wp.Y p) (Ec.Wp.Y p) PR) (Ec.Wp.Y p) PR) (fMul (fAdd (Ec.Wp.Y p) (Ec.Wp.Y p) PR) (Ec.Wp.Y p) PR) PR) PR) (fMul (Ec.Wp.X p) (fAdd (fMul (fAdd (Ec.Wp.Y p) (Ec.Wp.Y p) PR) (Ec.Wp.Y p) PR) (fMul (fAdd (Ec.Wp.Y p) (Ec.Wp.Y p) PR) (Ec.Wp.Y p) PR) PR) PR) (fMul (fAdd (fMul (fAdd (Ec.Wp.Y p) (Ec.Wp.Y p) PR) (Ec.Wp.Y p) PR) (fMul (fAdd (Ec.Wp.Y p) (Ec.Wp.Y p) PR) (Ec.Wp.Y p) PR) PR) (fMul (fAdd (Ec.Wp.Y p) (Ec.Wp.Y p) PR) (Ec.Wp.Y p) PR) PR) (fMul (fAdd (Ec.Wp.Y p) (Ec.Wp.Y p) PR) (Ec.Wp.Z p) PR))], (.agg (b := (gs1 1).b) (Value.cells (wv (Ec.thirdW (fAdd (fAdd (fMul (Ec.Wp.X p) (Ec.Wp.X p) PR) (fMul (Ec.Wp.X p) (Ec.Wp.X p) PR) PR) (fMul (Ec.Wp.X p) (Ec.Wp.X p) PR) PR) (fMul (Ec.Wp.X p) (fAdd (fMul (fAdd (Ec.Wp.Y p) (Ec.Wp.Y p) PR) (Ec.Wp.Y p) PR) (fMul (fAdd (Ec.Wp.Y p) (Ec.Wp.Y p) PR) (Ec.Wp.Y p) PR) PR) PR) (fMul (Ec.Wp.X p) (fAdd (fMul (fAdd (Ec.Wp.Y p) (Ec.Wp.Y p) PR) (Ec.Wp.Y p) PR) (fMul (fAdd (Ec.Wp.Y p) (Ec.Wp.Y p) PR) (Ec.Wp.Y p) PR) PR) PR) (fMul (fAdd (fMul (fAdd (Ec.Wp.Y p) (Ec.Wp.Y p) PR) (Ec.Wp.Y p) PR) (fMul (fAdd (Ec.Wp.Y p) (Ec.Wp.Y p) PR) (Ec.Wp.Y p) PR) PR) (fMul (fAdd (Ec.Wp.Y p) (Ec.Wp.Y p) PR) (Ec.Wp.Y p) PR) PR) (fMul (fAdd (Ec.Wp.Y p) (Ec.Wp.Y p) PR) (Ec.Wp.Z p) PR)))) 65 (0, 0) kr (H9.get 1 kr) kr .nil), ?_, H9.below⟩
    exact congrArg wv (Ec.dblW_2 hb1).symm
  · skip
    refine g_now 11 (v := .bool (Ec.Wp.b p)) (v' := .bool true) (bool_eq hb1) kr ?_
    refine g_cond_t kr kr ?_
    refine rS [.l 0, .s 1] H2 kr fun gs10 w10 H10 => ?_
    clear H2
    refine g_ret kr ?_
    show ∃ vs, Res _ _ _ _ vs ∧ _
    refine ⟨[wv p], (.agg (b := (gs1 1).b) (Value.cells (wv p)) 65 (0, 0) kr (H10.get 1 kr) kr .nil), ?_, H10.below⟩
    exact congrArg wv (Ec.dblW_1 hb1).symm
set_option maxRecDepth 100000 in
set_option maxHeartbeats 2000000 in
theorem plus_fn (p q : Ec.Wp) (hp : p.Ok) (hq : q.Ok) : Fn Tryd.prog 73 #[wv p, wv q] (wv (Ec.plusW p q)) := by
  refine Fn.intro (c := codeOf Tryd.f73) [.cell 4 65] 99 Tryd.func73 kr kr kr fun w => ?_
  have H0 := St.start w
  refine rS [.b, .b, .a] H0 kr fun gs1 w1 H1 => ?_
  clear H0
  refine g_seq kr ?_
  refine rS [.v, .v, .l 0] H1 kr fun gs2 w2 H2 => ?_
  clear H1
  rcases (Bool.eq_false_or_eq_true (Ec.Wp.b p)).symm with hb1 | hb1
  · skip
    refine g_now 17 (v := .bool (Ec.Wp.b p)) (v' := .bool false) (bool_eq hb1) kr ?_
    refine g_cond_f kr kr ?_
    refine g_skip kr ?_
    show WP _ _ _ _ _ _
    refine g_seq kr ?_
    refine rS [.v, .v, .l 1] H2 kr fun gs3 w3 H3 => ?_
    clear H2
    rcases (Bool.eq_false_or_eq_true (Ec.Wp.b q)).symm with hb2 | hb2
    · skip
      refine g_now 21 (v := .bool (Ec.Wp.b q)) (v' := .bool false) (bool_eq hb2) kr ?_
      refine g_cond_f kr kr ?_
      refine g_skip kr ?_
      show WP _ _ _ _ _ _
      refine dSg (fun gs4 => [.v, .l 0, .v, .l 0, .c (pmul_fn (Ec.Wp.Z p) (Ec.Wp.Z p) hp.Z hp.Z), .v, .l 1, .v, .l 1, .c (pmul_fn (Ec.Wp.Z q) (Ec.Wp.Z q) hq.Z hq.Z), .a, .a, .s 3, .s 4]) H3 kr fun gs4 w4 H4 => ?_
      clear H3
      refine g_keep [0, 1, 2, 3, 4, 5, 6, 17, 21] fun ρ1 => ?_
      have HK1 := H4.keep
      clear H4
      refine dSg (fun gs5 => [.v, .v, .l 0, .l 4, .c (pmul_fn (Ec.Wp.X p) (fMul (Ec.Wp.Z q) (Ec.Wp.Z q) PR) hp.X (fMul_lt pr_ok)), .v, .v, .l 1, .l 3, .c (pmul_fn (Ec.Wp.X q) (fMul (Ec.Wp.Z p) (Ec.Wp.Z p) PR) hq.X (fMul_lt pr_ok)), .a, .a, .s 5, .s 6]) HK1 kr fun gs5 w5 H5 => ?_
      clear HK1
      refine dSg (fun gs6 => [.v, .v, .l 0, .l 4, .v, .l 1, .c (pmul_fn (fMul (Ec.Wp.Z q) (Ec.Wp.Z q) PR) (Ec.Wp.Z q) (fMul_lt pr_ok) hq.Z), .c (pmul_fn (Ec.Wp.Y p) (fMul (fMul (Ec.Wp.Z q) (Ec.Wp.Z q) PR) (Ec.Wp.Z q) PR) hp.Y (fMul_lt pr_ok)), .v, .v, .l 1, .l 3, .v, .l 0, .c (pmul_fn (fMul (Ec.Wp.Z p) (Ec.Wp.Z p) PR) (Ec.Wp.Z p) (fMul_lt pr_ok) hp.Z), .c (pmul_fn (Ec.Wp.Y q) (fMul (fMul (Ec.Wp.Z p) (Ec.Wp.Z p) PR) (Ec.Wp.Z p) PR) hq.Y (fMul_lt pr_ok)), .a, .a, .s 7, .s 8]) H5 kr fun gs6 w6 H6 => ?_
      clear H5
      refine g_keep [0, 1, 2, 3, 4, 5, 6, 7, 8, 9, 10, 17, 21] fun ρ2 => ?_
      have HK2 := H6.keep
      clear H6
      refine dSg (fun gs7 => [.l 6, .l 5, .c (pless_fn (fMul (Ec.Wp.X q) (fMul (Ec.Wp.Z p) (Ec.Wp.Z p) PR) PR) (fMul (Ec.Wp.X p) (fMul (Ec.Wp.Z q) (Ec.Wp.Z q) PR) PR) (fMul_lt pr_ok) (fMul_lt pr_ok)), .l 8, .l 7, .c (pless_fn (fMul (Ec.Wp.Y q) (fMul (fMul (Ec.Wp.Z p) (Ec.Wp.Z p) PR) (Ec.Wp.Z p) PR) PR) (fMul (Ec.Wp.Y p) (fMul (fMul (Ec.Wp.Z q) (Ec.Wp.Z q) PR) (Ec.Wp.Z q) PR) PR) (fMul_lt pr_ok) (fMul_lt pr_ok)), .a, .a, .s 9, .s 10]) HK2 kr fun gs7 w7 H7 => ?_
      clear HK2
      refine g_seq kr ?_
      refine g_sreg [0, 1, 2] kr kr ?_
      refine rp [.l 9, .v] H7 kr fun gs8 w8 H8 => ?_
      show WPs _ _ _ _ [2] _ _
      clear H7
      by_cases he3 : ((fSub (fMul (Ec.Wp.X q) (fMul (Ec.Wp.Z p) (Ec.Wp.Z p) PR) PR) (fMul (Ec.Wp.X p) (fMul (Ec.Wp.Z q) (Ec.Wp.Z q) PR) PR) PR) : Nat) = 0
      · skip
        refine rp [.oe (ins := [((.tmp 65), uv (fSub (fMul (Ec.Wp.X q) (fMul (Ec.Wp.Z p) (Ec.Wp.Z p) PR) PR) (fMul (Ec.Wp.X p) (fMul (Ec.Wp.Z q) (Ec.Wp.Z q) PR) PR) PR)), ((.tmp 66), .agg #[.int .u64 0, .int .u64 0, .int .u64 0, .int .u64 0])]) (v := .bool (!decide ((fSub (fMul (Ec.Wp.X q) (fMul (Ec.Wp.Z p) (Ec.Wp.Z p) PR) PR) (fMul (Ec.Wp.X p) (fMul (Ec.Wp.Z q) (Ec.Wp.Z q) PR) PR) PR) = 0))) (v' := .bool false) (fun ρ o w ho hi => neU_run (x := (.tmp 65)) (y := (.tmp 66)) (fSub (fMul (Ec.Wp.X q) (fMul (Ec.Wp.Z p) (Ec.Wp.Z p) PR) PR) (fMul (Ec.Wp.X p) (fMul (Ec.Wp.Z q) (Ec.Wp.Z q) PR) PR) PR) 0 (fSub_lt pr_ok) (by unfold big; omega) w ho hi.1 hi.2.1) (by rw [decide_eq_true he3] <;> rfl)] H8 kr fun gs9 w9 H9 => ?_
        show WPs _ _ _ _ [] _ _
        clear H8
        refine s_nil ?_
        refine g_cond_f kr kr ?_
        refine g_skip kr ?_
        show WP _ _ _ _ _ _
        refine g_seq kr ?_
        refine g_sreg [0, 1, 2] kr kr ?_
        refine rp [.l 10, .v] H9 kr fun gs10 w10 H10 => ?_
        show WPs _ _ _ _ [2] _ _
        clear H9
        by_cases he4 : ((fSub (fMul (Ec.Wp.Y q) (fMul (fMul (Ec.Wp.Z p) (Ec.Wp.Z p) PR) (Ec.Wp.Z p) PR) PR) (fMul (Ec.Wp.Y p) (fMul (fMul (Ec.Wp.Z q) (Ec.Wp.Z q) PR) (Ec.Wp.Z q) PR) PR) PR) : Nat) = 0
        · skip
          refine rp [.oe (ins := [((.tmp 93), uv (fSub (fMul (Ec.Wp.Y q) (fMul (fMul (Ec.Wp.Z p) (Ec.Wp.Z p) PR) (Ec.Wp.Z p) PR) PR) (fMul (Ec.Wp.Y p) (fMul (fMul (Ec.Wp.Z q) (Ec.Wp.Z q) PR) (Ec.Wp.Z q) PR) PR) PR)), ((.tmp 94), .agg #[.int .u64 0, .int .u64 0, .int .u64 0, .int .u64 0])]) (v := .bool (!decide ((fSub (fMul (Ec.Wp.Y q) (fMul (fMul (Ec.Wp.Z p) (Ec.Wp.Z p) PR) (Ec.Wp.Z p) PR) PR) (fMul (Ec.Wp.Y p) (fMul (fMul (Ec.Wp.Z q) (Ec.Wp.Z q) PR) (Ec.Wp.Z q) PR) PR) PR) = 0))) (v' := .bool false) (fun ρ o w ho hi => neU_run (x := (.tmp 93)) (y := (.tmp 94)) (fSub (fMul (Ec.Wp.Y q) (fMul (fMul (Ec.Wp.Z p) (Ec.Wp.Z p) PR) (Ec.Wp.Z p) PR) PR) (fMul (Ec.Wp.Y p) (fMul (fMul (Ec.Wp.Z q) (Ec.Wp.Z q) PR) (Ec.Wp.Z q) PR) PR) PR) 0 (fSub_lt pr_ok) (by unfold big; omega) w ho hi.1 hi.2.1) (by rw [decide_eq_true he4] <;> rfl)] H10 kr fun gs11 w11 H11 => ?_
          show WPs _ _ _ _ [] _ _
          clear H10
          refine s_nil ?_
          refine g_cond_f kr kr ?_
          refine g_skip kr ?_
          show WP _ _ _ _ _ _
          refine rS [.l 0, .c (dbl_fn p hp), .s 2] H11 kr fun gs12 w12 H12 => ?_
          clear H11
          refine g_ret kr ?_
          show ∃ vs, Res _ _ _ _ vs ∧ _
          refine ⟨[wv (Ec.dblW p)], (.agg (b := (gs1 2).b) (Value.cells (wv (Ec.dblW p))) 65 (0, 0) kr (H12.get 2 kr) kr .nil), ?_, H12.below⟩
          exact congrArg wv (Ec.plusW_5 hb1 hb2 he3 he4).symm
        · skip
          refine rp [.oe (ins := [((.tmp 93), uv (fSub (fMul (Ec.Wp.Y q) (fMul (fMul (Ec.Wp.Z p) (Ec.Wp.Z p) PR) (Ec.Wp.Z p) PR) PR) (fMul (Ec.Wp.Y p) (fMul (fMul (Ec.Wp.Z q) (Ec.Wp.Z q) PR) (Ec.Wp.Z q) PR) PR) PR)), ((.tmp 94), .agg #[.int .u64 0, .int .u64 0, .int .u64 0, .int .u64 0])]) (v := .bool (!decide ((fSub (fMul (Ec.Wp.Y q) (fMul (fMul (Ec.Wp.Z p) (Ec.Wp.Z p) PR) (Ec.Wp.Z p) PR) PR) (fMul (Ec.Wp.Y p) (fMul (fMul (Ec.Wp.Z q) (Ec.Wp.Z q) PR) (Ec.Wp.Z q) PR) PR) PR) = 0))) (v' := .bool true) (fun ρ o w ho hi => neU_run (x := (.tmp 93)) (y := (.tmp 94)) (fSub (fMul (Ec.Wp.Y q) (fMul (fMul (Ec.Wp.Z p) (Ec.Wp.Z p) PR) (Ec.Wp.Z p) PR) PR) (fMul (Ec.Wp.Y p) (fMul (fMul (Ec.Wp.Z q) (Ec.Wp.Z q) PR) (Ec.Wp.Z q) PR) PR) PR) 0 (fSub_lt pr_ok) (by unfold big; omega) w ho hi.1 hi.2.1) (by rw [decide_eq_false he4] <;> rfl)] H10 kr fun gs13 w13 H13 => ?_
          show WPs _ _ _ _ [] _ _
          clear H10
          refine s_nil ?_
          refine g_cond_t kr kr ?_
          refine rS [.c pzero_fn, .s 2] H13 kr fun gs14 w14 H14 => ?_
          clear H13
          refine g_ret kr ?_
          show ∃ vs, Res _ _ _ _ vs ∧ _
          refine ⟨[wv Ec.zeroW], (.agg (b := (gs1 2).b) (Value.cells (wv Ec.zeroW)) 65 (0, 0) kr (H14.get 2 kr) kr .nil), ?_, H14.below⟩
          exact congrArg wv (Ec.plusW_4 hb1 hb2 he3 he4).symm
      · skip
        refine rp [.oe (ins := [((.tmp 65), uv (fSub (fMul (Ec.Wp.X q) (fMul (Ec.Wp.Z p) (Ec.Wp.Z p) PR) PR) (fMul (Ec.Wp.X p) (fMul (Ec.Wp.Z q) (Ec.Wp.Z q) PR) PR) PR)), ((.tmp 66), .agg #[.int .u64 0, .int .u64 0, .int .u64 0, .int .u64 0])]) (v := .bool (!decide ((fSub (fMul (Ec.Wp.X q) (fMul (Ec.Wp.Z p) (Ec.Wp.Z p) PR) PR) (fMul (Ec.Wp.X p) (fMul (Ec.Wp.Z q) (Ec.Wp.Z q) PR) PR) PR) = 0))) (v' := .bool true) (fun ρ o w ho hi => neU_run (x := (.tmp 65)) (y := (.tmp 66)) (fSub (fMul (Ec.Wp.X q) (fMul (Ec.Wp.Z p) (Ec.Wp.Z p) PR) PR) (fMul (Ec.Wp.X p) (fMul (Ec.Wp.Z q) (Ec.Wp.Z q) PR) PR) PR) 0 (fSub_lt pr_ok) (by unfold big; omega) w ho hi.1 hi.2.1) (by rw [decide_eq_false he3] <;> rfl)] H8 kr fun gs15 w15 H15 => ?_
        show WPs _ _ _ _ [] _ _
        clear H8
        refine s_nil ?_
        refine g_cond_t kr kr ?_
        refine rS [.l 9, .l 9, .c (pmul_fn (fSub (fMul (Ec.Wp.X q) (fMul (Ec.Wp.Z p) (Ec.Wp.Z p) PR) PR) (fMul (Ec.Wp.X p) (fMul (Ec.Wp.Z q) (Ec.Wp.Z q) PR) PR) PR) (fSub (fMul (Ec.Wp.X q) (fMul (Ec.Wp.Z p) (Ec.Wp.Z p) PR) PR) (fMul (Ec.Wp.X p) (fMul (Ec.Wp.Z q) (Ec.Wp.Z q) PR) PR) PR) (fSub_lt pr_ok) (fSub_lt pr_ok)), .a, .s 11] H15 kr fun gs16 w16 H16 => ?_
        clear H15
        refine g_keep [0, 1, 2, 3, 4, 5, 6, 7, 8, 9, 10, 11, 12, 13, 17, 21, 67] fun ρ3 => ?_
        have HK5 := H16.keep
        clear H16
        refine rS [.l 11, .l 9, .c (pmul_fn (fMul (fSub (fMul (Ec.Wp.X q) (fMul (Ec.Wp.Z p) (Ec.Wp.Z p) PR) PR) (fMul (Ec.Wp.X p) (fMul (Ec.Wp.Z q) (Ec.Wp.Z q) PR) PR) PR) (fSub (fMul (Ec.Wp.X q) (fMul (Ec.Wp.Z p) (Ec.Wp.Z p) PR) PR) (fMul (Ec.Wp.X p) (fMul (Ec.Wp.Z q) (Ec.Wp.Z q) PR) PR) PR) PR) (fSub (fMul (Ec.Wp.X q) (fMul (Ec.Wp.Z p) (Ec.Wp.Z p) PR) PR) (fMul (Ec.Wp.X p) (fMul (Ec.Wp.Z q) (Ec.Wp.Z q) PR) PR) PR) (fMul_lt pr_ok) (fSub_lt pr_ok)), .a, .s 12] HK5 kr fun gs17 w17 H17 => ?_
        clear HK5
        refine rS [.l 5, .l 11, .c (pmul_fn (fMul (Ec.Wp.X p) (fMul (Ec.Wp.Z q) (Ec.Wp.Z q) PR) PR) (fMul (fSub (fMul (Ec.Wp.X q) (fMul (Ec.Wp.Z p) (Ec.Wp.Z p) PR) PR) (fMul (Ec.Wp.X p) (fMul (Ec.Wp.Z q) (Ec.Wp.Z q) PR) PR) PR) (fSub (fMul (Ec.Wp.X q) (fMul (Ec.Wp.Z p) (Ec.Wp.Z p) PR) PR) (fMul (Ec.Wp.X p) (fMul (Ec.Wp.Z q) (Ec.Wp.Z q) PR) PR) PR) PR) (fMul_lt pr_ok) (fMul_lt pr_ok)), .s 5] H17 kr fun gs18 w18 H18 => ?_
        clear H17
        refine dS [.l 10, .l 5, .l 5, .l 12, .c (psum_fn (fMul (fMul (Ec.Wp.X p) (fMul (Ec.Wp.Z q) (Ec.Wp.Z q) PR) PR) (fMul (fSub (fMul (Ec.Wp.X q) (fMul (Ec.Wp.Z p) (Ec.Wp.Z p) PR) PR) (fMul (Ec.Wp.X p) (fMul (Ec.Wp.Z q) (Ec.Wp.Z q) PR) PR) PR) (fSub (fMul (Ec.Wp.X q) (fMul (Ec.Wp.Z p) (Ec.Wp.Z p) PR) PR) (fMul (Ec.Wp.X p) (fMul (Ec.Wp.Z q) (Ec.Wp.Z q) PR) PR) PR) PR) PR) (fMul (fMul (fSub (fMul (Ec.Wp.X q) (fMul (Ec.Wp.Z p) (Ec.Wp.Z p) PR) PR) (fMul (Ec.Wp.X p) (fMul (Ec.Wp.Z q) (Ec.Wp.Z q) PR) PR) PR) (fSub (fMul (Ec.Wp.X q) (fMul (Ec.Wp.Z p) (Ec.Wp.Z p) PR) PR) (fMul (Ec.Wp.X p) (fMul (Ec.Wp.Z q) (Ec.Wp.Z q) PR) PR) PR) PR) (fSub (fMul (Ec.Wp.X q) (fMul (Ec.Wp.Z p) (Ec.Wp.Z p) PR) PR) (fMul (Ec.Wp.X p) (fMul (Ec.Wp.Z q) (Ec.Wp.Z q) PR) PR) PR) PR) (fMul_lt pr_ok) (fMul_lt pr_ok)), .l 7, .l 12, .c (pmul_fn (fMul (Ec.Wp.Y p) (fMul (fMul (Ec.Wp.Z q) (Ec.Wp.Z q) PR) (Ec.Wp.Z q) PR) PR) (fMul (fMul (fSub (fMul (Ec.Wp.X q) (fMul (Ec.Wp.Z p) (Ec.Wp.Z p) PR) PR) (fMul (Ec.Wp.X p) (fMul (Ec.Wp.Z q) (Ec.Wp.Z q) PR) PR) PR) (fSub (fMul (Ec.Wp.X q) (fMul (Ec.Wp.Z p) (Ec.Wp.Z p) PR) PR) (fMul (Ec.Wp.X p) (fMul (Ec.Wp.Z q) (Ec.Wp.Z q) PR) PR) PR) PR) (fSub (fMul (Ec.Wp.X q) (fMul (Ec.Wp.Z p) (Ec.Wp.Z p) PR) PR) (fMul (Ec.Wp.X p) (fMul (Ec.Wp.Z q) (Ec.Wp.Z q) PR) PR) PR) PR) (fMul_lt pr_ok) (fMul_lt pr_ok)), .v, .l 0, .v, .l 1, .c (pmul_fn (Ec.Wp.Z p) (Ec.Wp.Z q) hp.Z hq.Z), .l 9, .c (pmul_fn (fMul (Ec.Wp.Z p) (Ec.Wp.Z q) PR) (fSub (fMul (Ec.Wp.X q) (fMul (Ec.Wp.Z p) (Ec.Wp.Z p) PR) PR) (fMul (Ec.Wp.X p) (fMul (Ec.Wp.Z q) (Ec.Wp.Z q) PR) PR) PR) (fMul_lt pr_ok) (fSub_lt pr_ok)), .c (third_fn (fSub (fMul (Ec.Wp.Y q) (fMul (fMul (Ec.Wp.Z p) (Ec.Wp.Z p) PR) (Ec.Wp.Z p) PR) PR) (fMul (Ec.Wp.Y p) (fMul (fMul (Ec.Wp.Z q) (Ec.Wp.Z q) PR) (Ec.Wp.Z q) PR) PR) PR) (fMul (fMul (Ec.Wp.X p) (fMul (Ec.Wp.Z q) (Ec.Wp.Z q) PR) PR) (fMul (fSub (fMul (Ec.Wp.X q) (fMul (Ec.Wp.Z p) (Ec.Wp.Z p) PR) PR) (fMul (Ec.Wp.X p) (fMul (Ec.Wp.Z q) (Ec.Wp.Z q) PR) PR) PR) (fSub (fMul (Ec.Wp.X q) (fMul (Ec.Wp.Z p) (Ec.Wp.Z p) PR) PR) (fMul (Ec.Wp.X p) (fMul (Ec.Wp.Z q) (Ec.Wp.Z q) PR) PR) PR) PR) PR) (fAdd (fMul (fMul (Ec.Wp.X p) (fMul (Ec.Wp.Z q) (Ec.Wp.Z q) PR) PR) (fMul (fSub (fMul (Ec.Wp.X q) (fMul (Ec.Wp.Z p) (Ec.Wp.Z p) PR) PR) (fMul (Ec.Wp.X p) (fMul (Ec.Wp.Z q) (Ec.Wp.Z q) PR) PR) PR) (fSub (fMul (Ec.Wp.X q) (fMul (Ec.Wp.Z p) (Ec.Wp.Z p) PR) PR) (fMul (Ec.Wp.X p) (fMul (Ec.Wp.Z q) (Ec.Wp.Z q) PR) PR) PR) PR) PR) (fMul (fMul (fSub (fMul (Ec.Wp.X q) (fMul (Ec.Wp.Z p) (Ec.Wp.Z p) PR) PR) (fMul (Ec.Wp.X p) (fMul (Ec.Wp.Z q) (Ec.Wp.Z q) PR) PR) PR) (fSub (fMul (Ec.Wp.X q) (fMul (Ec.Wp.Z p) (Ec.Wp.Z p) PR) PR) (fMul (Ec.Wp.X p) (fMul (Ec.Wp.Z q) (Ec.Wp.Z q) PR) PR) PR) PR) (fSub (fMul (Ec.Wp.X q) (fMul (Ec.Wp.Z p) (Ec.Wp.Z p) PR) PR) (fMul (Ec.Wp.X p) (fMul (Ec.Wp.Z q) (Ec.Wp.Z q) PR) PR) PR) PR) PR) (fMul (fMul (Ec.Wp.Y p) (fMul (fMul (Ec.Wp.Z q) (Ec.Wp.Z q) PR) (Ec.Wp.Z q) PR) PR) (fMul (fMul (fSub (fMul (Ec.Wp.X q) (fMul (Ec.Wp.Z p) (Ec.Wp.Z p) PR) PR) (fMul (Ec.Wp.X p) (fMul (Ec.Wp.Z q) (Ec.Wp.Z q) PR) PR) PR) (fSub (fMul (Ec.Wp.X q) (fMul (Ec.Wp.Z p) (Ec.Wp.Z p) PR) PR) (fMul (Ec.Wp.X p) (fMul (Ec.Wp.Z q) (Ec.Wp.Z q) PR) PR) PR) PR) (fSub (fMul (Ec.Wp.X q) (fMul (Ec.Wp.Z p) (Ec.Wp.Z p) PR) PR) (fMul (Ec.Wp.X p) (fMul (Ec.Wp.Z q) (Ec.Wp.Z q) PR) PR) PR) PR) PR) (fMul (fMul (Ec.Wp.Z p) (Ec.Wp.Z q) PR) (fSub (fMul (Ec.Wp.X q) (fMul (Ec.Wp.Z p) (Ec.Wp.Z p) PR) PR) (fMul (Ec.Wp.X p) (fMul (Ec.Wp.Z q) (Ec.Wp.Z q) PR) PR) PR) PR) (fSub_lt pr_ok) (fMul_lt pr_ok) (fAdd_lt pr_ok) (fMul_lt pr_ok) (fMul_lt pr_ok)), .s 2] H18 kr fun w19 H19 => ?_
        clear H18
        refine g_ret kr ?_
        show ∃ vs, Res _ _ _ _ vs ∧ _
        refine ⟨[wv (Ec.thirdW (fSub (fMul (Ec.Wp.Y q) (fMul (fMul (Ec.Wp.Z p) (Ec.Wp.Z p) PR) (Ec.Wp.Z p) PR) PR) (fMul (Ec.Wp.Y p) (fMul (fMul (Ec.Wp.Z q) (Ec.Wp.Z q) PR) (Ec.Wp.Z q) PR) PR) PR) (fMul (fMul (Ec.Wp.X p) (fMul (Ec.Wp.Z q) (Ec.Wp.Z q) PR) PR) (fMul (fSub (fMul (Ec.Wp.X q) (fMul (Ec.Wp.Z p) (Ec.Wp.Z p) PR) PR) (fMul (Ec.Wp.X p) (fMul (Ec.Wp.Z q) (Ec.Wp.Z q) PR) PR) PR) (fSub (fMul (Ec.Wp.X q) (fMul (Ec.Wp.Z p) (Ec.Wp.Z p) PR) PR) (fMul (Ec.Wp.X p) (fMul (Ec.Wp.Z q) (Ec.Wp.Z q) PR) PR) PR) PR) PR) (fAdd (fMul (fMul (Ec.Wp.X p) (fMul (Ec.Wp.Z q) (Ec.Wp.Z q) PR) PR) (fMul (fSub (fMul (Ec.Wp.X q) (fMul (Ec.Wp.Z p) (Ec.Wp.Z p) PR) PR) (fMul (Ec.Wp.X p) (fMul (Ec.Wp.Z q) (Ec.Wp.Z q) PR) PR) PR) (fSub (fMul (Ec.Wp.X q) (fMul (Ec.Wp.Z p) (Ec.Wp.Z p) PR) PR) (fMul (Ec.Wp.X p) (fMul (Ec.Wp.Z q) (Ec.Wp.Z q) PR) PR) PR) PR) PR) (fMul (fMul (fSub (fMul (Ec.Wp.X q) (fMul (Ec.Wp.Z p) (Ec.Wp.Z p) PR) PR) (fMul (Ec.Wp.X p) (fMul (Ec.Wp.Z q) (Ec.Wp.Z q) PR) PR) PR) (fSub (fMul (Ec.Wp.X q) (fMul (Ec.Wp.Z p) (Ec.Wp.Z p) PR) PR) (fMul (Ec.Wp.X p) (fMul (Ec.Wp.Z q) (Ec.Wp.Z q) PR) PR) PR) PR) (fSub (fMul (Ec.Wp.X q) (fMul (Ec.Wp.Z p) (Ec.Wp.Z p) PR) PR) (fMul (Ec.Wp.X p) (fMul (Ec.Wp.Z q) (Ec.Wp.Z q) PR) PR) PR) PR) PR) (fMul (fMul (Ec.Wp.Y p) (fMul (fMul (Ec.Wp.Z q) (Ec.Wp.Z q) PR) (Ec.Wp.Z q) PR) PR) (fMul (fMul (fSub (fMul (Ec.Wp.X q) (fMul (Ec.Wp.Z p) (Ec.Wp.Z p) PR) PR) (fMul (Ec.Wp.X p) (fMul (Ec.Wp.Z q) (Ec.Wp.Z q) PR) PR) PR) (fSub (fMul (Ec.Wp.X q) (fMul (Ec.Wp.Z p) (Ec.Wp.Z p) PR) PR) (fMul (Ec.Wp.X p) (fMul (Ec.Wp.Z q) (Ec.Wp.Z q) PR) PR) PR) PR) (fSub (fMul (Ec.Wp.X q) (fMul (Ec.Wp.Z p) (Ec.Wp.Z p) PR) PR) (fMul (Ec.Wp.X p) (fMul (Ec.Wp.Z q) (Ec.Wp.Z q) PR) PR) PR) PR) PR) (fMul (fMul (Ec.Wp.Z p) (Ec.Wp.Z q) PR) (fSub (fMul (Ec.Wp.X q) (fMul (Ec.Wp.Z p) (Ec.Wp.Z p) PR) PR) (fMul (Ec.Wp.X p) (fMul (Ec.Wp.Z q) (Ec.Wp.Z q) PR) PR) PR) PR))], (.agg (b := (gs1 2).b) (Value.cells (wv (Ec.thirdW (fSub (fMul (Ec.Wp.Y q) (fMul (fMul (Ec.Wp.Z p) (Ec.Wp.Z p) PR) (Ec.Wp.Z p) PR) PR) (fMul (Ec.Wp.Y p) (fMul (fMul (Ec.Wp.Z q) (Ec.Wp.Z q) PR) (Ec.Wp.Z q) PR) PR) PR) (fMul (fMul (Ec.Wp.X p) (fMul (Ec.Wp.Z q) (Ec.Wp.Z q) PR) PR) (fMul (fSub (fMul (Ec.Wp.X q) (fMul (Ec.Wp.Z p) (Ec.Wp.Z p) PR) PR) (fMul (Ec.Wp.X p) (fMul (Ec.Wp.Z q) (Ec.Wp.Z q) PR) PR) PR) (fSub (fMul (Ec.Wp.X q) (fMul (Ec.Wp.Z p) (Ec.Wp.Z p) PR) PR) (fMul (Ec.Wp.X p) (fMul (Ec.Wp.Z q) (Ec.Wp.Z q) PR) PR) PR) PR) PR) (fAdd (fMul (fMul (Ec.Wp.X p) (fMul (Ec.Wp.Z q) (Ec.Wp.Z q) PR) PR) (fMul (fSub (fMul (Ec.Wp.X q) (fMul (Ec.Wp.Z p) (Ec.Wp.Z p) PR) PR) (fMul (Ec.Wp.X p) (fMul (Ec.Wp.Z q) (Ec.Wp.Z q) PR) PR) PR) (fSub (fMul (Ec.Wp.X q) (fMul (Ec.Wp.Z p) (Ec.Wp.Z p) PR) PR) (fMul (Ec.Wp.X p) (fMul (Ec.Wp.Z q) (Ec.Wp.Z q) PR) PR) PR) PR) PR) (fMul (fMul (fSub (fMul (Ec.Wp.X q) (fMul (Ec.Wp.Z p) (Ec.Wp.Z p) PR) PR) (fMul (Ec.Wp.X p) (fMul (Ec.Wp.Z q) (Ec.Wp.Z q) PR) PR) PR) (fSub (fMul (Ec.Wp.X q) (fMul (Ec.Wp.Z p) (Ec.Wp.Z p) PR) PR) (fMul (Ec.Wp.X p) (fMul (Ec.Wp.Z q) (Ec.Wp.Z q) PR) PR) PR) PR) (fSub (fMul (Ec.Wp.X q) (fMul (Ec.Wp.Z p) (Ec.Wp.Z p) PR) PR) (fMul (Ec.Wp.X p) (fMul (Ec.Wp.Z q) (Ec.Wp.Z q) PR) PR) PR) PR) PR) (fMul (fMul (Ec.Wp.Y p) (fMul (fMul (Ec.Wp.Z q) (Ec.Wp.Z q) PR) (Ec.Wp.Z q) PR) PR) (fMul (fMul (fSub (fMul (Ec.Wp.X q) (fMul (Ec.Wp.Z p) (Ec.Wp.Z p) PR) PR) (fMul (Ec.Wp.X p) (fMul (Ec.Wp.Z q) (Ec.Wp.Z q) PR) PR) PR) (fSub (fMul (Ec.Wp.X q) (fMul (Ec.Wp.Z p) (Ec.Wp.Z p) PR) PR) (fMul (Ec.Wp.X p) (fMul (Ec.Wp.Z q) (Ec.Wp.Z q) PR) PR) PR) PR) (fSub (fMul (Ec.Wp.X q) (fMul (Ec.Wp.Z p) (Ec.Wp.Z p) PR) PR) (fMul (Ec.Wp.X p) (fMul (Ec.Wp.Z q) (Ec.Wp.Z q) PR) PR) PR) PR) PR) (fMul (fMul (Ec.Wp.Z p) (Ec.Wp.Z q) PR) (fSub (fMul (Ec.Wp.X q) (fMul (Ec.Wp.Z p) (Ec.Wp.Z p) PR) PR) (fMul (Ec.Wp.X p) (fMul (Ec.Wp.Z q) (Ec.Wp.Z q) PR) PR) PR) PR)))) 65 (0, 0) kr (H19.get 2 kr) kr .nil), ?_, H19.below⟩
        exact congrArg wv (Ec.plusW_3 hb1 hb2 he3).symm
    · skip
      refine g_now 21 (v := .bool (Ec.Wp.b q)) (v' := .bool true) (bool_eq hb2) kr ?_
      refine g_cond_t kr kr ?_
      refine rS [.l 0, .s 2] H3 kr fun gs20 w20 H20 => ?_
      clear H3
      refine g_ret kr ?_
      show ∃ vs, Res _ _ _ _ vs ∧ _
      refine ⟨[wv p], (.agg (b := (gs1 2).b) (Value.cells (wv p)) 65 (0, 0) kr (H20.get 2 kr) kr .nil), ?_, H20.below⟩
      exact congrArg wv (Ec.plusW_2 hb1 hb2).symm
  · skip
    refine g_now 17 (v := .bool (Ec.Wp.b p)) (v' := .bool true) (bool_eq hb1) kr ?_
    refine g_cond_t kr kr ?_
    refine rS [.l 1, .s 2] H2 kr fun gs21 w21 H21 => ?_
    clear H2
    refine g_ret kr ?_
    show ∃ vs, Res _ _ _ _ vs ∧ _
    refine ⟨[wv q], (.agg (b := (gs1 2).b) (Value.cells (wv q)) 65 (0, 0) kr (H21.get 2 kr) kr .nil), ?_, H21.below⟩
    exact congrArg wv (Ec.plusW_1 hb1).symm
theorem plusM_fn (p : Ec.Wp) (hp : p.Ok) (k : Nat) : Fn Tryd.prog 73 #[wv (Ec.mults p k), wv p] (wv (Ec.mults p (k + 1))) := plus_fn (Ec.mults p k) p (Ec.mults_ok hp k) hp
set_option maxRecDepth 100000 in
set_option maxHeartbeats 2000000 in
theorem narrow_fn (p : Ec.Wp) (hp : p.Ok) (P : Ec.Pt Ec.Fp) (hs : Ec.Stands p P) : Fn Tryd.prog 40 #[wv p] (pv (Ec.ofPt P)) := by
  refine Fn.intro (c := codeOf Tryd.f40) [.cell 2 26] 33 Tryd.func40 kr kr kr fun w => ?_
  have H0 := St.start w
  refine rS [.b, .a] H0 kr fun gs1 w1 H1 => ?_
  clear H0
  refine g_seq kr ?_
  refine rS [.v, .v, .l 0] H1 kr fun gs2 w2 H2 => ?_
  clear H1
  rcases (Bool.eq_false_or_eq_true (Ec.Wp.b p)).symm with hb1 | hb1
  · skip
    refine g_now 8 (v := .bool (Ec.Wp.b p)) (v' := .bool false) (bool_eq hb1) kr ?_
    refine g_cond_f kr kr ?_
    refine g_skip kr ?_
    show WP _ _ _ _ _ _
    refine rS [.v, .l 0, .c (inv0_fn (Ec.Wp.Z p) hp.Z (Ec.stands_nz hs hb1)), .v, .v, .v, .a, .s 2, .v] H2 kr fun gs3 w3 H3 => ?_
    clear H2
    refine rS [.l 2, .l 2, .c (pmul_fn (finv (Ec.Wp.Z p) PR) (finv (Ec.Wp.Z p) PR) (fpw_lt pr_ok) (fpw_lt pr_ok)), .a, .s 3] H3 kr fun gs4 w4 H4 => ?_
    clear H3
    refine g_keep [0, 1, 2, 3, 5, 8] fun ρ1 => ?_
    have HK1 := H4.keep
    clear H4
    refine dS [.v, .v, .l 0, .l 3, .c (pmul_fn (Ec.Wp.X p) (fMul (finv (Ec.Wp.Z p) PR) (finv (Ec.Wp.Z p) PR) PR) hp.X (fMul_lt pr_ok)), .v, .v, .l 0, .l 3, .l 2, .c (pmul_fn (fMul (finv (Ec.Wp.Z p) PR) (finv (Ec.Wp.Z p) PR) PR) (finv (Ec.Wp.Z p) PR) (fMul_lt pr_ok) (fpw_lt pr_ok)), .c (pmul_fn (Ec.Wp.Y p) (fMul (fMul (finv (Ec.Wp.Z p) PR) (finv (Ec.Wp.Z p) PR) PR) (finv (Ec.Wp.Z p) PR) PR) hp.Y (fMul_lt pr_ok)), .v, .s 1] HK1 kr fun w5 H5 => ?_
    clear HK1
    refine g_ret kr ?_
    show ∃ vs, Res _ _ _ _ vs ∧ _
    refine ⟨[pv (Ec.Pd.mk (fMul (Ec.Wp.X p) (fMul (finv (Ec.Wp.Z p) PR) (finv (Ec.Wp.Z p) PR) PR) PR) (fMul (Ec.Wp.Y p) (fMul (fMul (finv (Ec.Wp.Z p) PR) (finv (Ec.Wp.Z p) PR) PR) (finv (Ec.Wp.Z p) PR) PR) PR) false)], (.agg (b := (gs1 1).b) (Value.cells (pv (Ec.Pd.mk (fMul (Ec.Wp.X p) (fMul (finv (Ec.Wp.Z p) PR) (finv (Ec.Wp.Z p) PR) PR) PR) (fMul (Ec.Wp.Y p) (fMul (fMul (finv (Ec.Wp.Z p) PR) (finv (Ec.Wp.Z p) PR) PR) (finv (Ec.Wp.Z p) PR) PR) PR) false))) 26 (0, 0) kr (H5.get 1 kr) kr .nil), ?_, H5.below⟩
    have e : Ec.narrowW p = Ec.narrowF p := by unfold Ec.narrowW; rw [hb1]; rfl
    rw [← Ec.narrow_rep hs, e]; rfl
  · skip
    refine g_now 8 (v := .bool (Ec.Wp.b p)) (v' := .bool true) (bool_eq hb1) kr ?_
    refine g_cond_t kr kr ?_
    refine rS [.v, .l 0, .s 1] H2 kr fun gs6 w6 H6 => ?_
    clear H2
    refine g_ret kr ?_
    show ∃ vs, Res _ _ _ _ vs ∧ _
    refine ⟨[pv (Ec.Pd.mk (Ec.Wp.X p) (Ec.Wp.Y p) (Ec.Wp.b p))], (.agg (b := (gs1 1).b) (Value.cells (pv (Ec.Pd.mk (Ec.Wp.X p) (Ec.Wp.Y p) (Ec.Wp.b p)))) 26 (0, 0) kr (H6.get 1 kr) kr .nil), ?_, H6.below⟩
    have e : Ec.narrowW p = Ec.Pd.mk p.X p.Y p.b := by unfold Ec.narrowW; rw [hb1]; rfl
    rw [← Ec.narrow_rep hs, e]; rfl
end Go.Proofs.YtmmloghbnpfedaaDoor

namespace Go.Proofs.YtmmloghbnpfedaaDoor
open Go Go.RowKit
set_option linter.unusedVariables false
end Go.Proofs.YtmmloghbnpfedaaDoor

namespace Go.Proofs.YtmmloghbnpfedaaDoor
set_option linter.unusedVariables false
/-! ### Roots: of any prime that leaves 3, divided by 4 -/
section
variable {p H Q : Nat}
end
/-- Half of what is below the prime. -/
def HR : Nat := 57896044618658097711785492504343953926634992332820282019728792003954417335831
/-- Is A a square? 1 or -1. -/
def sgn (A : Nat) : Nat := veil A (A ^ HR % PR)
end Go.Proofs.YtmmloghbnpfedaaDoor

namespace Go.Proofs.YtmmloghbnpfedaaDoor
open Go Go.RowKit Go.Proofs.Zm
set_option linter.unusedVariables false
/-! ### Shares -/
def zeroC : List Value := [.int .u64 0, .int .u64 0, .int .u64 0, .int .u64 0, .int .u64 0, .int .u64 0, .int .u64 0, .int .u64 0, .bool false, .int .u64 0, .int .u64 0, .int .u64 0, .int .u64 0]
def slotC (p : Ec.Wp) (k i : Nat) : List Value := bif Nat.ble i k then (Value.cells (wv (Ec.mults p i))).toList else zeroC
/-- A share with its first k + 1 multiples. -/
def shv (n : Nat) (p : Ec.Wp) (k : Nat) : Value := .agg ([Value.int .u64 (w0 n), .int .u64 (w1 n), .int .u64 (w2 n), .int .u64 (w3 n)] ++ (slotC p k 0 ++ (slotC p k 1 ++ (slotC p k 2 ++ (slotC p k 3 ++ (slotC p k 4 ++ (slotC p k 5 ++ (slotC p k 6 ++ (slotC p k 7 ++ (slotC p k 8 ++ (slotC p k 9 ++ (slotC p k 10 ++ (slotC p k 11 ++ (slotC p k 12 ++ (slotC p k 13 ++ (slotC p k 14 ++ slotC p k 15)))))))))))))))).toArray
def shw (n q : Nat) : Nat := n / 2 ^ (64 * q) % 18446744073709551616
theorem shw_at (n : Nat) (p : Ec.Wp) {q off : Nat} (ho : off = 0 + q * 1) (hq : q < 4) : (Value.cells (shv n p 15))[off]? = some (.int .u64 ((shw n q : Nat) : Int)) := by
  subst ho
  unfold shw
  have h : q = 0 ∨ q = 1 ∨ q = 2 ∨ q = 3 := by omega
  rcases h with rfl | rfl | rfl | rfl
  · show some (Value.int .u64 (w0 n)) = _; unfold w0; rw [show 2 ^ (64 * 0) = 1 from rfl, Nat.div_one]
  · show some (Value.int .u64 (w1 n)) = _; unfold w1; rfl
  · show some (Value.int .u64 (w2 n)) = _; unfold w2; rfl
  · show some (Value.int .u64 (w3 n)) = _; unfold w3; rfl
theorem shm_at (n : Nat) (p : Ec.Wp) {q off : Nat} (ho : off = 4 + q * 13) (hq : q < 16) : (Value.cells (shv n p 15)).extract off (off + 13) = Value.cells (wv (Ec.mults p q)) := by
  subst ho
  have h : q = 0 ∨ q = 1 ∨ q = 2 ∨ q = 3 ∨ q = 4 ∨ q = 5 ∨ q = 6 ∨ q = 7 ∨ q = 8 ∨ q = 9 ∨ q = 10 ∨ q = 11 ∨ q = 12 ∨ q = 13 ∨ q = 14 ∨ q = 15 := by omega
  rcases h with rfl | rfl | rfl | rfl | rfl | rfl | rfl | rfl | rfl | rfl | rfl | rfl | rfl | rfl | rfl | rfl <;> (show _ = _; kernel_rfl)
theorem sh_size (n : Nat) (p : Ec.Wp) : (Value.cells (shv n p 15)).size = 212 := kr
theorem dig_bits (n d : Nat) : shw n (d * 4 / 64) / 2 ^ (d * 4 % 64) % 16 = n / 16 ^ d % 16 := by
  unfold shw
  have h16 : (16 : Nat) ^ d = 2 ^ (64 * (d * 4 / 64)) * 2 ^ (d * 4 % 64) := by
    rw [← Nat.pow_add, show (16 : Nat) = 2 ^ 4 from rfl, ← Nat.pow_mul]; congr 1; omega
  rw [h16, ← Nat.div_div_eq_div_mul]
  generalize n / 2 ^ (64 * (d * 4 / 64)) = X
  have hm : d * 4 % 64 ≤ 60 := by omega
  generalize d * 4 % 64 = m at hm
  have e : 18446744073709551616 = 2 ^ m * 2 ^ (64 - m) := by rw [← Nat.pow_add, show m + (64 - m) = 64 by omega]
  rw [e, Nat.mod_mul_right_div_self, Nat.mod_mod_of_dvd]
  exact ⟨2 ^ (60 - m), by rw [show (16 : Nat) = 2 ^ 4 from rfl, ← Nat.pow_add]; congr 1; omega⟩
theorem tog_next {n : Nat} {p : Ec.Wp} {j : Nat} (h1 : 1 ≤ j) (h2 : j ≤ 64) : Ec.plusW (Ec.dblW (Ec.dblW (Ec.dblW (Ec.dblW (Ec.tog n p (64 - j)))))) (Ec.mults p (n / 16 ^ (j - 1) % 16)) = Ec.tog n p (64 - (j - 1)) := by
  rw [show 64 - (j - 1) = (64 - j) + 1 by omega]
  show _ = Ec.plusW (Ec.quad _) (Ec.mults p (n / 16 ^ (63 - (64 - j)) % 16))
  rw [show 63 - (64 - j) = j - 1 by omega]; rfl
/-! ### Roots -/
/-! ### Sums, told by multiplying back -/
end Go.Proofs.YtmmloghbnpfedaaDoor

namespace Go.Proofs.YtmmloghbnpfedaaDoor
open Go Go.RowKit
set_option linter.unusedVariables false
set_option maxRecDepth 100000 in
set_option maxHeartbeats 2000000 in
theorem on_fn (p : Ec.Pd) (hp : p.Ok) : Fn Tryd.prog 27 #[pv p] (.bool (Ec.onB p)) := by
  refine Fn.intro (c := codeOf Tryd.f27) [.tmp 2] 28 Tryd.func27 kr kr kr fun w => ?_
  have H0 := St.start w
  refine rS [.b, .v] H0 kr fun gs1 w1 H1 => ?_
  clear H0
  refine g_seq kr ?_
  refine rS [.v, .l 0] H1 kr fun gs2 w2 H2 => ?_
  clear H1
  rcases (Bool.eq_false_or_eq_true (Ec.Pd.b p)).symm with hb1 | hb1
  · skip
    refine g_now 4 (v := .bool (Ec.Pd.b p)) (v' := .bool false) (bool_eq hb1) kr ?_
    refine g_cond_f kr kr ?_
    refine g_skip kr ?_
    show WP _ _ _ _ _ _
    by_cases hx1 : (Ec.Pd.X p) < PR
    · skip
      by_cases hx2 : (Ec.Pd.Y p) < PR
      · skip
        refine dS [.v, .l 0, .c (red_yes (Ec.Pd.X p) hp.X (by omega)), .v, .v, .l 0, .c (red_yes (Ec.Pd.Y p) hp.Y (by omega)), .v, .v, .v, .l 0, .v, .l 0, .c (pmul_fn (Ec.Pd.Y p) (Ec.Pd.Y p) hp.Y hp.Y), .v, .l 0, .c (square_fn (Ec.Pd.X p) hp.X), .o (ins := [((.tmp 22), uv (fMul (Ec.Pd.Y p) (Ec.Pd.Y p) PR)), ((.tmp 25), uv (Ec.sqN (Ec.Pd.X p)))]) (v := .bool (decide ((fMul (Ec.Pd.Y p) (Ec.Pd.Y p) PR) = (Ec.sqN (Ec.Pd.X p))))) (fun ρ o w ho hi => eqU_run (x := (.tmp 22)) (y := (.tmp 25)) (fMul (Ec.Pd.Y p) (Ec.Pd.Y p) PR) (Ec.sqN (Ec.Pd.X p)) (fMul_lt pr_ok) (Ec.P_big (Ec.sqN_lt _)) w ho hi.1 hi.2.1), .v, .v] H2 kr fun w3 H3 => ?_
        clear H2
        refine g_ret kr ?_
        show ∃ vs, Res _ _ _ _ vs ∧ _
        refine ⟨[.bool (decide ((fMul (Ec.Pd.Y p) (Ec.Pd.Y p) PR) = (Ec.sqN (Ec.Pd.X p))))], (.tmp (.bool (decide ((fMul (Ec.Pd.Y p) (Ec.Pd.Y p) PR) = (Ec.sqN (Ec.Pd.X p))))) kr .nil), ?_, H3.below⟩
        exact congrArg Value.bool (Ec.onB_e hb1 (by omega) (by omega)).symm
      · skip
        refine dS [.v, .l 0, .c (red_yes (Ec.Pd.X p) hp.X (by omega)), .v, .v, .l 0, .c (red_no (Ec.Pd.Y p) hp.Y (by omega)), .v, .v, .n, .n, .n, .n, .n, .n, .n, .n, .n, .v, .v] H2 kr fun w4 H4 => ?_
        clear H2
        refine g_ret kr ?_
        show ∃ vs, Res _ _ _ _ vs ∧ _
        refine ⟨[.bool false], (.tmp (.bool false) kr .nil), ?_, H4.below⟩
        exact congrArg Value.bool (Ec.onB_y hb1 (by omega) (by omega)).symm
    · skip
      by_cases hx3 : (Ec.Pd.Y p) < PR
      · skip
        refine dS [.v, .l 0, .c (red_no (Ec.Pd.X p) hp.X (by omega)), .v, .n, .n, .n, .v, .v, .n, .n, .n, .n, .n, .n, .n, .n, .n, .v, .v] H2 kr fun w5 H5 => ?_
        clear H2
        refine g_ret kr ?_
        show ∃ vs, Res _ _ _ _ vs ∧ _
        refine ⟨[.bool false], (.tmp (.bool false) kr .nil), ?_, H5.below⟩
        exact congrArg Value.bool (Ec.onB_x hb1 (by omega)).symm
      · skip
        refine dS [.v, .l 0, .c (red_no (Ec.Pd.X p) hp.X (by omega)), .v, .n, .n, .n, .v, .v, .n, .n, .n, .n, .n, .n, .n, .n, .n, .v, .v] H2 kr fun w6 H6 => ?_
        clear H2
        refine g_ret kr ?_
        show ∃ vs, Res _ _ _ _ vs ∧ _
        refine ⟨[.bool false], (.tmp (.bool false) kr .nil), ?_, H6.below⟩
        exact congrArg Value.bool (Ec.onB_x hb1 (by omega)).symm
  · skip
    refine g_now 4 (v := .bool (Ec.Pd.b p)) (v' := .bool true) (bool_eq hb1) kr ?_
    refine g_cond_t kr kr ?_
    refine dS [.l 0, .c pzero_fn, .v, .o (ins := [((.tmp 5), pv p), ((.tmp 7), pv (Ec.Pd.mk 0 0 true))]) (v := .bool (decide (p = (Ec.Pd.mk 0 0 true)))) (fun ρ o w ho hi => eqP_run (x := (.tmp 5)) (y := (.tmp 7)) p (Ec.Pd.mk 0 0 true) hp (Ec.Pd.Ok.mk (p := Ec.Pd.mk 0 0 true) Ec.big_0 Ec.big_0) w ho hi.1 hi.2.1), .v] H2 kr fun w7 H7 => ?_
    clear H2
    refine g_ret kr ?_
    show ∃ vs, Res _ _ _ _ vs ∧ _
    refine ⟨[.bool (decide (p = (Ec.Pd.mk 0 0 true)))], (.tmp (.bool (decide (p = (Ec.Pd.mk 0 0 true)))) kr .nil), ?_, H7.below⟩
    exact congrArg Value.bool (Ec.onB_1 hb1).symm
theorem on_yes (p : Ec.Pd) (hp : p.Ok) (h : Ec.onB p = true) : Fn Tryd.prog 27 #[pv p] (.bool true) := by have := on_fn p hp; rwa [h] at this
set_option maxRecDepth 100000 in
set_option maxHeartbeats 2000000 in
theorem base_fn  : Fn Tryd.prog 13 #[] (pv (Ec.ofPt Ec.G)) := by
  refine Fn.intro (c := codeOf Tryd.f13) [.cell 0 26] 4 Tryd.func13 kr kr kr fun w => ?_
  have H0 := St.start w
  refine rS [.a] H0 kr fun gs1 w1 H1 => ?_
  clear H0
  refine rS [.v, .v, .v, .s 0] H1 kr fun gs2 w2 H2 => ?_
  clear H1
  refine g_ret kr ?_
  show ∃ vs, Res _ _ _ _ vs ∧ _
  refine ⟨[pv (Ec.Pd.mk 55066263022277343669578718895168534326250603453777594175500187360389116729240 32670510020758816978083085130507043184471273380659243275938904335757337482424 false)], (.agg (b := (gs1 0).b) (Value.cells (pv (Ec.Pd.mk 55066263022277343669578718895168534326250603453777594175500187360389116729240 32670510020758816978083085130507043184471273380659243275938904335757337482424 false))) 26 (0, 0) kr (H2.get 0 kr) kr .nil), ?_, H2.below⟩
  kernel_rfl
set_option maxRecDepth 100000 in
set_option maxHeartbeats 2000000 in
theorem often_fn (p : Ec.Pd) (hp : p.Ok) (n : Nat) (hn : n < big) : FnR Tryd.prog 39 #[pv p, uv n] (fun _ => True) (RetP 99 (Value.cells (shv n (Ec.widenW p) 15))) := by
  refine FnR.intro (c := codeOf Tryd.f39) [.tmp 4] 35 Tryd.func39 kr kr kr fun w hpre => ?_
  have H0 := St.start w
  refine rS [.b, .b, .v] H0 kr fun gs1 w1 H1 => ?_
  clear H0
  refine rS [.l 1, .v, .b, .v] H1 kr fun gs2 w2 H2 => ?_
  clear H1
  refine dS [.v, .c pzero_fn, .v, .v, .v, .s 2] H2 kr fun w3 H3 => ?_
  clear H2
  refine g_seq kr ?_
  refine rS [.v] H3 kr fun gs4 w4 H4 => ?_
  clear H3
  refine g_block 0 kr ?_
  have HL1 : St w.heap.size w w4 [((gs1 0).b, Obj.cells (Value.cells (pv p)) 26 (0, 0)), ((gs1 1).b, Obj.cells (Value.cells (uv n)) 24 (0, 0)), ((gs2 2).b, Obj.cells (Value.cells (shv n (Ec.widenW p) 0)) 99 (0, 0))] := H4.as kr
  clear H4
  refine g_first kr ?_
  refine g_seq kr ?_
  refine rS [.v, .v] HL1 kr fun gs5 w5 H5 => ?_
  clear HL1
  refine g_cond_t kr kr ?_
  refine g_skip kr ?_
  show WP _ _ _ _ _ _
  refine g_seq kr ?_
  refine g_block 1 kr ?_
  refine dL [.v, .v, .v, .v, .v, .v, .v, .v, .l 2, .l 0, .c (widen_fn p hp), .c (plusM_fn (Ec.widenW p) (Ec.widenW_ok hp) 0), .v, .v, .v, .s 2] H5 kr fun w6 H6 => ?_
  clear H5
  show WP _ _ _ _ _ _
  refine g_keep [0, 1, 2, 3, 4, 5, 6, 16] fun ρ1 => ?_
  have HK2 := H6.keep
  clear H6
  refine rL [.v, .v, .v] HK2 kr fun gs7 w7 H7 => ?_
  clear HK2
  show WPL _ _ _ _ _ _
  refine g_next ?_
  refine g_seq kr ?_
  refine rS [.v, .v] H7 kr fun gs8 w8 H8 => ?_
  clear H7
  refine g_cond_t kr kr ?_
  refine g_skip kr ?_
  show WP _ _ _ _ _ _
  refine g_seq kr ?_
  refine g_block 1 kr ?_
  refine dL [.v, .v, .v, .v, .v, .v, .v, .v, .l 2, .l 0, .c (widen_fn p hp), .c (plusM_fn (Ec.widenW p) (Ec.widenW_ok hp) 1), .v, .v, .v, .s 2] H8 kr fun w9 H9 => ?_
  clear H8
  show WP _ _ _ _ _ _
  refine g_keep [0, 1, 2, 3, 4, 5, 6, 16] fun ρ2 => ?_
  have HK3 := H9.keep
  clear H9
  refine rL [.v, .v, .v] HK3 kr fun gs10 w10 H10 => ?_
  clear HK3
  show WPL _ _ _ _ _ _
  refine g_next ?_
  refine g_seq kr ?_
  refine rS [.v, .v] H10 kr fun gs11 w11 H11 => ?_
  clear H10
  refine g_cond_t kr kr ?_
  refine g_skip kr ?_
  show WP _ _ _ _ _ _
  refine g_seq kr ?_
  refine g_block 1 kr ?_
  refine dL [.v, .v, .v, .v, .v, .v, .v, .v, .l 2, .l 0, .c (widen_fn p hp), .c (plusM_fn (Ec.widenW p) (Ec.widenW_ok hp) 2), .v, .v, .v, .s 2] H11 kr fun w12 H12 => ?_
  clear H11
  show WP _ _ _ _ _ _
  refine g_keep [0, 1, 2, 3, 4, 5, 6, 16] fun ρ3 => ?_
  have HK4 := H12.keep
  clear H12
  refine rL [.v, .v, .v] HK4 kr fun gs13 w13 H13 => ?_
  clear HK4
  show WPL _ _ _ _ _ _
  refine g_next ?_
  refine g_seq kr ?_
  refine rS [.v, .v] H13 kr fun gs14 w14 H14 => ?_
  clear H13
  refine g_cond_t kr kr ?_
  refine g_skip kr ?_
  show WP _ _ _ _ _ _
  refine g_seq kr ?_
  refine g_block 1 kr ?_
  refine dL [.v, .v, .v, .v, .v, .v, .v, .v, .l 2, .l 0, .c (widen_fn p hp), .c (plusM_fn (Ec.widenW p) (Ec.widenW_ok hp) 3), .v, .v, .v, .s 2] H14 kr fun w15 H15 => ?_
  clear H14
  show WP _ _ _ _ _ _
  refine g_keep [0, 1, 2, 3, 4, 5, 6, 16] fun ρ4 => ?_
  have HK5 := H15.keep
  clear H15
  refine rL [.v, .v, .v] HK5 kr fun gs16 w16 H16 => ?_
  clear HK5
  show WPL _ _ _ _ _ _
  refine g_next ?_
  refine g_seq kr ?_
  refine rS [.v, .v] H16 kr fun gs17 w17 H17 => ?_
  clear H16
  refine g_cond_t kr kr ?_
  refine g_skip kr ?_
  show WP _ _ _ _ _ _
  refine g_seq kr ?_
  refine g_block 1 kr ?_
  refine dL [.v, .v, .v, .v, .v, .v, .v, .v, .l 2, .l 0, .c (widen_fn p hp), .c (plusM_fn (Ec.widenW p) (Ec.widenW_ok hp) 4), .v, .v, .v, .s 2] H17 kr fun w18 H18 => ?_
  clear H17
  show WP _ _ _ _ _ _
  refine g_keep [0, 1, 2, 3, 4, 5, 6, 16] fun ρ5 => ?_
  have HK6 := H18.keep
  clear H18
  refine rL [.v, .v, .v] HK6 kr fun gs19 w19 H19 => ?_
  clear HK6
  show WPL _ _ _ _ _ _
  refine g_next ?_
  refine g_seq kr ?_
  refine rS [.v, .v] H19 kr fun gs20 w20 H20 => ?_
  clear H19
  refine g_cond_t kr kr ?_
  refine g_skip kr ?_
  show WP _ _ _ _ _ _
  refine g_seq kr ?_
  refine g_block 1 kr ?_
  refine dL [.v, .v, .v, .v, .v, .v, .v, .v, .l 2, .l 0, .c (widen_fn p hp), .c (plusM_fn (Ec.widenW p) (Ec.widenW_ok hp) 5), .v, .v, .v, .s 2] H20 kr fun w21 H21 => ?_
  clear H20
  show WP _ _ _ _ _ _
  refine g_keep [0, 1, 2, 3, 4, 5, 6, 16] fun ρ6 => ?_
  have HK7 := H21.keep
  clear H21
  refine rL [.v, .v, .v] HK7 kr fun gs22 w22 H22 => ?_
  clear HK7
  show WPL _ _ _ _ _ _
  refine g_next ?_
  refine g_seq kr ?_
  refine rS [.v, .v] H22 kr fun gs23 w23 H23 => ?_
  clear H22
  refine g_cond_t kr kr ?_
  refine g_skip kr ?_
  show WP _ _ _ _ _ _
  refine g_seq kr ?_
  refine g_block 1 kr ?_
  refine dL [.v, .v, .v, .v, .v, .v, .v, .v, .l 2, .l 0, .c (widen_fn p hp), .c (plusM_fn (Ec.widenW p) (Ec.widenW_ok hp) 6), .v, .v, .v, .s 2] H23 kr fun w24 H24 => ?_
  clear H23
  show WP _ _ _ _ _ _
  refine g_keep [0, 1, 2, 3, 4, 5, 6, 16] fun ρ7 => ?_
  have HK8 := H24.keep
  clear H24
  refine rL [.v, .v, .v] HK8 kr fun gs25 w25 H25 => ?_
  clear HK8
  show WPL _ _ _ _ _ _
  refine g_next ?_
  refine g_seq kr ?_
  refine rS [.v, .v] H25 kr fun gs26 w26 H26 => ?_
  clear H25
  refine g_cond_t kr kr ?_
  refine g_skip kr ?_
  show WP _ _ _ _ _ _
  refine g_seq kr ?_
  refine g_block 1 kr ?_
  refine dL [.v, .v, .v, .v, .v, .v, .v, .v, .l 2, .l 0, .c (widen_fn p hp), .c (plusM_fn (Ec.widenW p) (Ec.widenW_ok hp) 7), .v, .v, .v, .s 2] H26 kr fun w27 H27 => ?_
  clear H26
  show WP _ _ _ _ _ _
  refine g_keep [0, 1, 2, 3, 4, 5, 6, 16] fun ρ8 => ?_
  have HK9 := H27.keep
  clear H27
  refine rL [.v, .v, .v] HK9 kr fun gs28 w28 H28 => ?_
  clear HK9
  show WPL _ _ _ _ _ _
  refine g_next ?_
  refine g_seq kr ?_
  refine rS [.v, .v] H28 kr fun gs29 w29 H29 => ?_
  clear H28
  refine g_cond_t kr kr ?_
  refine g_skip kr ?_
  show WP _ _ _ _ _ _
  refine g_seq kr ?_
  refine g_block 1 kr ?_
  refine dL [.v, .v, .v, .v, .v, .v, .v, .v, .l 2, .l 0, .c (widen_fn p hp), .c (plusM_fn (Ec.widenW p) (Ec.widenW_ok hp) 8), .v, .v, .v, .s 2] H29 kr fun w30 H30 => ?_
  clear H29
  show WP _ _ _ _ _ _
  refine g_keep [0, 1, 2, 3, 4, 5, 6, 16] fun ρ9 => ?_
  have HK10 := H30.keep
  clear H30
  refine rL [.v, .v, .v] HK10 kr fun gs31 w31 H31 => ?_
  clear HK10
  show WPL _ _ _ _ _ _
  refine g_next ?_
  refine g_seq kr ?_
  refine rS [.v, .v] H31 kr fun gs32 w32 H32 => ?_
  clear H31
  refine g_cond_t kr kr ?_
  refine g_skip kr ?_
  show WP _ _ _ _ _ _
  refine g_seq kr ?_
  refine g_block 1 kr ?_
  refine dL [.v, .v, .v, .v, .v, .v, .v, .v, .l 2, .l 0, .c (widen_fn p hp), .c (plusM_fn (Ec.widenW p) (Ec.widenW_ok hp) 9), .v, .v, .v, .s 2] H32 kr fun w33 H33 => ?_
  clear H32
  show WP _ _ _ _ _ _
  refine g_keep [0, 1, 2, 3, 4, 5, 6, 16] fun ρ10 => ?_
  have HK11 := H33.keep
  clear H33
  refine rL [.v, .v, .v] HK11 kr fun gs34 w34 H34 => ?_
  clear HK11
  show WPL _ _ _ _ _ _
  refine g_next ?_
  refine g_seq kr ?_
  refine rS [.v, .v] H34 kr fun gs35 w35 H35 => ?_
  clear H34
  refine g_cond_t kr kr ?_
  refine g_skip kr ?_
  show WP _ _ _ _ _ _
  refine g_seq kr ?_
  refine g_block 1 kr ?_
  refine dL [.v, .v, .v, .v, .v, .v, .v, .v, .l 2, .l 0, .c (widen_fn p hp), .c (plusM_fn (Ec.widenW p) (Ec.widenW_ok hp) 10), .v, .v, .v, .s 2] H35 kr fun w36 H36 => ?_
  clear H35
  show WP _ _ _ _ _ _
  refine g_keep [0, 1, 2, 3, 4, 5, 6, 16] fun ρ11 => ?_
  have HK12 := H36.keep
  clear H36
  refine rL [.v, .v, .v] HK12 kr fun gs37 w37 H37 => ?_
  clear HK12
  show WPL _ _ _ _ _ _
  refine g_next ?_
  refine g_seq kr ?_
  refine rS [.v, .v] H37 kr fun gs38 w38 H38 => ?_
  clear H37
  refine g_cond_t kr kr ?_
  refine g_skip kr ?_
  show WP _ _ _ _ _ _
  refine g_seq kr ?_
  refine g_block 1 kr ?_
  refine dL [.v, .v, .v, .v, .v, .v, .v, .v, .l 2, .l 0, .c (widen_fn p hp), .c (plusM_fn (Ec.widenW p) (Ec.widenW_ok hp) 11), .v, .v, .v, .s 2] H38 kr fun w39 H39 => ?_
  clear H38
  show WP _ _ _ _ _ _
  refine g_keep [0, 1, 2, 3, 4, 5, 6, 16] fun ρ12 => ?_
  have HK13 := H39.keep
  clear H39
  refine rL [.v, .v, .v] HK13 kr fun gs40 w40 H40 => ?_
  clear HK13
  show WPL _ _ _ _ _ _
  refine g_next ?_
  refine g_seq kr ?_
  refine rS [.v, .v] H40 kr fun gs41 w41 H41 => ?_
  clear H40
  refine g_cond_t kr kr ?_
  refine g_skip kr ?_
  show WP _ _ _ _ _ _
  refine g_seq kr ?_
  refine g_block 1 kr ?_
  refine dL [.v, .v, .v, .v, .v, .v, .v, .v, .l 2, .l 0, .c (widen_fn p hp), .c (plusM_fn (Ec.widenW p) (Ec.widenW_ok hp) 12), .v, .v, .v, .s 2] H41 kr fun w42 H42 => ?_
  clear H41
  show WP _ _ _ _ _ _
  refine g_keep [0, 1, 2, 3, 4, 5, 6, 16] fun ρ13 => ?_
  have HK14 := H42.keep
  clear H42
  refine rL [.v, .v, .v] HK14 kr fun gs43 w43 H43 => ?_
  clear HK14
  show WPL _ _ _ _ _ _
  refine g_next ?_
  refine g_seq kr ?_
  refine rS [.v, .v] H43 kr fun gs44 w44 H44 => ?_
  clear H43
  refine g_cond_t kr kr ?_
  refine g_skip kr ?_
  show WP _ _ _ _ _ _
  refine g_seq kr ?_
  refine g_block 1 kr ?_
  refine dL [.v, .v, .v, .v, .v, .v, .v, .v, .l 2, .l 0, .c (widen_fn p hp), .c (plusM_fn (Ec.widenW p) (Ec.widenW_ok hp) 13), .v, .v, .v, .s 2] H44 kr fun w45 H45 => ?_
  clear H44
  show WP _ _ _ _ _ _
  refine g_keep [0, 1, 2, 3, 4, 5, 6, 16] fun ρ14 => ?_
  have HK15 := H45.keep
  clear H45
  refine rL [.v, .v, .v] HK15 kr fun gs46 w46 H46 => ?_
  clear HK15
  show WPL _ _ _ _ _ _
  refine g_next ?_
  refine g_seq kr ?_
  refine rS [.v, .v] H46 kr fun gs47 w47 H47 => ?_
  clear H46
  refine g_cond_t kr kr ?_
  refine g_skip kr ?_
  show WP _ _ _ _ _ _
  refine g_seq kr ?_
  refine g_block 1 kr ?_
  refine dL [.v, .v, .v, .v, .v, .v, .v, .v, .l 2, .l 0, .c (widen_fn p hp), .c (plusM_fn (Ec.widenW p) (Ec.widenW_ok hp) 14), .v, .v, .v, .s 2] H47 kr fun w48 H48 => ?_
  clear H47
  show WP _ _ _ _ _ _
  refine g_keep [0, 1, 2, 3, 4, 5, 6, 16] fun ρ15 => ?_
  have HK16 := H48.keep
  clear H48
  refine rL [.v, .v, .v] HK16 kr fun gs49 w49 H49 => ?_
  clear HK16
  show WPL _ _ _ _ _ _
  refine g_next ?_
  refine g_seq kr ?_
  refine rS [.v, .v] H49 kr fun gs50 w50 H50 => ?_
  clear H49
  refine g_cond_f kr kr ?_
  refine g_exit 0 kr ?_
  show WP _ _ _ _ _ _
  refine rS [.v, .v] H50 kr fun gs51 w51 H51 => ?_
  clear H50
  refine g_ret kr ?_
  show ∃ vs, Res _ _ _ _ vs ∧ _
  refine ⟨[.pointer (some ⟨(gs2 2).b, 0, none⟩)], (.tmp (.pointer (some ⟨(gs2 2).b, 0, none⟩)) kr .nil), H51.below, ?_⟩
  exact ⟨(gs2 2).b, rfl, H51.ge 2 (o := .cells (Value.cells (shv n (Ec.widenW p) 15)) 99 (0, 0)) kr, H51.get 2 kr⟩
end Go.Proofs.YtmmloghbnpfedaaDoor

namespace Go.Proofs.YtmmloghbnpfedaaDoor
open Go Go.RowKit
set_option linter.unusedVariables false
end Go.Proofs.YtmmloghbnpfedaaDoor

namespace Go.Proofs.YtmmloghbnpfedaaDoor
open Go Go.RowKit
set_option linter.unusedVariables false
set_option maxRecDepth 100000 in
set_option maxHeartbeats 2000000 in
theorem at_fn (n : Nat) (p : Ec.Wp) (hp : p.Ok) (hn : n < big) (bs d : Nat) (hd : d < 64) : FnP Tryd.prog 74 #[.pointer (some ⟨bs, 0, none⟩), .int .i64 ((d : Nat) : Int)] (fun w => w.heap[bs]? = some (.cells (Value.cells (shv n p 15)) 99 (0, 0))) (wv (Ec.mults p (n / 16 ^ d % 16))) := by
  have hl : shw n (d * 4 / 64) < 18446744073709551616 := Nat.mod_lt _ (by decide)
  refine FnP.intro (c := codeOf Tryd.f74) [.cell 4 65] 26 Tryd.func74 kr kr kr fun w hpre => ?_
  have H0 := St.start w
  refine rS [.a] H0 kr fun gs1 w1 H1 => ?_
  clear H0
  refine rS [.v, .e (v := .int .i64 (IntKind.i64.wrap (((d : Nat) : Int) * 4))) (v' := .int .i64 ((d * 4 : Nat) : Int)) (int_eq (wrapMul_i64 (a := d) (b := 4) (by omega))), .v] H1 kr fun gs2 w2 H2 => ?_
  clear H1
  refine rS [.v, .v, .e (v := .int .i64 (IntKind.i64.wrap (((d * 4 : Nat) : Int).tdiv 64))) (v' := .int .i64 (((d * 4) / 64 : Nat) : Int)) (int_eq (quoN_i64 (a := d * 4) (b := 64) (by omega))), .v, .v, .o (ins := [((.tmp 13), .pointer (some ⟨bs, 0, none⟩)), ((.tmp 11), .int .i64 (((d * 4) / 64 : Nat) : Int))]) (v := .pointer (some ⟨bs, 0 + ((d * 4) / 64) * 1, none⟩)) (fun ρ o w ho hi => idxA_run (kd := .i64) (t := 24) (n := 4) (size := 1) kr (x := (.tmp 13)) (y := (.tmp 11)) bs 0 ((d * 4) / 64) ho hi.1 hi.2.1 (by omega) w), .fs (off := 0 + ((d * 4) / 64) * 1) (v := .int .u64 ((shw n ((d * 4) / 64) : Nat) : Int)) hpre (lt_of_heap hpre) (shw_at n p (q := ((d * 4) / 64)) (by omega) (by omega)), .v, .e (v := .int .i64 (Int.tmod ((d * 4 : Nat) : Int) 64)) (v' := .int .i64 (((d * 4) % 64 : Nat) : Int)) (int_eq (remN (d * 4) 64)), .e (v := .int .u64 (Int.fdiv ((shw n ((d * 4) / 64) : Nat) : Int) (2 ^ (min ((d * 4) % 64) 64)))) (v' := .int .u64 (((shw n ((d * 4) / 64)) / 2 ^ ((d * 4) % 64) : Nat) : Int)) (int_eq (shr_min (shw n ((d * 4) / 64)) ((d * 4) % 64) 64 (by omega))), .v] H2 kr fun gs3 w3 H3 => ?_
  clear H2
  refine g_sreg [0, 1, 2, 3, 4, 5, 6, 7] kr kr ?_
  refine rp [.v, .v, .e (v := .int .u64 (Int.tmod (((shw n ((d * 4) / 64)) / 2 ^ ((d * 4) % 64) : Nat) : Int) 16)) (v' := .int .u64 ((((shw n ((d * 4) / 64)) / 2 ^ ((d * 4) % 64)) % 16 : Nat) : Int)) (int_eq (remN ((shw n ((d * 4) / 64)) / 2 ^ ((d * 4) % 64)) 16)), .v, .v, .o (ins := [((.tmp 23), .pointer (some ⟨bs, 4, none⟩)), ((.tmp 21), .int .u64 ((((shw n ((d * 4) / 64)) / 2 ^ ((d * 4) % 64)) % 16 : Nat) : Int))]) (v := .pointer (some ⟨bs, 4 + (((shw n ((d * 4) / 64)) / 2 ^ ((d * 4) % 64)) % 16) * 13, none⟩)) (fun ρ o w ho hi => idxA_run (kd := .u64) (t := 97) (n := 16) (size := 13) kr (x := (.tmp 23)) (y := (.tmp 21)) bs 4 (((shw n ((d * 4) / 64)) / 2 ^ ((d * 4) % 64)) % 16) ho hi.1 hi.2.1 (by omega) w)] H3 kr fun gs4 w4 H4 => ?_
  show WPs _ _ _ _ [6, 7] _ _
  clear H3
  refine s_loadpF H4 (some 25) 65 (.tmp 24) bs (4 + (((shw n ((d * 4) / 64)) / 2 ^ ((d * 4) % 64)) % 16) * 13) 13 (Value.cells (shv n p 15)) (Value.cells (wv (Ec.mults p (n / 16 ^ d % 16)))) 99 (0, 0) kr kr kr hpre (lt_of_heap hpre) kr (by rw [sh_size]; omega) ((shm_at n p (q := shw n (d * 4 / 64) / 2 ^ (d * 4 % 64) % 16) rfl (Nat.mod_lt _ (by decide))).trans (by rw [dig_bits])) ?_
  refine rp [.s 0] H4 kr fun gs5 w5 H5 => ?_
  show WPs _ _ _ _ [] _ _
  clear H4
  refine s_nil ?_
  refine g_ret kr ?_
  show ∃ vs, Res _ _ _ _ vs ∧ _
  refine ⟨[wv (Ec.mults p (n / 16 ^ d % 16))], (.agg (b := (gs1 0).b) (Value.cells (wv (Ec.mults p (n / 16 ^ d % 16)))) 65 (0, 0) kr (H5.get 0 kr) kr .nil), ?_, H5.below⟩
  rfl
set_option maxRecDepth 100000 in
set_option maxHeartbeats 2000000 in
theorem together1_fn (n : Nat) (p : Ec.Wp) (hp : p.Ok) (hn : n < big) (ba sa : Nat) : FnP Tryd.prog 38 #[.slice (some ⟨ba, 0, none⟩) 1 1] (fun w => w.heap[ba]? = some (.cells #[Value.pointer (some ⟨sa, 0, none⟩)] 67 (0, 0)) ∧ w.heap[sa]? = some (.cells (Value.cells (shv n p 15)) 99 (0, 0))) (wv (Ec.tog n p 64)) := by
  refine FnP.intro (c := codeOf Tryd.f38) [.cell 2 65] 30 Tryd.func38 kr kr kr fun w hpre => ?_
  have H0 := St.start w
  refine rS [.a] H0 kr fun gs1 w1 H1 => ?_
  clear H0
  refine rS [.c pzero_fn, .a, .s 1] H1 kr fun gs2 w2 H2 => ?_
  clear H1
  refine g_seq kr ?_
  refine rS [.v] H2 kr fun gs3 w3 H3 => ?_
  clear H2
  refine g_block 0 kr ?_
  have HL1 : St w.heap.size w w3 [((gs1 0).b, Obj.cells #[.int .u64 0, .int .u64 0, .int .u64 0, .int .u64 0, .int .u64 0, .int .u64 0, .int .u64 0, .int .u64 0, .bool false, .int .u64 0, .int .u64 0, .int .u64 0, .int .u64 0] 65 (0, 0)), ((gs2 1).b, Obj.cells (Value.cells (wv Ec.zeroW)) 65 (0, 0))] := H3.as kr
  clear H3
  rw [show Ec.zeroW = Ec.tog n p (64 - 64) from rfl] at HL1
  have HF2 : St w.heap.size w w3 [((gs1 0).b, Obj.cells #[.int .u64 0, .int .u64 0, .int .u64 0, .int .u64 0, .int .u64 0, .int .u64 0, .int .u64 0, .int .u64 0, .bool false, .int .u64 0, .int .u64 0, .int .u64 0, .int .u64 0] 65 (0, 0)), ((gs2 1).b, Obj.cells (Value.cells (wv (Ec.tog n p (64 - 64)))) 65 (0, 0))] := HL1.front 0 kr kr
  have HF3 : St w.heap.size w w3 [((gs2 1).b, Obj.cells (Value.cells (wv (Ec.tog n p (64 - 64)))) 65 (0, 0)), ((gs1 0).b, Obj.cells #[.int .u64 0, .int .u64 0, .int .u64 0, .int .u64 0, .int .u64 0, .int .u64 0, .int .u64 0, .int .u64 0, .bool false, .int .u64 0, .int .u64 0, .int .u64 0, .int .u64 0] 65 (0, 0))] := HF2.front 1 kr kr
  refine g_loop kr (fun mz ρ ww => ∃ (j : Nat), j = mz ∧ (j ≤ 64) ∧ St w.heap.size w ww [((gs2 1).b, Obj.cells (Value.cells (wv (Ec.tog n p (64 - j)))) 65 (0, 0)), ((gs1 0).b, Obj.cells #[.int .u64 0, .int .u64 0, .int .u64 0, .int .u64 0, .int .u64 0, .int .u64 0, .int .u64 0, .int .u64 0, .bool false, .int .u64 0, .int .u64 0, .int .u64 0, .int .u64 0] 65 (0, 0))] ∧ Is [(0, .slice (some ⟨ba, 0, none⟩) 1 1), (2, .pointer (some ⟨(gs1 0).b, 0, none⟩)), (3, .pointer (some ⟨(gs2 1).b, 0, none⟩)), (4, .int .i64 (((j : Nat) : Int) - 1))] ρ) 64 ⟨64, rfl, (by omega), HF3, (Is.of ⟨kr, kr, kr, kr, trivial⟩)⟩ ?_
  clear HF3
  rintro _ _ w4 ⟨j, rfl, hj, H4, _, rfl⟩
  refine g_seq kr ?_
  refine g_sreg [0, 1] kr kr ?_
  refine rp [.v] H4 kr fun gs5 w5 H5 => ?_
  show WPs _ _ _ _ [1] _ _
  clear H4
  by_cases hc4 : (((j : Nat) : Int) - 1 : Int) ≥ 0
  · skip
    refine rp [.e (v := .bool (decide (0 ≤ ((j : Nat) : Int) - 1))) (v' := .bool true) (bool_eq (decide_eq_true (by omega)))] H5 kr fun gs6 w6 H6 => ?_
    show WPs _ _ _ _ [] _ _
    clear H5
    refine s_nil ?_
    refine g_cond_t kr kr ?_
    refine g_skip kr ?_
    show WP _ _ _ _ _ _
    refine g_seq kr ?_
    refine g_block 1 kr ?_
    refine g_seq kr ?_
    refine g_now 4 (v := .int .i64 (((j : Nat) : Int) - 1)) (v' := .int .i64 ((j - 1 : Nat) : Int)) (int_eq (show (((j : Nat) : Int) - 1) = ((j - 1 : Nat) : Int) from by omega)) kr ?_
    refine g_now 8 (v := .int .i64 (((j : Nat) : Int) - 1)) (v' := .int .i64 ((j - 1 : Nat) : Int)) (int_eq (show (((j : Nat) : Int) - 1) = ((j - 1 : Nat) : Int) from by omega)) kr ?_
    refine rS [.v] H6 kr fun gs7 w7 H7 => ?_
    clear H6
    refine g_block 2 kr ?_
    have HL5 : St w.heap.size w w7 [((gs2 1).b, Obj.cells (Value.cells (wv (Ec.tog n p (64 - j)))) 65 (0, 0)), ((gs1 0).b, Obj.cells #[.int .u64 0, .int .u64 0, .int .u64 0, .int .u64 0, .int .u64 0, .int .u64 0, .int .u64 0, .int .u64 0, .bool false, .int .u64 0, .int .u64 0, .int .u64 0, .int .u64 0] 65 (0, 0))] := H7.as kr
    clear H7
    refine g_first kr ?_
    refine rS [.v] HL5 kr fun gs8 w8 H8 => ?_
    clear HL5
    refine g_seq kr ?_
    refine g_cond_t kr kr ?_
    refine g_skip kr ?_
    show WP _ _ _ _ _ _
    refine g_seq kr ?_
    refine g_block 3 kr ?_
    refine rL [.l 0, .c (dbl_fn (Ec.tog n p (64 - j)) (Ec.tog_ok hp _)), .s 0] H8 kr fun gs9 w9 H9 => ?_
    clear H8
    show WP _ _ _ _ _ _
    refine rL [.v, .v] H9 kr fun gs10 w10 H10 => ?_
    clear H9
    show WPL _ _ _ _ _ _
    refine g_next ?_
    refine rS [.v] H10 kr fun gs11 w11 H11 => ?_
    clear H10
    refine g_seq kr ?_
    refine g_cond_t kr kr ?_
    refine g_skip kr ?_
    show WP _ _ _ _ _ _
    refine g_seq kr ?_
    refine g_block 3 kr ?_
    refine rL [.l 0, .c (dbl_fn (Ec.dblW (Ec.tog n p (64 - j))) (Ec.dblW_ok (Ec.tog_ok hp _))), .s 0] H11 kr fun gs12 w12 H12 => ?_
    clear H11
    show WP _ _ _ _ _ _
    refine g_keep [0, 2, 3, 4, 9, 12, 13] fun ρ1 => ?_
    have HK6 := H12.keep
    clear H12
    refine rL [.v, .v] HK6 kr fun gs13 w13 H13 => ?_
    clear HK6
    show WPL _ _ _ _ _ _
    refine g_next ?_
    refine rS [.v] H13 kr fun gs14 w14 H14 => ?_
    clear H13
    refine g_seq kr ?_
    refine g_cond_t kr kr ?_
    refine g_skip kr ?_
    show WP _ _ _ _ _ _
    refine g_seq kr ?_
    refine g_block 3 kr ?_
    refine rL [.l 0, .c (dbl_fn (Ec.dblW (Ec.dblW (Ec.tog n p (64 - j)))) (Ec.dblW_ok (Ec.dblW_ok (Ec.tog_ok hp _)))), .s 0] H14 kr fun gs15 w15 H15 => ?_
    clear H14
    show WP _ _ _ _ _ _
    refine rL [.v, .v] H15 kr fun gs16 w16 H16 => ?_
    clear H15
    show WPL _ _ _ _ _ _
    refine g_next ?_
    refine rS [.v] H16 kr fun gs17 w17 H17 => ?_
    clear H16
    refine g_seq kr ?_
    refine g_cond_t kr kr ?_
    refine g_skip kr ?_
    show WP _ _ _ _ _ _
    refine g_seq kr ?_
    refine g_block 3 kr ?_
    refine rL [.l 0, .c (dbl_fn (Ec.dblW (Ec.dblW (Ec.dblW (Ec.tog n p (64 - j))))) (Ec.dblW_ok (Ec.dblW_ok (Ec.dblW_ok (Ec.tog_ok hp _))))), .s 0] H17 kr fun gs18 w18 H18 => ?_
    clear H17
    show WP _ _ _ _ _ _
    refine rL [.v, .v] H18 kr fun gs19 w19 H19 => ?_
    clear H18
    show WPL _ _ _ _ _ _
    refine g_next ?_
    refine rS [.v] H19 kr fun gs20 w20 H20 => ?_
    clear H19
    refine g_seq kr ?_
    refine g_cond_f kr kr ?_
    refine g_exit 2 kr ?_
    show WP _ _ _ _ _ _
    refine rS [.v, .v, .v] H20 kr fun gs21 w21 H21 => ?_
    clear H20
    refine g_keep [0, 2, 3, 4, 9, 12, 13, 17, 18, 19] fun ρ2 => ?_
    have HK7 := H21.keep
    clear H21
    refine g_block 4 kr ?_
    have HL8 : St w.heap.size w w21 [((gs2 1).b, Obj.cells (Value.cells (wv (Ec.dblW (Ec.dblW (Ec.dblW (Ec.dblW (Ec.tog n p (64 - j)))))))) 65 (0, 0)), ((gs1 0).b, Obj.cells #[.int .u64 0, .int .u64 0, .int .u64 0, .int .u64 0, .int .u64 0, .int .u64 0, .int .u64 0, .int .u64 0, .bool false, .int .u64 0, .int .u64 0, .int .u64 0, .int .u64 0] 65 (0, 0))] := HK7.as kr
    clear HK7
    refine g_first kr ?_
    refine rS [.v] HL8 kr fun gs22 w22 H22 => ?_
    clear HL8
    refine g_seq kr ?_
    refine g_cond_t kr kr ?_
    refine g_skip kr ?_
    show WP _ _ _ _ _ _
    refine g_seq kr ?_
    refine g_block 5 kr ?_
    refine rS [.o (ins := [((.tmp 17), .slice (some ⟨ba, 0, none⟩) 1 1), ((.tmp 19), .int .i64 0)]) (v := .pointer (some ⟨ba, 0 + 0 * 1, none⟩)) (fun ρ o w ho hi => idxS_run (kd := .i64) (t := 94) (e := 67) (size := 1) (bytes := 8) kr (x := (.tmp 17)) (y := (.tmp 19)) ba 0 1 1 0 ho hi.1 hi.2.1 (by omega) w), .fs (off := 0 + 0 * 1) (v := .pointer (some ⟨sa, 0, none⟩)) hpre.1 (lt_of_heap hpre.1) kr, .v] H22 kr fun gs23 w23 H23 => ?_
    clear H22
    refine dL [.l 0, .v, .v, .cp (pre := fun w => w.heap[sa]? = some (.cells (Value.cells (shv n p 15)) 99 (0, 0))) (at_fn n p hp hn sa (j - 1) (by omega)) [] (fun w hb hd => ((hb.block _ (lt_of_heap hpre.2)).trans hpre.2)), .c (plus_fn (Ec.dblW (Ec.dblW (Ec.dblW (Ec.dblW (Ec.tog n p (64 - j)))))) (Ec.mults p (n / 16 ^ (j - 1) % 16)) (Ec.dblW_ok (Ec.dblW_ok (Ec.dblW_ok (Ec.dblW_ok (Ec.tog_ok hp _))))) (Ec.mults_ok hp _)), .s 0] H23 kr fun w24 H24 => ?_
    clear H23
    show WP _ _ _ _ _ _
    refine rL [.v, .v] H24 kr fun gs25 w25 H25 => ?_
    clear H24
    show WPL _ _ _ _ _ _
    refine g_next ?_
    refine rS [.v] H25 kr fun gs26 w26 H26 => ?_
    clear H25
    refine g_seq kr ?_
    refine g_cond_f kr kr ?_
    refine g_exit 4 kr ?_
    show WP _ _ _ _ _ _
    refine rL [.v, .e (v := .int .i64 (IntKind.i64.wrap (((j - 1 : Nat) : Int) - 1))) (v' := .int .i64 (((j - 1 : Nat) : Int) - 1)) (int_eq (wrap_i64 (by omega) (by omega))), .v] H26 kr fun gs27 w27 H27 => ?_
    clear H26
    have HL9 : St w.heap.size w w27 [((gs2 1).b, Obj.cells (Value.cells (wv (Ec.plusW (Ec.dblW (Ec.dblW (Ec.dblW (Ec.dblW (Ec.tog n p (64 - j)))))) (Ec.mults p (n / 16 ^ (j - 1) % 16))))) 65 (0, 0)), ((gs1 0).b, Obj.cells #[.int .u64 0, .int .u64 0, .int .u64 0, .int .u64 0, .int .u64 0, .int .u64 0, .int .u64 0, .int .u64 0, .bool false, .int .u64 0, .int .u64 0, .int .u64 0, .int .u64 0] 65 (0, 0))] := H27.as kr
    clear H27
    rw [show (Ec.plusW (Ec.dblW (Ec.dblW (Ec.dblW (Ec.dblW (Ec.tog n p (64 - j)))))) (Ec.mults p (n / 16 ^ (j - 1) % 16))) = Ec.tog n p (64 - (j - 1)) from tog_next (by omega) hj] at HL9
    show ∃ m, _ ∧ _
    exact ⟨_, (by omega), (j - 1), rfl, (by omega), HL9, (Is.of ⟨kr, kr, kr, kr, trivial⟩)⟩
  · skip
    refine rp [.e (v := .bool (decide (0 ≤ ((j : Nat) : Int) - 1))) (v' := .bool false) (bool_eq (decide_eq_false (by omega)))] H5 kr fun gs28 w28 H28 => ?_
    show WPs _ _ _ _ [] _ _
    clear H5
    refine s_nil ?_
    refine g_cond_f kr kr ?_
    refine g_exit 0 kr ?_
    show WP _ _ _ _ _ _
    refine rS [.l 0, .s 1] H28 kr fun gs29 w29 H29 => ?_
    clear H28
    refine g_ret kr ?_
    show ∃ vs, Res _ _ _ _ vs ∧ _
    refine ⟨[wv (Ec.tog n p (64 - j))], (.agg (b := (gs1 0).b) (Value.cells (wv (Ec.tog n p (64 - j)))) 65 (0, 0) kr (H29.get 1 kr) kr .nil), ?_, H29.below⟩
    obtain rfl : j = 0 := by omega
    rfl
end Go.Proofs.YtmmloghbnpfedaaDoor

namespace Go.Proofs.YtmmloghbnpfedaaDoor
open Go Go.RowKit
set_option linter.unusedVariables false
set_option maxRecDepth 100000 in
set_option maxHeartbeats 2000000 in
theorem times_pt_fn (P : Ec.Pt Ec.Fp) (hP : P.On Ec.seven) (n : Nat) (hn : n < big) : Fn Tryd.prog 12 #[pv (Ec.ofPt P), uv n] (.tuple #[pv (Ec.ofPt (Ec.mulP P n)), .int .i64 0]) := by
  refine Fn.intro (c := codeOf Tryd.f12) [.cell 4 26, .tmp 5] 16 Tryd.func12 kr kr kr fun w => ?_
  have H0 := St.start w
  refine rS [.b, .b, .a, .v] H0 kr fun gs1 w1 H1 => ?_
  clear H0
  refine g_seq kr ?_
  refine rS [.l 0, .c (on_yes (Ec.ofPt P) (Ec.ofPt_ok _) (Ec.onB_pt hP)), .v] H1 kr fun gs2 w2 H2 => ?_
  clear H1
  refine g_cond_f kr kr ?_
  refine g_skip kr ?_
  show WP _ _ _ _ _ _
  refine g_sreg [0, 1, 2, 3, 4, 5, 6, 7] kr kr ?_
  refine rp [.l 0, .l 1] H2 kr fun gs3 w3 H3 => ?_
  show WPs _ _ _ _ [2, 3, 4, 5, 6, 7] _ _
  clear H2
  refine s_callN H3 (some 12) 39 #[pv (Ec.ofPt P), uv n] (fun _ => True) 99 (Value.cells (shv n (Ec.widenW (Ec.ofPt P)) 15)) (often_fn (Ec.ofPt P) (Ec.ofPt_ok _) n hn) trivial kr kr ?_
  intro b_1 w4 H4; clear H3
  refine rp [.nw (fun b => .slice (some ⟨b, 0, none⟩) 1 1) #[.pointer (some ⟨b_1, 0, none⟩)] 67, .w fun nn => .cp (pre := fun w => w.heap[(nn 4)]? = some (.cells #[Value.pointer (some ⟨b_1, 0, none⟩)] 67 (0, 0)) ∧ w.heap[b_1]? = some (.cells (Value.cells (shv n (Ec.widenW (Ec.ofPt P)) 15)) 99 (0, 0))) (together1_fn n (Ec.widenW (Ec.ofPt P)) (Ec.widenW_ok (Ec.ofPt_ok _)) hn ((nn 4)) b_1) [(4, ((nn 4), Obj.cells #[.pointer (some ⟨b_1, 0, none⟩)] 67 (0, 0))), (0, (b_1, Obj.cells (Value.cells (shv n (Ec.widenW (Ec.ofPt P)) 15)) 99 (0, 0)))] (fun w hb hd => ⟨hd.1, hd.2.1⟩), .c (narrow_fn (Ec.tog n (Ec.widenW (Ec.ofPt P)) 64) (Ec.tog_ok (Ec.widenW_ok (Ec.ofPt_ok _)) 64) (Ec.mulP P n) (Ec.tog_end hn hP)), .s 3, .v] H4 kr fun gs5 w5 H5 => ?_
  show WPs _ _ _ _ [] _ _
  clear H4
  refine s_nil ?_
  refine g_ret kr ?_
  show ∃ vs, Res _ _ _ _ vs ∧ _
  refine ⟨[pv (Ec.ofPt (Ec.mulP P n)), .int .i64 0], (.agg (b := (gs1 2).b) (Value.cells (pv (Ec.ofPt (Ec.mulP P n)))) 26 (0, 0) kr (H5.get 3 kr) kr (.tmp (.int .i64 0) kr .nil)), ?_, H5.below⟩
  rfl
end Go.Proofs.YtmmloghbnpfedaaDoor

namespace Go.Proofs.YtmmloghbnpfedaaDoor
open Go.ChangeShapes Go.WideShapes Go.ChangeAt Go.RowKit
set_option linter.unusedVariables false
/-- A number's 32 bytes, the highest first. -/
def bn (A : Nat) : List Int := [w3 A / 72057594037927936 % 256, w3 A / 281474976710656 % 256, w3 A / 1099511627776 % 256, w3 A / 4294967296 % 256, w3 A / 16777216 % 256, w3 A / 65536 % 256, w3 A / 256 % 256, w3 A % 256, w2 A / 72057594037927936 % 256, w2 A / 281474976710656 % 256, w2 A / 1099511627776 % 256, w2 A / 4294967296 % 256, w2 A / 16777216 % 256, w2 A / 65536 % 256, w2 A / 256 % 256, w2 A % 256, w1 A / 72057594037927936 % 256, w1 A / 281474976710656 % 256, w1 A / 1099511627776 % 256, w1 A / 4294967296 % 256, w1 A / 16777216 % 256, w1 A / 65536 % 256, w1 A / 256 % 256, w1 A % 256, w0 A / 72057594037927936 % 256, w0 A / 281474976710656 % 256, w0 A / 1099511627776 % 256, w0 A / 4294967296 % 256, w0 A / 16777216 % 256, w0 A / 65536 % 256, w0 A / 256 % 256, w0 A % 256]
def bs (A : Nat) : ByteArray := strOfNums (bn A)
theorem conv_row (w : World) (O : Obj) (xs : List Int) (n : Nat) (hn : xs.length = n) (C : Array Value) (hC : C = (xs.map (Value.int .u8)).toArray) :
    (convert 69 9 (.slice (some ⟨w.heap.size + 1, 0, none⟩) n n)).run Tryd.prog ((w.alloc O).alloc (.cells C 90)) = .ok (.string (strOfNums xs)) ((w.alloc O).alloc (.cells C 90)) := by
  subst hC
  refine run_convert_bytes_arg _ 69 5 Tryd.underlying69 Tryd.underlying5 _ 0 n n xs hn ?_ 9 Tryd.underlying9
  intro i hi
  have h := heap_alloc2_new w O (.cells (xs.map (Value.int .u8)).toArray 90)
  rw [cell_of_row _ _ _ _ _ _ h]
  have hi' : i < xs.length := by omega
  simp [hi']
set_option maxHeartbeats 4000000 in
set_option maxRecDepth 100000 in
theorem bytes_any (A : Nat) (hA : A < big) (w : World) : Calls Tryd.prog 29 #[uv A] w fun e w' => e = .returned (.string (bs A)) ∧ Below w.heap.size w w' := by
  have hc := fun (O : Obj) => conv_row w O (bn A) 32 rfl _ rfl
  simp only [bn, List.map_cons, List.map_nil] at hc
  unfold uv
  go_enter Tryd.func29, Tryd.ntmps29
  go_wp2
  go_rounds 33
  go_ret
  exact ⟨rfl, by go_grown⟩
theorem bs_size (A : Nat) : (bs A).size = 32 := rfl
end Go.Proofs.YtmmloghbnpfedaaDoor

namespace Go.Proofs.YtmmloghbnpfedaaDoor
open Go Go.RowKit
set_option linter.unusedVariables false
/-- 1 to n - 1. -/
def inN (a : Nat) : Bool := !decide (a = 0) && decide (a < NR)
def highB (a : Nat) : Bool := decide (NR < a + a)
def lowB (a : Nat) : Bool := decide (a < fSub 0 a NR)
theorem inN_n {a : Nat} (h : ¬ a = 0) : inN a = decide (a < NR) := by unfold inN; rw [decide_eq_false h]; rfl
theorem nr_odd2 : NR % 2 = 1 := by decide +kernel
theorem low_eq (a : Nat) (ha : a < big) : lowB a = (inN a && !highB a) := by
  have hpos : 0 < NR := by decide +kernel
  have hodd := nr_odd2
  unfold lowB inN highB fSub
  rw [Nat.zero_mod, Nat.zero_add]
  generalize NR = M at *
  have hm := Nat.mod_lt a hpos
  by_cases h0 : a = 0
  · subst h0; rw [Nat.zero_mod, Nat.sub_zero, Nat.mod_self]; rfl
  · by_cases h1 : a < M
    · rw [Nat.mod_eq_of_lt h1, Nat.mod_eq_of_lt (by omega), decide_eq_false h0, decide_eq_true h1]
      rw [Bool.eq_iff_iff]
      simp only [decide_eq_true_eq, Bool.not_false, Bool.true_and, Bool.not_eq_true', decide_eq_false_iff_not]
      omega
    · have h2 := Nat.mod_lt (M - a % M) hpos
      rw [decide_eq_false h1, decide_eq_false h0, decide_eq_false (by omega)]; rfl
def mayB (r s : Nat) (v : Int) : Bool := inN r && lowB s && (decide (v = 0) || decide (v = 1))
def sgv (r s : Nat) (v : Int) : Value := .agg #[.int .u64 (w0 r), .int .u64 (w1 r), .int .u64 (w2 r), .int .u64 (w3 r), .int .u64 (w0 s), .int .u64 (w1 s), .int .u64 (w2 s), .int .u64 (w3 s), .int .i64 v]
def sbs (r s : Nat) (v : Int) : ByteArray := (bs r ++ bs s) ++ strOfNums [IntKind.u8.wrap v]
theorem sizes_add (a b : ByteArray) : (a ++ b).size = a.size + b.size := ByteArray.size_append
end Go.Proofs.YtmmloghbnpfedaaDoor

namespace Go.Proofs.YtmmloghbnpfedaaDoor
open Go Go.RowKit
set_option linter.unusedVariables false
set_option maxRecDepth 100000 in
set_option maxHeartbeats 2000000 in
theorem within_z (a : Nat) (ha : a < big) (h : a = 0) : Fn Tryd.prog 26 #[uv a] (.bool false) := by
  refine Fn.intro (c := codeOf Tryd.f26) [.tmp 2] 18 Tryd.func26 kr kr kr fun w => ?_
  have H0 := St.start w
  refine rS [.b, .v] H0 kr fun gs1 w1 H1 => ?_
  clear H0
  refine rS [.c prime1_fn, .v, .v, .v, .a, .s 1, .v] H1 kr fun gs2 w2 H2 => ?_
  clear H1
  refine rS [.l 0, .v, .oe (ins := [((.tmp 9), uv a), ((.tmp 10), .agg #[.int .u64 0, .int .u64 0, .int .u64 0, .int .u64 0])]) (v := .bool (!decide (a = 0))) (v' := .bool false) (fun ρ o w ho hi => neU_run (x := (.tmp 9)) (y := (.tmp 10)) a 0 ha (by unfold big; omega) w ho hi.1 hi.2.1) (by rw [decide_eq_true h] <;> rfl), .v, .n, .n, .n, .n, .v, .v] H2 kr fun gs3 w3 H3 => ?_
  clear H2
  refine g_ret kr ?_
  show ∃ vs, Res _ _ _ _ vs ∧ _
  refine ⟨[.bool false], (.tmp (.bool false) kr .nil), ?_, H3.below⟩
  rfl
set_option maxRecDepth 100000 in
set_option maxHeartbeats 2000000 in
theorem within_n (a : Nat) (ha : a < big) (h : ¬ a = 0) (h2 : ¬ a < NR) : Fn Tryd.prog 26 #[uv a] (.bool false) := by
  refine Fn.intro (c := codeOf Tryd.f26) [.tmp 2] 18 Tryd.func26 kr kr kr fun w => ?_
  have H0 := St.start w
  refine rS [.b, .v] H0 kr fun gs1 w1 H1 => ?_
  clear H0
  refine rS [.c prime1_fn, .v, .v, .v, .a, .s 1, .v] H1 kr fun gs2 w2 H2 => ?_
  clear H1
  refine rS [.l 0, .v, .oe (ins := [((.tmp 9), uv a), ((.tmp 10), .agg #[.int .u64 0, .int .u64 0, .int .u64 0, .int .u64 0])]) (v := .bool (!decide (a = 0))) (v' := .bool true) (fun ρ o w ho hi => neU_run (x := (.tmp 9)) (y := (.tmp 10)) a 0 ha (by unfold big; omega) w ho hi.1 hi.2.1) (by rw [decide_eq_false h] <;> rfl), .v, .l 0, .l 1, .c (cmp_fn a NR ha nr_ok.1), .e (v := .bool (decide (cm a NR < 0))) (v' := .bool false) (bool_eq (decide_eq_false (cm_nlt h2))), .v, .v] H2 kr fun gs3 w3 H3 => ?_
  clear H2
  refine g_ret kr ?_
  show ∃ vs, Res _ _ _ _ vs ∧ _
  refine ⟨[.bool false], (.tmp (.bool false) kr .nil), ?_, H3.below⟩
  rfl
set_option maxRecDepth 100000 in
set_option maxHeartbeats 2000000 in
theorem within_y (a : Nat) (ha : a < big) (h : ¬ a = 0) (h2 : a < NR) : Fn Tryd.prog 26 #[uv a] (.bool true) := by
  refine Fn.intro (c := codeOf Tryd.f26) [.tmp 2] 18 Tryd.func26 kr kr kr fun w => ?_
  have H0 := St.start w
  refine rS [.b, .v] H0 kr fun gs1 w1 H1 => ?_
  clear H0
  refine rS [.c prime1_fn, .v, .v, .v, .a, .s 1, .v] H1 kr fun gs2 w2 H2 => ?_
  clear H1
  refine rS [.l 0, .v, .oe (ins := [((.tmp 9), uv a), ((.tmp 10), .agg #[.int .u64 0, .int .u64 0, .int .u64 0, .int .u64 0])]) (v := .bool (!decide (a = 0))) (v' := .bool true) (fun ρ o w ho hi => neU_run (x := (.tmp 9)) (y := (.tmp 10)) a 0 ha (by unfold big; omega) w ho hi.1 hi.2.1) (by rw [decide_eq_false h] <;> rfl), .v, .l 0, .l 1, .c (cmp_fn a NR ha nr_ok.1), .e (v := .bool (decide (cm a NR < 0))) (v' := .bool true) (bool_eq (decide_eq_true (cm_lt h2))), .v, .v] H2 kr fun gs3 w3 H3 => ?_
  clear H2
  refine g_ret kr ?_
  show ∃ vs, Res _ _ _ _ vs ∧ _
  refine ⟨[.bool true], (.tmp (.bool true) kr .nil), ?_, H3.below⟩
  rfl
theorem within_fn (a : Nat) (ha : a < big) : Fn Tryd.prog 26 #[uv a] (.bool (inN a)) := by
  by_cases h : a = 0
  · have := within_z a ha h; subst h; exact this
  · rw [inN_n h]
    by_cases h2 : a < NR
    · rw [decide_eq_true h2]; exact within_y a ha h h2
    · rw [decide_eq_false h2]; exact within_n a ha h h2
set_option maxRecDepth 100000 in
set_option maxHeartbeats 2000000 in
theorem sturned_fn (a : Nat) (ha : a < big) : Fn Tryd.prog 47 #[uv a] (uv (fSub 0 a NR)) := by
  refine Fn.intro (c := codeOf Tryd.f47) [.cell 2 24] 12 Tryd.func47 kr kr kr fun w => ?_
  have H0 := St.start w
  refine rS [.b, .a] H0 kr fun gs1 w1 H1 => ?_
  clear H0
  refine rS [.v, .l 0, .c (fsub1_fn 0 a (by unfold big; omega) ha), .v, .v, .v, .a, .s 2, .v] H1 kr fun gs2 w2 H2 => ?_
  clear H1
  refine rS [.l 2, .s 1] H2 kr fun gs3 w3 H3 => ?_
  clear H2
  refine g_ret kr ?_
  show ∃ vs, Res _ _ _ _ vs ∧ _
  refine ⟨[uv (fSub 0 a NR)], (.agg (b := (gs1 1).b) (Value.cells (uv (fSub 0 a NR))) 24 (0, 0) kr (H3.get 1 kr) kr .nil), ?_, H3.below⟩
  rfl
set_option maxRecDepth 100000 in
set_option maxHeartbeats 2000000 in
theorem low_y (a : Nat) (ha : a < big) (h : a < fSub 0 a NR) : Fn Tryd.prog 76 #[uv a] (.bool true) := by
  refine Fn.intro (c := codeOf Tryd.f76) [.tmp 2] 8 Tryd.func76 kr kr kr fun w => ?_
  have H0 := St.start w
  refine rS [.b, .v] H0 kr fun gs1 w1 H1 => ?_
  clear H0
  refine dS [.l 0, .l 0, .c (sturned_fn a ha), .c (cmp_fn a (fSub 0 a NR) ha (fSub_lt nr_ok)), .e (v := .bool (decide (cm a (fSub 0 a NR) < 0))) (v' := .bool true) (bool_eq (decide_eq_true (cm_lt h))), .v] H1 kr fun w2 H2 => ?_
  clear H1
  refine g_ret kr ?_
  show ∃ vs, Res _ _ _ _ vs ∧ _
  refine ⟨[.bool true], (.tmp (.bool true) kr .nil), ?_, H2.below⟩
  rfl
set_option maxRecDepth 100000 in
set_option maxHeartbeats 2000000 in
theorem low_n (a : Nat) (ha : a < big) (h : ¬ a < fSub 0 a NR) : Fn Tryd.prog 76 #[uv a] (.bool false) := by
  refine Fn.intro (c := codeOf Tryd.f76) [.tmp 2] 8 Tryd.func76 kr kr kr fun w => ?_
  have H0 := St.start w
  refine rS [.b, .v] H0 kr fun gs1 w1 H1 => ?_
  clear H0
  refine dS [.l 0, .l 0, .c (sturned_fn a ha), .c (cmp_fn a (fSub 0 a NR) ha (fSub_lt nr_ok)), .e (v := .bool (decide (cm a (fSub 0 a NR) < 0))) (v' := .bool false) (bool_eq (decide_eq_false (cm_nlt h))), .v] H1 kr fun w2 H2 => ?_
  clear H1
  refine g_ret kr ?_
  show ∃ vs, Res _ _ _ _ vs ∧ _
  refine ⟨[.bool false], (.tmp (.bool false) kr .nil), ?_, H2.below⟩
  rfl
theorem low_fn (a : Nat) (ha : a < big) : Fn Tryd.prog 76 #[uv a] (.bool (lowB a)) := by
  unfold lowB
  by_cases h : a < fSub 0 a NR
  · rw [decide_eq_true h]; exact low_y a ha h
  · rw [decide_eq_false h]; exact low_n a ha h
set_option maxRecDepth 100000 in
set_option maxHeartbeats 2000000 in
theorem may_fn (r s : Nat) (hr : r < big) (hs : s < big) (v : Int) : Fn Tryd.prog 41 #[sgv r s (v)] (.bool (mayB r s v)) := by
  refine Fn.intro (c := codeOf Tryd.f41) [.tmp 2] 21 Tryd.func41 kr kr kr fun w => ?_
  have H0 := St.start w
  refine rS [.b, .v] H0 kr fun gs1 w1 H1 => ?_
  clear H0
  refine g_sreg [0, 1, 2, 3, 4, 5, 6, 7, 8, 9, 10, 11, 12, 13, 14, 15, 16, 17, 18] kr kr ?_
  refine rp [.v, .l 0, .c (within_fn r hr)] H1 kr fun gs2 w2 H2 => ?_
  show WPs _ _ _ _ [3, 4, 5, 6, 7, 8, 9, 10, 11, 12, 13, 14, 15, 16, 17, 18] _ _
  clear H1
  rcases (Bool.eq_false_or_eq_true (inN r)).symm with hb1 | hb1
  · skip
    refine s_now 5 (v := .bool (inN r)) (v' := .bool false) (bool_eq hb1) kr ?_
    refine rp [.v, .n, .n, .n, .v, .v, .n, .n, .n, .n] H2 kr fun gs3 w3 H3 => ?_
    show WPs _ _ _ _ [13, 14, 15, 16, 17, 18] _ _
    clear H2
    refine s_not (some 16) kr kr ?_
    refine s_not (some 17) kr kr ?_
    refine s_not (some 18) kr kr ?_
    refine rp [.n, .v, .v] H3 kr fun gs4 w4 H4 => ?_
    show WPs _ _ _ _ [] _ _
    clear H3
    refine s_nil ?_
    refine g_ret kr ?_
    show ∃ vs, Res _ _ _ _ vs ∧ _
    refine ⟨[.bool false], (.tmp (.bool false) kr .nil), ?_, H4.below⟩
    exact congrArg Value.bool (by unfold mayB; simp [hb1] <;> omega)
  · skip
    refine s_now 5 (v := .bool (inN r)) (v' := .bool true) (bool_eq hb1) kr ?_
    refine rp [.v, .v, .l 0, .c (low_fn s hs)] H2 kr fun gs5 w5 H5 => ?_
    show WPs _ _ _ _ [7, 8, 9, 10, 11, 12, 13, 14, 15, 16, 17, 18] _ _
    clear H2
    rcases (Bool.eq_false_or_eq_true (lowB s)).symm with hb2 | hb2
    · skip
      refine s_now 9 (v := .bool (lowB s)) (v' := .bool false) (bool_eq hb2) kr ?_
      refine rp [.v, .v, .n, .n, .n, .n] H5 kr fun gs6 w6 H6 => ?_
      show WPs _ _ _ _ [13, 14, 15, 16, 17, 18] _ _
      clear H5
      refine s_not (some 16) kr kr ?_
      refine s_not (some 17) kr kr ?_
      refine s_not (some 18) kr kr ?_
      refine rp [.n, .v, .v] H6 kr fun gs7 w7 H7 => ?_
      show WPs _ _ _ _ [] _ _
      clear H6
      refine s_nil ?_
      refine g_ret kr ?_
      show ∃ vs, Res _ _ _ _ vs ∧ _
      refine ⟨[.bool false], (.tmp (.bool false) kr .nil), ?_, H7.below⟩
      exact congrArg Value.bool (by unfold mayB; simp [hb1, hb2] <;> omega)
    · skip
      refine s_now 9 (v := .bool (lowB s)) (v' := .bool true) (bool_eq hb2) kr ?_
      refine rp [.v, .v, .v, .l 0] H5 kr fun gs8 w8 H8 => ?_
      show WPs _ _ _ _ [11, 12, 13, 14, 15, 16, 17, 18] _ _
      clear H5
      by_cases hc1 : (v : Int) = 0
      · skip
        refine rp [.e (v := .bool (v == 0)) (v' := .bool true) (bool_eq (beq_iff_eq.2 (by omega))), .v, .n, .n, .n, .v, .v, .v] H8 kr fun gs9 w9 H9 => ?_
        show WPs _ _ _ _ [] _ _
        clear H8
        refine s_nil ?_
        refine g_ret kr ?_
        show ∃ vs, Res _ _ _ _ vs ∧ _
        refine ⟨[.bool true], (.tmp (.bool true) kr .nil), ?_, H9.below⟩
        exact congrArg Value.bool (by unfold mayB; simp [hb1, hb2] <;> omega)
      · skip
        refine rp [.e (v := .bool (v == 0)) (v' := .bool false) (bool_eq (beq_eq_false_iff_ne.2 (by omega))), .v, .v, .l 0] H8 kr fun gs10 w10 H10 => ?_
        show WPs _ _ _ _ [15, 16, 17, 18] _ _
        clear H8
        by_cases hc2 : (v : Int) = 1
        · skip
          refine rp [.e (v := .bool (v == 1)) (v' := .bool true) (bool_eq (beq_iff_eq.2 (by omega))), .v, .v, .v] H10 kr fun gs11 w11 H11 => ?_
          show WPs _ _ _ _ [] _ _
          clear H10
          refine s_nil ?_
          refine g_ret kr ?_
          show ∃ vs, Res _ _ _ _ vs ∧ _
          refine ⟨[.bool true], (.tmp (.bool true) kr .nil), ?_, H11.below⟩
          exact congrArg Value.bool (by unfold mayB; simp [hb1, hb2] <;> omega)
        · skip
          refine rp [.e (v := .bool (v == 1)) (v' := .bool false) (bool_eq (beq_eq_false_iff_ne.2 (by omega))), .v, .v, .v] H10 kr fun gs12 w12 H12 => ?_
          show WPs _ _ _ _ [] _ _
          clear H10
          refine s_nil ?_
          refine g_ret kr ?_
          show ∃ vs, Res _ _ _ _ vs ∧ _
          refine ⟨[.bool false], (.tmp (.bool false) kr .nil), ?_, H12.below⟩
          exact congrArg Value.bool (by unfold mayB; simp [hb1, hb2] <;> omega)
set_option maxRecDepth 100000 in
set_option maxHeartbeats 2000000 in
theorem issec_fn (a : Nat) (ha : a < big) : Fn Tryd.prog 10 #[uv a] (.bool (inN a)) := by
  refine Fn.intro (c := codeOf Tryd.f10) [.tmp 2] 15 Tryd.func10 kr kr kr fun w => ?_
  have H0 := St.start w
  refine rS [.b, .v] H0 kr fun gs1 w1 H1 => ?_
  clear H0
  refine g_sreg [0, 1, 2] kr kr ?_
  refine rp [.c modulus1_fn] H1 kr fun gs2 w2 H2 => ?_
  show WPs _ _ _ _ [1, 2] _ _
  clear H1
  refine s_callS H2 (some 5) 35 #[uv NR] (fun _ => True) 3 1 (fun curZ capZ nZ lZ => (nZ = List.length lZ ∧ Rw 1 curZ capZ nZ (cellsD lZ) ∧ Ok lZ ∧ (lZ = dgs NR 16 ∧ vl lZ = NR ∧ List.length lZ = 16))) (of_fn NR nr_ok.1) trivial kr kr ?_
  intro b_1 cap_2 n_3 cur_4 l_5 w3 H3 hs_6; clear H2
  obtain ⟨hs_6n, hs_6r, hs_6o, hs_6s⟩ := hs_6
  obtain ⟨hs_6a, hs_6b, hs_6c⟩ := hs_6s
  refine rp [.v] H3 kr fun gs4 w4 H4 => ?_
  show WPs _ _ _ _ [] _ _
  clear H3
  refine s_nil ?_
  refine g_sreg [0, 1, 2, 3, 4, 5, 6, 7, 8, 9] kr kr ?_
  refine rp [.l 1, .v] H4 kr fun gs5 w5 H5 => ?_
  show WPs _ _ _ _ [2, 3, 4, 5, 6, 7, 8, 9] _ _
  clear H4
  by_cases he1 : (a : Nat) = 0
  · skip
    refine rp [.oe (ins := [((.tmp 6), uv a), ((.tmp 7), .agg #[.int .u64 0, .int .u64 0, .int .u64 0, .int .u64 0])]) (v := .bool (!decide (a = 0))) (v' := .bool false) (fun ρ o w ho hi => neU_run (x := (.tmp 6)) (y := (.tmp 7)) a 0 ha (by unfold big; omega) w ho hi.1 hi.2.1) (by rw [decide_eq_true he1] <;> rfl), .v, .n, .n, .n, .n, .v, .v] H5 kr fun gs6 w6 H6 => ?_
    show WPs _ _ _ _ [] _ _
    clear H5
    refine s_nil ?_
    refine g_ret kr ?_
    show ∃ vs, Res _ _ _ _ vs ∧ _
    refine ⟨[.bool false], (.tmp (.bool false) kr .nil), ?_, H6.below⟩
    exact congrArg Value.bool (show false = inN a by rw [he1]; rfl)
  · skip
    refine rp [.oe (ins := [((.tmp 6), uv a), ((.tmp 7), .agg #[.int .u64 0, .int .u64 0, .int .u64 0, .int .u64 0])]) (v := .bool (!decide (a = 0))) (v' := .bool true) (fun ρ o w ho hi => neU_run (x := (.tmp 6)) (y := (.tmp 7)) a 0 ha (by unfold big; omega) w ho hi.1 hi.2.1) (by rw [decide_eq_false he1] <;> rfl), .v, .l 1] H5 kr fun gs7 w7 H7 => ?_
    show WPs _ _ _ _ [5, 6, 7, 8, 9] _ _
    clear H5
    refine s_callS H7 (some 11) 35 #[uv a] (fun _ => True) 3 1 (fun curZ capZ nZ lZ => (nZ = List.length lZ ∧ Rw 1 curZ capZ nZ (cellsD lZ) ∧ Ok lZ ∧ (lZ = dgs a 16 ∧ vl lZ = a ∧ List.length lZ = 16))) (of_fn a ha) trivial kr kr ?_
    intro b_7 cap_8 n_9 cur_10 l_11 w8 H8 hs_12; clear H7
    obtain ⟨hs_12n, hs_12r, hs_12o, hs_12s⟩ := hs_12
    obtain ⟨hs_12a, hs_12b, hs_12c⟩ := hs_12s
    refine rp [.v, .cp (pre := fun w => w.heap[b_7]? = some (.cells cur_10 3 (0, 0)) ∧ w.heap[b_1]? = some (.cells cur_4 3 (0, 0))) (less_fn l_11 l_5 b_7 n_9 cap_8 b_1 n_3 cap_2 cur_10 cur_4 hs_12n hs_6n hs_12r hs_6r hs_12o hs_6o (by omega) (by omega)) [(0, (b_7, Obj.cells cur_10 3 (0, 0))), (1, (b_1, Obj.cells cur_4 3 (0, 0)))] (fun w hb hd => ⟨hd.1, hd.2.1⟩), .v, .v] H8 kr fun gs9 w9 H9 => ?_
    show WPs _ _ _ _ [] _ _
    clear H8
    refine s_nil ?_
    refine g_ret kr ?_
    show ∃ vs, Res _ _ _ _ vs ∧ _
    refine ⟨[.bool (ls l_11 l_5)], (.tmp (.bool (ls l_11 l_5)) kr .nil), ?_, H9.below⟩
    exact congrArg Value.bool (show ls l_11 l_5 = inN a by rw [inN_n he1]; unfold ls; rw [hs_12b, hs_6b])
set_option maxRecDepth 100000 in
set_option maxHeartbeats 2000000 in
theorem high_fn (a : Nat) (ha : a < big) : Fn Tryd.prog 44 #[uv a] (.bool (highB a)) := by
  refine Fn.intro (c := codeOf Tryd.f44) [.tmp 2] 12 Tryd.func44 kr kr kr fun w => ?_
  have H0 := St.start w
  refine rS [.b, .v] H0 kr fun gs1 w1 H1 => ?_
  clear H0
  refine g_sreg [0, 1, 2] kr kr ?_
  refine rp [.l 0] H1 kr fun gs2 w2 H2 => ?_
  show WPs _ _ _ _ [1, 2] _ _
  clear H1
  refine s_callS H2 (some 5) 35 #[uv a] (fun _ => True) 3 1 (fun curZ capZ nZ lZ => (nZ = List.length lZ ∧ Rw 1 curZ capZ nZ (cellsD lZ) ∧ Ok lZ ∧ (lZ = dgs a 16 ∧ vl lZ = a ∧ List.length lZ = 16))) (of_fn a ha) trivial kr kr ?_
  intro b_1 cap_2 n_3 cur_4 l_5 w3 H3 hs_6; clear H2
  obtain ⟨hs_6n, hs_6r, hs_6o, hs_6s⟩ := hs_6
  obtain ⟨hs_6a, hs_6b, hs_6c⟩ := hs_6s
  refine rp [.v] H3 kr fun gs4 w4 H4 => ?_
  show WPs _ _ _ _ [] _ _
  clear H3
  refine s_nil ?_
  refine g_sreg [0, 1, 2, 3, 4, 5, 6] kr kr ?_
  refine rp [.c modulus1_fn] H4 kr fun gs5 w5 H5 => ?_
  show WPs _ _ _ _ [1, 2, 3, 4, 5, 6] _ _
  clear H4
  refine s_callS H5 (some 7) 35 #[uv NR] (fun _ => True) 3 1 (fun curZ capZ nZ lZ => (nZ = List.length lZ ∧ Rw 1 curZ capZ nZ (cellsD lZ) ∧ Ok lZ ∧ (lZ = dgs NR 16 ∧ vl lZ = NR ∧ List.length lZ = 16))) (of_fn NR nr_ok.1) trivial kr kr ?_
  intro b_7 cap_8 n_9 cur_10 l_11 w6 H6 hs_12; clear H5
  obtain ⟨hs_12n, hs_12r, hs_12o, hs_12s⟩ := hs_12
  obtain ⟨hs_12a, hs_12b, hs_12c⟩ := hs_12s
  refine rp [.v, .v] H6 kr fun gs7 w7 H7 => ?_
  show WPs _ _ _ _ [4, 5, 6] _ _
  clear H6
  refine s_callS H7 (some 10) 59 #[.slice (some ⟨b_1, 0, none⟩) n_3 cap_2, .slice (some ⟨b_1, 0, none⟩) n_3 cap_2] (fun w => w.heap[b_1]? = some (.cells cur_4 3 (0, 0)) ∧ w.heap[b_1]? = some (.cells cur_4 3 (0, 0))) 3 1 (fun curZ capZ nZ lZ => (nZ = List.length lZ ∧ Rw 1 curZ capZ nZ (cellsD lZ) ∧ Ok lZ ∧ (vl lZ = vl l_5 + vl l_5 ∧ List.length lZ ≤ max (List.length l_5) (List.length l_5) + 1 ∧ max (List.length l_5) (List.length l_5) ≤ List.length lZ))) (sum_fn l_5 l_5 b_1 n_3 cap_2 b_1 n_3 cap_2 cur_4 cur_4 hs_6n hs_6n hs_6r hs_6r hs_6o hs_6o (by omega) (by omega)) (⟨(H7.get 1 kr), (H7.get 1 kr)⟩) kr kr ?_
  intro b_13 cap_14 n_15 cur_16 l_17 w8 H8 hs_18; clear H7
  obtain ⟨hs_18n, hs_18r, hs_18o, hs_18s⟩ := hs_18
  refine rp [.cp (pre := fun w => w.heap[b_7]? = some (.cells cur_10 3 (0, 0)) ∧ w.heap[b_13]? = some (.cells cur_16 3 (0, 0))) (less_fn l_11 l_17 b_7 n_9 cap_8 b_13 n_15 cap_14 cur_10 cur_16 hs_12n hs_18n hs_12r hs_18r hs_12o hs_18o (by omega) (by omega)) [(1, (b_7, Obj.cells cur_10 3 (0, 0))), (0, (b_13, Obj.cells cur_16 3 (0, 0)))] (fun w hb hd => ⟨hd.1, hd.2.1⟩), .v] H8 kr fun gs9 w9 H9 => ?_
  show WPs _ _ _ _ [] _ _
  clear H8
  refine s_nil ?_
  refine g_ret kr ?_
  show ∃ vs, Res _ _ _ _ vs ∧ _
  refine ⟨[.bool (ls l_11 l_17)], (.tmp (.bool (ls l_11 l_17)) kr .nil), ?_, H9.below⟩
  exact congrArg Value.bool (show ls l_11 l_17 = highB a by unfold ls highB; rw [hs_12b, hs_18s.1, hs_6b])
set_option maxRecDepth 100000 in
set_option maxHeartbeats 2000000 in
theorem issig_fn (r s : Nat) (hr : r < big) (hs : s < big) (v : Int) : Fn Tryd.prog 17 #[sgv r s (v)] (.bool (mayB r s v)) := by
  refine Fn.intro (c := codeOf Tryd.f17) [.tmp 2] 27 Tryd.func17 kr kr kr fun w => ?_
  have H0 := St.start w
  refine rS [.b, .v] H0 kr fun gs1 w1 H1 => ?_
  clear H0
  refine g_sreg [0, 1, 2, 3, 4, 5, 6, 7, 8, 9, 10, 11, 12, 13, 14, 15, 16, 17, 18, 19, 20, 21, 22, 23, 24] kr kr ?_
  refine rp [.v, .l 0, .c (issec_fn r hr)] H1 kr fun gs2 w2 H2 => ?_
  show WPs _ _ _ _ [3, 4, 5, 6, 7, 8, 9, 10, 11, 12, 13, 14, 15, 16, 17, 18, 19, 20, 21, 22, 23, 24] _ _
  clear H1
  rcases (Bool.eq_false_or_eq_true (inN r)).symm with hb1 | hb1
  · skip
    refine s_now 5 (v := .bool (inN r)) (v' := .bool false) (bool_eq hb1) kr ?_
    refine rp [.v, .n, .n, .n, .v, .v, .n, .n, .n, .n, .v, .v, .n, .n, .n, .v, .v, .n, .n, .n, .v, .v] H2 kr fun gs3 w3 H3 => ?_
    show WPs _ _ _ _ [] _ _
    clear H2
    refine s_nil ?_
    refine g_ret kr ?_
    show ∃ vs, Res _ _ _ _ vs ∧ _
    refine ⟨[.bool false], (.tmp (.bool false) kr .nil), ?_, H3.below⟩
    exact congrArg Value.bool (by unfold mayB; rw [low_eq s hs]; simp [hb1] <;> omega)
  · skip
    refine s_now 5 (v := .bool (inN r)) (v' := .bool true) (bool_eq hb1) kr ?_
    refine rp [.v, .v, .l 0, .c (issec_fn s hs)] H2 kr fun gs4 w4 H4 => ?_
    show WPs _ _ _ _ [7, 8, 9, 10, 11, 12, 13, 14, 15, 16, 17, 18, 19, 20, 21, 22, 23, 24] _ _
    clear H2
    rcases (Bool.eq_false_or_eq_true (inN s)).symm with hb2 | hb2
    · skip
      refine s_now 9 (v := .bool (inN s)) (v' := .bool false) (bool_eq hb2) kr ?_
      refine rp [.v, .v, .n, .n, .n, .n, .v, .v, .n, .n, .n, .v, .v, .n, .n, .n, .v, .v] H4 kr fun gs5 w5 H5 => ?_
      show WPs _ _ _ _ [] _ _
      clear H4
      refine s_nil ?_
      refine g_ret kr ?_
      show ∃ vs, Res _ _ _ _ vs ∧ _
      refine ⟨[.bool false], (.tmp (.bool false) kr .nil), ?_, H5.below⟩
      exact congrArg Value.bool (by unfold mayB; rw [low_eq s hs]; simp [hb1, hb2] <;> omega)
    · skip
      refine s_now 9 (v := .bool (inN s)) (v' := .bool true) (bool_eq hb2) kr ?_
      refine rp [.v, .v, .v, .l 0, .c (high_fn s hs)] H4 kr fun gs6 w6 H6 => ?_
      show WPs _ _ _ _ [12, 13, 14, 15, 16, 17, 18, 19, 20, 21, 22, 23, 24] _ _
      clear H4
      rcases (Bool.eq_false_or_eq_true (highB s)).symm with hb3 | hb3
      · skip
        refine s_now 14 (v := .bool (highB s)) (v' := .bool false) (bool_eq hb3) kr ?_
        refine rp [.v, .v, .v, .v, .l 0] H6 kr fun gs7 w7 H7 => ?_
        show WPs _ _ _ _ [17, 18, 19, 20, 21, 22, 23, 24] _ _
        clear H6
        by_cases hc1 : (v : Int) ≥ 0
        · skip
          refine rp [.e (v := .bool (decide (0 ≤ v))) (v' := .bool true) (bool_eq (decide_eq_true (by omega))), .v, .v, .v, .l 0] H7 kr fun gs8 w8 H8 => ?_
          show WPs _ _ _ _ [22, 23, 24] _ _
          clear H7
          by_cases hc2 : (v : Int) ≤ 1
          · skip
            refine rp [.e (v := .bool (decide (v ≤ 1))) (v' := .bool true) (bool_eq (decide_eq_true (by omega))), .v, .v] H8 kr fun gs9 w9 H9 => ?_
            show WPs _ _ _ _ [] _ _
            clear H8
            refine s_nil ?_
            refine g_ret kr ?_
            show ∃ vs, Res _ _ _ _ vs ∧ _
            refine ⟨[.bool true], (.tmp (.bool true) kr .nil), ?_, H9.below⟩
            exact congrArg Value.bool (by unfold mayB; rw [low_eq s hs]; simp [hb1, hb2, hb3] <;> omega)
          · skip
            refine rp [.e (v := .bool (decide (v ≤ 1))) (v' := .bool false) (bool_eq (decide_eq_false (by omega))), .v, .v] H8 kr fun gs10 w10 H10 => ?_
            show WPs _ _ _ _ [] _ _
            clear H8
            refine s_nil ?_
            refine g_ret kr ?_
            show ∃ vs, Res _ _ _ _ vs ∧ _
            refine ⟨[.bool false], (.tmp (.bool false) kr .nil), ?_, H10.below⟩
            exact congrArg Value.bool (by unfold mayB; rw [low_eq s hs]; simp [hb1, hb2, hb3] <;> omega)
        · skip
          refine rp [.e (v := .bool (decide (0 ≤ v))) (v' := .bool false) (bool_eq (decide_eq_false (by omega))), .v, .v, .n, .n, .n, .v, .v] H7 kr fun gs11 w11 H11 => ?_
          show WPs _ _ _ _ [] _ _
          clear H7
          refine s_nil ?_
          refine g_ret kr ?_
          show ∃ vs, Res _ _ _ _ vs ∧ _
          refine ⟨[.bool false], (.tmp (.bool false) kr .nil), ?_, H11.below⟩
          exact congrArg Value.bool (by unfold mayB; rw [low_eq s hs]; simp [hb1, hb2, hb3] <;> omega)
      · skip
        refine s_now 14 (v := .bool (highB s)) (v' := .bool true) (bool_eq hb3) kr ?_
        refine rp [.v, .v, .v, .n, .n, .n, .v, .v, .n, .n, .n, .v, .v] H6 kr fun gs12 w12 H12 => ?_
        show WPs _ _ _ _ [] _ _
        clear H6
        refine s_nil ?_
        refine g_ret kr ?_
        show ∃ vs, Res _ _ _ _ vs ∧ _
        refine ⟨[.bool false], (.tmp (.bool false) kr .nil), ?_, H12.below⟩
        exact congrArg Value.bool (by unfold mayB; rw [low_eq s hs]; simp [hb1, hb2, hb3] <;> omega)
end Go.Proofs.YtmmloghbnpfedaaDoor
