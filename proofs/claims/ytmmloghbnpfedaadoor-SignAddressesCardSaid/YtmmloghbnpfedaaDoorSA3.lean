/-
  Texts of the proof, part 3.
-/
import Derived.Laws.StructEq
import Derived.ChangeKeysEq
import Derived.Test.YtmmloghbnpfedaaDoorSA2

namespace Go.Proofs.YtmmloghbnpfedaaDoor
open Go
set_option linter.unusedVariables false
/-- Digit i, as a whole number. -/
def dAt (ds : List Nat) (i : Nat) : Int := ((ds.getD i 0 : Nat) : Int)
theorem dAt_lo {l : List Nat} (i : Nat) : 0 ≤ dAt l i := by unfold dAt; omega
theorem dAt_hi {l : List Nat} (h : Ok l) (i : Nat) : dAt l i ≤ 65535 := by have := ok_getD h i; unfold dAt; omega
/-- What the rounds of a sum keep. -/
structure SumI (x y l : List Nat) (k : Nat) (c : Int) : Prop where
  len : l.length = k
  ok : Ok l
  c0 : 0 ≤ c
  c1 : c ≤ 1
  val : (vl l : Int) + 65536 ^ k * c = vl (x.take k) + vl (y.take k)
  top : k ≤ max x.length y.length + 1
  last : k = max x.length y.length + 1 → c = 0
theorem SumI.start (x y : List Nat) : SumI x y [] 0 0 := ⟨rfl, (fun d h => by cases h), by omega, by omega, by simp [vl], by omega, by omega⟩
theorem SumI.next {x y l : List Nat} {k : Nat} {c : Int} (h : SumI x y l k c) (hx : Ok x) (hy : Ok y) (hgo : k < x.length ∨ k < y.length ∨ 0 < c) :
    SumI x y (l ++ [((dAt x k + dAt y k + c) % 65536).toNat]) (k + 1) ((dAt x k + dAt y k + c) / 65536) := by
  have x0 := dAt_lo (l := x) k; have x1 := dAt_hi hx k
  have y0 := dAt_lo (l := y) k; have y1 := dAt_hi hy k
  obtain ⟨e1, e2, c0, c1, ev, et, el⟩ := h
  have hend : k = max x.length y.length → dAt x k = 0 ∧ dAt y k = 0 := fun e => by
    unfold dAt; simp [List.getD, List.getElem?_eq_none (show x.length ≤ k by omega), List.getElem?_eq_none (show y.length ≤ k by omega)]
  refine ⟨by simp [e1], ok_append e2 (fun d hd => by simp at hd; omega), by omega, by omega, ?_, ?_, ?_⟩
  · rw [vl_snoc, e1, vl_take', vl_take', Int.pow_succ]
    have hdx : dAt x k = ((x.getD k 0 : Nat) : Int) := rfl
    have hdy : dAt y k = ((y.getD k 0 : Nat) : Int) := rfl
    have hs : (((dAt x k + dAt y k + c) % 65536).toNat : Int) = (dAt x k + dAt y k + c) % 65536 := by omega
    have hm : dAt x k + dAt y k + c = 65536 * ((dAt x k + dAt y k + c) / 65536) + (dAt x k + dAt y k + c) % 65536 := by omega
    generalize hq : (dAt x k + dAt y k + c) / 65536 = q at *
    generalize hr : (dAt x k + dAt y k + c) % 65536 = r at *
    have e3 : (65536 : Int) ^ k * dAt x k + 65536 ^ k * dAt y k + 65536 ^ k * c = 65536 ^ k * 65536 * q + 65536 ^ k * r := by
      rw [← Int.mul_add, ← Int.mul_add, hm, Int.mul_add, Int.mul_assoc]
    have g1 : ((vl l + 65536 ^ k * r.toNat : Nat) : Int) = (vl l : Int) + 65536 ^ k * r := by rw [Int.natCast_add, Int.natCast_mul, Int.natCast_pow, hs]; rfl
    have g2 : ((vl (x.take k) + 65536 ^ k * x.getD k 0 : Nat) : Int) = (vl (x.take k) : Int) + 65536 ^ k * dAt x k := by rw [Int.natCast_add, Int.natCast_mul, Int.natCast_pow]; rfl
    have g3 : ((vl (y.take k) + 65536 ^ k * y.getD k 0 : Nat) : Int) = (vl (y.take k) : Int) + 65536 ^ k * dAt y k := by rw [Int.natCast_add, Int.natCast_mul, Int.natCast_pow]; rfl
    rw [g1, g2, g3]
    omega
  · rcases Nat.lt_or_ge k (max x.length y.length + 1) with h | h
    · omega
    · have := el (by omega); omega
  · intro e
    have := hend (by omega)
    omega
theorem SumI.fin {x y l : List Nat} {k : Nat} {c : Int} (h : SumI x y l k c) (hx : ¬ k < x.length) (hy : ¬ k < y.length) (hc : ¬ 0 < c) : vl l = vl x + vl y := by
  obtain ⟨e1, e2, c0, c1, ev, et, el⟩ := h
  rw [show c = 0 by omega, List.take_of_length_le (by omega), List.take_of_length_le (by omega)] at ev
  simp at ev; omega
def ls (x y : List Nat) : Bool := decide (vl x < vl y)
theorem vl_ext : ∀ (x y : List Nat), (∀ t, dAt x t = dAt y t) → vl x = vl y
  | [], [], _ => rfl
  | [], b :: y, h => by
    have h0 := h 0
    have ih := vl_ext [] y (fun t => by have := h (t + 1); simpa [dAt] using this)
    simp [dAt] at h0
    simp only [vl] at ih ⊢
    omega
  | a :: x, [], h => by
    have h0 := h 0
    have ih := vl_ext x [] (fun t => by have := h (t + 1); simpa [dAt] using this)
    simp [dAt] at h0
    simp only [vl] at ih ⊢
    omega
  | a :: x, b :: y, h => by
    have h0 := h 0
    have ih := vl_ext x y (fun t => by have := h (t + 1); simpa [dAt] using this)
    simp [dAt] at h0
    simp only [vl]
    omega
theorem dAt_drop (l : List Nat) (k t : Nat) : dAt (l.drop k) t = dAt l (k + t) := by unfold dAt; simp [List.getD, List.getElem?_drop]
theorem vl_at (l : List Nat) (j : Nat) : vl l = vl (l.take j) + 65536 ^ j * l.getD j 0 + 65536 ^ (j + 1) * vl (l.drop (j + 1)) := by
  rw [vl_split l (j + 1), vl_take']
theorem lt_of_digit {x y : List Nat} (hx : Ok x) (hy : Ok y) (j : Nat) (ht : ∀ t, j < t → dAt x t = dAt y t) (h : dAt x j < dAt y j) : vl x < vl y := by
  have e : vl (x.drop (j + 1)) = vl (y.drop (j + 1)) := vl_ext _ _ (fun t => by rw [dAt_drop, dAt_drop]; exact ht _ (by omega))
  have hl := vl_lt (ok_take hx j)
  have h3 : 65536 ^ (x.take j).length ≤ 65536 ^ j := Nat.pow_le_pow_right (by omega) (List.length_take_le _ _)
  have hd : x.getD j 0 + 1 ≤ y.getD j 0 := by unfold dAt at h; omega
  have hm : 65536 ^ j * (x.getD j 0 + 1) ≤ 65536 ^ j * y.getD j 0 := Nat.mul_le_mul_left _ hd
  rw [Nat.mul_add, Nat.mul_one] at hm
  rw [vl_at x j, vl_at y j, e]
  omega
theorem ls_digit {x y : List Nat} (hx : Ok x) (hy : Ok y) (j : Nat) (ht : ∀ t, j < t → dAt x t = dAt y t) (h : dAt x j ≠ dAt y j) : decide (dAt x j < dAt y j) = ls x y := by
  unfold ls
  rcases Int.lt_or_gt_of_ne h with k | k
  · have := lt_of_digit hx hy j ht k
    simp [k, this]
  · have := lt_of_digit hy hx j (fun t h => (ht t h).symm) k
    have k' : ¬ dAt x j < dAt y j := by omega
    have this' : ¬ vl x < vl y := by omega
    simp [k', this']
theorem ls_none {x y : List Nat} (ht : ∀ t, dAt x t = dAt y t) : ls x y = false := by
  unfold ls; rw [vl_ext x y ht]; simp
/-- All digits from j on are alike. -/
def Same (x y : List Nat) (j : Int) : Prop := ∀ t : Nat, j < t → dAt x t = dAt y t
theorem Same.start (x y : List Nat) (n : Int) (h1 : (x.length : Int) ≤ n) (h2 : (y.length : Int) ≤ n) : Same x y (n - 1) := fun t ht => by
  unfold dAt; simp [List.getD, List.getElem?_eq_none (show x.length ≤ t by omega), List.getElem?_eq_none (show y.length ≤ t by omega)]
theorem Same.down {x y : List Nat} {j : Nat} (h : Same x y j) (e : dAt x j = dAt y j) : Same x y ((j : Int) - 1) := fun t ht => by
  rcases Nat.lt_or_ge j t with k | k
  · exact h t (by omega)
  · rw [show t = j by omega]; exact e
structure TakeI (x y l : List Nat) (k : Nat) (c : Int) : Prop where
  len : l.length = k
  ok : Ok l
  c0 : 0 ≤ c
  c1 : c ≤ 1
  val : (vl l : Int) - 65536 ^ k * c = vl (x.take k) - vl (y.take k)
theorem TakeI.start (x y : List Nat) : TakeI x y [] 0 0 := ⟨rfl, (fun d h => by cases h), by omega, by omega, by simp [vl]⟩
theorem TakeI.step {x y l : List Nat} {k : Nat} {c : Int} (h : TakeI x y l k c) (r q : Int) (hr0 : 0 ≤ r) (hr1 : r < 65536) (hq0 : 0 ≤ q) (hq1 : q ≤ 1) (hm : dAt x k - dAt y k - c = r - 65536 * q) :
    TakeI x y (l ++ [r.toNat]) (k + 1) q := by
  obtain ⟨e1, e2, c0, c1, ev⟩ := h
  refine ⟨by simp [e1], ok_append e2 (fun d hd => by simp at hd; omega), hq0, hq1, ?_⟩
  rw [vl_snoc, e1, vl_take', vl_take', Int.pow_succ]
  have hs : ((r.toNat : Nat) : Int) = r := by omega
  have e3 : (65536 : Int) ^ k * dAt x k - 65536 ^ k * dAt y k - 65536 ^ k * c = 65536 ^ k * r - 65536 ^ k * 65536 * q := by
    rw [← Int.mul_sub, ← Int.mul_sub, hm, Int.mul_sub, Int.mul_assoc]
  have g1 : ((vl l + 65536 ^ k * r.toNat : Nat) : Int) = (vl l : Int) + 65536 ^ k * r := by rw [Int.natCast_add, Int.natCast_mul, Int.natCast_pow, hs]; rfl
  have g2 : ((vl (x.take k) + 65536 ^ k * x.getD k 0 : Nat) : Int) = (vl (x.take k) : Int) + 65536 ^ k * dAt x k := by rw [Int.natCast_add, Int.natCast_mul, Int.natCast_pow]; rfl
  have g3 : ((vl (y.take k) + 65536 ^ k * y.getD k 0 : Nat) : Int) = (vl (y.take k) : Int) + 65536 ^ k * dAt y k := by rw [Int.natCast_add, Int.natCast_mul, Int.natCast_pow]; rfl
  rw [g1, g2, g3]
  omega
theorem TakeI.fin {x y l : List Nat} {c : Int} (h : TakeI x y l x.length c) (hx : Ok x) (hy : Ok y) (hle : vl y ≤ vl x) : vl l = vl x - vl y := by
  obtain ⟨e1, e2, c0, c1, ev⟩ := h
  have b1 := vl_lt hx
  have b2 := vl_lt e2
  rw [e1] at b2
  have e3 : vl (y.take x.length) = vl y := by rw [vl_take_mod hy, Nat.mod_eq_of_lt (by omega)]
  rw [e3, List.take_of_length_le (Nat.le_refl _)] at ev
  have hp : ((65536 ^ x.length : Nat) : Int) = 65536 ^ x.length := by rw [Int.natCast_pow]; rfl
  have hc : c = 0 ∨ c = 1 := by omega
  rcases hc with rfl | rfl
  · omega
  · exfalso; omega
theorem dg_vl {l : List Nat} (h : Ok l) (i : Nat) : dg (vl l) i = l.getD i 0 := by
  have e := vl_at l i
  have hl := vl_lt (ok_take h i)
  have h3 : 65536 ^ (l.take i).length ≤ 65536 ^ i := Nat.pow_le_pow_right (by omega) (List.length_take_le _ _)
  have hd := ok_getD h i
  have e2 : vl l = vl (l.take i) + 65536 ^ i * (l.getD i 0 + 65536 * vl (l.drop (i + 1))) := by
    rw [e, Nat.pow_succ, Nat.mul_add, Nat.mul_assoc]; omega
  unfold dg
  rw [e2, Nat.add_mul_div_left _ _ (Nat.pow_pos (by omega)), Nat.div_eq_of_lt (by omega)]
  omega
/-- Word q, when the digits from j on have come. -/
def ow (V j q : Nat) : Nat := if 4 * q + 4 ≤ j then 0 else V / 65536 ^ (max j (4 * q)) % 65536 ^ (4 * q + 4 - max j (4 * q))
theorem ow_mod0 (V : Nat) : w0 (V % big) = w0 V := by unfold w0 big; omega
theorem ow_mod1 (V : Nat) : w1 (V % big) = w1 V := by unfold w1 big; omega
theorem ow_mod2 (V : Nat) : w2 (V % big) = w2 V := by unfold w2 big; omega
theorem ow_mod3 (V : Nat) : w3 (V % big) = w3 V := by unfold w3 big; omega
theorem vl_set : ∀ (l : List Nat) (j d : Nat), j < l.length → vl (l.set j d) + 65536 ^ j * l.getD j 0 = vl l + 65536 ^ j * d
  | [], j, d, h => by simp at h
  | a :: r, 0, d, _ => by simp [vl]; omega
  | a :: r, j + 1, d, h => by
    have ih := vl_set r j d (by simpa using h)
    simp only [List.set_cons_succ, vl, List.getD_cons_succ, Nat.pow_succ]
    have e1 : 65536 ^ j * 65536 * r.getD j 0 = 65536 * (65536 ^ j * r.getD j 0) := by rw [Nat.mul_comm (65536 ^ j) 65536, Nat.mul_assoc]
    have e2 : 65536 ^ j * 65536 * d = 65536 * (65536 ^ j * d) := by rw [Nat.mul_comm (65536 ^ j) 65536, Nat.mul_assoc]
    rw [e1, e2]
    omega
theorem ok_set {l : List Nat} (h : Ok l) (j d : Nat) (hd : d < 65536) : Ok (l.set j d) := fun x hx => by
  rcases List.mem_or_eq_of_mem_set hx with h1 | h1
  · exact h x h1
  · rw [h1]; exact hd
theorem vl_zeros (n : Nat) : vl (List.replicate n 0) = 0 := by
  induction n with
  | zero => rfl
  | succ n ih => rw [List.replicate_succ, vl, ih]
theorem ok_zeros (n : Nat) : Ok (List.replicate n 0) := fun d hd => by
  have := List.eq_of_mem_replicate hd; omega
/-- What the inner rounds keep: out, the carry c, at place i of x and k of y. -/
structure MulI (x y out : List Nat) (i k c : Nat) : Prop where
  len : out.length = x.length + y.length + 1
  ok : Ok out
  hi : i < x.length
  cw : c < 65536
  val : vl out + 65536 ^ (i + k) * c = vl (x.take i) * vl y + 65536 ^ i * (x.getD i 0 * vl (y.take k))
  top : k ≤ y.length + 1
  last : k = y.length + 1 → c = 0
theorem MulI.start {x y out : List Nat} {i : Nat} (hl : out.length = x.length + y.length + 1) (hok : Ok out) (hi : i < x.length) (hv : vl out = vl (x.take i) * vl y) : MulI x y out i 0 0 :=
  ⟨hl, hok, hi, by omega, by simp [vl, hv], by omega, by omega⟩
theorem MulI.next {x y out : List Nat} {i k c : Nat} (h : MulI x y out i k c) (hx : Ok x) (hy : Ok y) (hgo : k < y.length ∨ 0 < c) :
    i + k < out.length ∧ MulI x y (out.set (i + k) ((out.getD (i + k) 0 + x.getD i 0 * y.getD k 0 + c) % 65536)) i (k + 1) ((out.getD (i + k) 0 + x.getD i 0 * y.getD k 0 + c) / 65536) := by
  obtain ⟨e1, e2, e3, e4, ev, et, el⟩ := h
  have hk : k ≤ y.length := by
    rcases Nat.lt_or_ge k (y.length + 1) with h | h
    · omega
    · have := el (by omega); omega
  have hij : i + k < out.length := by omega
  refine ⟨hij, ?_⟩
  have ho := ok_getD e2 (i + k)
  have hxi := ok_getD hx i
  have hyk := ok_getD hy k
  generalize hn : out.getD (i + k) 0 + x.getD i 0 * y.getD k 0 + c = n
  have hm : x.getD i 0 * y.getD k 0 ≤ 65535 * 65535 := Nat.mul_le_mul (by omega) (by omega)
  have hset := vl_set out (i + k) (n % 65536) hij
  have hnew : vl (out.set (i + k) (n % 65536)) + 65536 ^ (i + (k + 1)) * (n / 65536) = vl (x.take i) * vl y + 65536 ^ i * (x.getD i 0 * vl (y.take (k + 1))) := by
    have hp : 65536 ^ (i + (k + 1)) * (n / 65536) + 65536 ^ (i + k) * (n % 65536) = 65536 ^ (i + k) * n := by
      rw [show i + (k + 1) = (i + k) + 1 by omega, Nat.pow_succ, Nat.mul_assoc, ← Nat.mul_add]
      congr 1; omega
    have ht : 65536 ^ i * (x.getD i 0 * vl (y.take (k + 1))) = 65536 ^ i * (x.getD i 0 * vl (y.take k)) + 65536 ^ (i + k) * (x.getD i 0 * y.getD k 0) := by
      rw [vl_take', Nat.mul_add, Nat.mul_add, Nat.pow_add, Nat.mul_left_comm (x.getD i 0), Nat.mul_assoc (65536 ^ i)]
    have hs : 65536 ^ (i + k) * n = 65536 ^ (i + k) * out.getD (i + k) 0 + 65536 ^ (i + k) * (x.getD i 0 * y.getD k 0) + 65536 ^ (i + k) * c := by
      rw [← hn, Nat.mul_add, Nat.mul_add]
    rw [ht]
    omega
  refine ⟨by simpa using e1, ok_set e2 _ _ (Nat.mod_lt _ (by omega)), e3, ?_, hnew, by omega, ?_⟩
  · omega
  · intro hkl
    have hky : k = y.length := by omega
    -- at the end the number has no digit there
    have hb : vl (x.take i) * vl y + 65536 ^ i * (x.getD i 0 * vl (y.take (k + 1))) = vl (x.take (i + 1)) * vl y := by
      rw [List.take_of_length_le (l := y) (by omega), vl_take' x, Nat.add_mul, Nat.mul_assoc]
    have b1 := vl_lt (ok_take hx (i + 1))
    have b2 : 65536 ^ (x.take (i + 1)).length ≤ 65536 ^ (i + 1) := Nat.pow_le_pow_right (by omega) (List.length_take_le _ _)
    have b3 := vl_lt hy
    have b4 : vl (x.take (i + 1)) * vl y < 65536 ^ (i + 1) * 65536 ^ y.length := by
      exact Nat.mul_lt_mul_of_lt_of_le (by omega) (Nat.le_of_lt b3) (Nat.pow_pos (by omega))
    rw [← Nat.pow_add] at b4
    rw [hb] at hnew
    rcases Nat.eq_zero_or_pos (n / 65536) with hz | hz
    · exact hz
    · exfalso
      have h5 : 65536 ^ (i + (k + 1)) * 1 ≤ 65536 ^ (i + (k + 1)) * (n / 65536) := Nat.mul_le_mul_left _ hz
      rw [show i + (k + 1) = i + 1 + y.length by omega] at h5 hnew
      omega
theorem MulI.fin {x y out : List Nat} {i k c : Nat} (h : MulI x y out i k c) (hk : ¬ k < y.length) (hc : ¬ 0 < c) : vl out = vl (x.take (i + 1)) * vl y := by
  obtain ⟨e1, e2, e3, e4, ev, et, el⟩ := h
  rw [show c = 0 by omega, List.take_of_length_le (l := y) (by omega)] at ev
  rw [vl_take', Nat.add_mul, Nat.mul_assoc]
  simpa using ev
theorem SumI.go {x y l : List Nat} {k c : Nat} (h : SumI x y l k (c : Int)) (hx : Ok x) (hy : Ok y) (hgo : k < x.length ∨ k < y.length ∨ 0 < c) :
    SumI x y (l ++ [(x.getD k 0 + y.getD k 0 + c) % 65536]) (k + 1) (((x.getD k 0 + y.getD k 0 + c) / 65536 : Nat) : Int) := by
  have hn := h.next hx hy (by omega)
  unfold dAt at hn
  rw [show ((((x.getD k 0 : Nat) : Int) + ((y.getD k 0 : Nat) : Int) + (c : Int)) % 65536).toNat = (x.getD k 0 + y.getD k 0 + c) % 65536 by omega,
    show (((x.getD k 0 : Nat) : Int) + ((y.getD k 0 : Nat) : Int) + (c : Int)) / 65536 = (((x.getD k 0 + y.getD k 0 + c) / 65536 : Nat) : Int) by omega] at hn
  exact hn
theorem SumI.done {x y l : List Nat} {k c : Nat} (h : SumI x y l k (c : Int)) (hx : ¬ k < x.length) (hy : ¬ k < y.length) (hc : ¬ 0 < c) : vl l = vl x + vl y := h.fin hx hy (by omega)
/-- Bit i of a number in digits. -/
theorem bit_digit {a : List Nat} (h : Ok a) (i : Nat) : a.getD (i / 16) 0 / 2 ^ (i % 16) % 2 = vl a / 2 ^ i % 2 := by
  rw [← dg_vl h (i / 16)]
  unfold dg
  have e : vl a / 2 ^ i = vl a / 65536 ^ (i / 16) / 2 ^ (i % 16) := by
    rw [Nat.div_div_eq_div_mul, show (65536 : Nat) = 2 ^ 16 from rfl, ← Nat.pow_mul, ← Nat.pow_add]
    congr 2; omega
  rw [e]
  generalize vl a / 65536 ^ (i / 16) = X
  have hr : i % 16 < 16 := Nat.mod_lt _ (by omega)
  rw [show (65536 : Nat) = 2 ^ (i % 16) * 2 ^ (16 - i % 16) by rw [← Nat.pow_add, show i % 16 + (16 - i % 16) = 16 by omega], Nat.mod_mul_right_div_self]
  obtain ⟨m, hm⟩ : ∃ m, 16 - i % 16 = m + 1 := ⟨15 - i % 16, by omega⟩
  rw [hm, Nat.pow_succ, Nat.mul_comm (2 ^ m) 2, Nat.mod_mul_right_mod]
theorem two_mod (n m _k : Nat) : 2 * (n % m) % m = 2 * n % m := by rw [Nat.mul_mod, Nat.mod_mod, ← Nat.mul_mod]
theorem left_step {N M v j : Nat} (hM : 0 < M) (hv : v = N / 2 ^ (j + 1) % M) : (M ≤ 2 * v + N / 2 ^ j % 2 ∧ 2 * v + N / 2 ^ j % 2 < 2 * M ∧ N / 2 ^ j % M = 2 * v + N / 2 ^ j % 2 - M) ∨ (2 * v + N / 2 ^ j % 2 < M ∧ N / 2 ^ j % M = 2 * v + N / 2 ^ j % 2) := by
  have h1 : v < M := by rw [hv]; exact Nat.mod_lt _ hM
  have h2 : N / 2 ^ j % 2 < 2 := Nat.mod_lt _ (by omega)
  have h3 : N / 2 ^ (j + 1) = N / 2 ^ j / 2 := by rw [Nat.pow_succ, Nat.div_div_eq_div_mul]
  have h4 : N / 2 ^ j % M = (2 * v + N / 2 ^ j % 2) % M := by
    have h6 : ∀ K b : Nat, (2 * (K % M) + b) % M = (2 * K + b) % M := fun K b => by
      rw [Nat.add_mod, two_mod K M 0, ← Nat.add_mod]
    rw [hv, h3, h6]
    congr 1; omega
  rw [h4]
  rcases Nat.lt_or_ge (2 * v + N / 2 ^ j % 2) M with h | h
  · exact .inr ⟨h, Nat.mod_eq_of_lt h⟩
  · exact .inl ⟨h, by omega, by rw [Nat.mod_eq_sub_mod h, Nat.mod_eq_of_lt (by omega)]⟩
theorem vl_dropLast {l : List Nat} (h1 : 1 < l.length) (h0 : l.getD (l.length - 1) 0 = 0) : vl (l.take (l.length - 1)) = vl l := by
  have e := vl_take' l (l.length - 1)
  rw [h0, Nat.mul_zero, Nat.add_zero, show l.length - 1 + 1 = l.length by omega, List.take_of_length_le (Nat.le_refl _)] at e
  exact e.symm
theorem vl_len {l m : List Nat} (hm : Ok m) (h1 : 1 < l.length) (h0 : l.getD (l.length - 1) 0 ≠ 0) (hlt : vl l < vl m) : l.length ≤ m.length := by
  have e := vl_take' l (l.length - 1)
  rw [show l.length - 1 + 1 = l.length by omega, List.take_of_length_le (Nat.le_refl _)] at e
  have h2 := vl_lt hm
  rcases Nat.lt_or_ge m.length l.length with h | h
  · have h3 : 65536 ^ m.length ≤ 65536 ^ (l.length - 1) := Nat.pow_le_pow_right (by omega) (by omega)
    have h4 : 65536 ^ (l.length - 1) * 1 ≤ 65536 ^ (l.length - 1) * l.getD (l.length - 1) 0 := Nat.mul_le_mul_left _ (by omega)
    omega
  · exact h
theorem cellsD_take (l : List Nat) (k : Nat) : (l.map fun d => Value.int .i64 ((d : Nat) : Int)).take k = (l.take k).map fun d => Value.int .i64 ((d : Nat) : Int) := by rw [List.map_take]
/-- The words of a number in digits. -/
theorem word_digits {x : List Nat} (h : Ok x) (q : Nat) : ((x.getD (4 * q + 3) 0 * 65536 + x.getD (4 * q + 2) 0) * 65536 + x.getD (4 * q + 1) 0) * 65536 + x.getD (4 * q) 0 = vl x / 65536 ^ (4 * q) % 18446744073709551616 := by
  rw [← dg_vl h (4 * q + 3), ← dg_vl h (4 * q + 2), ← dg_vl h (4 * q + 1), ← dg_vl h (4 * q)]
  unfold dg
  rw [Nat.pow_add, Nat.pow_add 65536 (4 * q) 2, Nat.pow_add 65536 (4 * q) 1, ← Nat.div_div_eq_div_mul, ← Nat.div_div_eq_div_mul, ← Nat.div_div_eq_div_mul]
  generalize vl x / 65536 ^ (4 * q) = X
  show ((X / 281474976710656 % 65536 * 65536 + X / 4294967296 % 65536) * 65536 + X / 65536 % 65536) * 65536 + X % 65536 = _
  omega
theorem uv_digits {x : List Nat} (h : Ok x) (g : Nat → Nat) (hg : ∀ i, g i = x.getD i 0) :
    Value.agg #[.int .u64 (((((g 3 * 65536 + g 2) * 65536 + g 1) * 65536 + g 0 : Nat)) : Int), .int .u64 (((((g 7 * 65536 + g 6) * 65536 + g 5) * 65536 + g 4 : Nat)) : Int), .int .u64 (((((g 11 * 65536 + g 10) * 65536 + g 9) * 65536 + g 8 : Nat)) : Int), .int .u64 (((((g 15 * 65536 + g 14) * 65536 + g 13) * 65536 + g 12 : Nat)) : Int)] = uv (vl x % big) := by
  have e0 := word_digits h 0; have e1 := word_digits h 1; have e2 := word_digits h 2; have e3 := word_digits h 3
  simp only [hg]
  have f0 : ((((x.getD 3 0 * 65536 + x.getD 2 0) * 65536 + x.getD 1 0) * 65536 + x.getD 0 0 : Nat) : Int) = w0 (vl x % big) := by
    rw [ow_mod0]; unfold w0; rw [e0, Nat.mul_zero, Nat.pow_zero, Nat.div_one]
  have f1 : ((((x.getD 7 0 * 65536 + x.getD 6 0) * 65536 + x.getD 5 0) * 65536 + x.getD 4 0 : Nat) : Int) = w1 (vl x % big) := by
    rw [ow_mod1]; unfold w1; rw [e1]
  have f2 : ((((x.getD 11 0 * 65536 + x.getD 10 0) * 65536 + x.getD 9 0) * 65536 + x.getD 8 0 : Nat) : Int) = w2 (vl x % big) := by
    rw [ow_mod2]; unfold w2; rw [e2]
  have f3 : ((((x.getD 15 0 * 65536 + x.getD 14 0) * 65536 + x.getD 13 0) * 65536 + x.getD 12 0 : Nat) : Int) = w3 (vl x % big) := by
    rw [ow_mod3]; unfold w3; rw [e3]
  rw [f0, f1, f2, f3]
end Go.Proofs.YtmmloghbnpfedaaDoor

namespace Go.Proofs.YtmmloghbnpfedaaDoor
open Go Go.RowKit
set_option linter.unusedVariables false
set_option maxRecDepth 100000 in
set_option maxHeartbeats 2000000 in
theorem digit_fn (x : List Nat) (ba nx ca : Nat) (curA : Array Value) (hnx : nx = List.length x) (hA : Rw 1 curA ca nx (cellsD x)) (lx : List.length x ≤ 100000) (i : Nat) (hi : i ≤ 100000) : FnP Tryd.prog 71 #[.slice (some ⟨ba, 0, none⟩) nx ca, .int .i64 ((i : Nat) : Int)] (fun w => w.heap[ba]? = some (.cells curA 3 (0, 0))) (.int .i64 ((List.getD x i 0 : Nat) : Int)) := by
  subst hnx
  refine FnP.intro (c := codeOf Tryd.f71) [.tmp 4] 13 Tryd.func71 kr kr kr fun w hpre => ?_
  have H0 := St.start w
  refine rS [.v] H0 kr fun gs1 w1 H1 => ?_
  clear H0
  refine g_seq kr ?_
  refine g_sreg [0, 1, 2, 3] kr kr ?_
  refine rp [.v, .v, .v] H1 kr fun gs2 w2 H2 => ?_
  show WPs _ _ _ _ [3] _ _
  clear H1
  by_cases hc1 : (i : Nat) < List.length x
  · skip
    refine rp [.e (v := .bool (decide (((i : Nat) : Int) < ((List.length x : Nat) : Int)))) (v' := .bool true) (bool_eq (decide_eq_true (by omega)))] H2 kr fun gs3 w3 H3 => ?_
    show WPs _ _ _ _ [] _ _
    clear H2
    refine s_nil ?_
    refine g_cond_t kr kr ?_
    refine rS [.v, .v, .o (ins := [((.tmp 9), .slice (some ⟨ba, 0, none⟩) (List.length x) ca), ((.tmp 10), .int .i64 ((i : Nat) : Int))]) (v := .pointer (some ⟨ba, 0 + i * 1, none⟩)) (fun ρ o w ho hi => idxS_run (kd := .i64) (t := 60) (e := 3) (size := 1) (bytes := 8) kr (x := (.tmp 9)) (y := (.tmp 10)) ba 0 (List.length x) ca i ho hi.1 hi.2.1 (by omega) w), .fs (off := 0 + i * 1) (v := .int .i64 ((List.getD x i 0 : Nat) : Int)) hpre (lt_of_heap hpre) (hA.atD (by omega) rfl), .v] H3 kr fun gs4 w4 H4 => ?_
    clear H3
    refine g_ret kr ?_
    show ∃ vs, Res _ _ _ _ vs ∧ _
    refine ⟨[.int .i64 ((List.getD x i 0 : Nat) : Int)], (.tmp (.int .i64 ((List.getD x i 0 : Nat) : Int)) kr .nil), ?_, H4.below⟩
    first | rfl | (rw [show List.getD x i 0 = 0 by simp [List.getD, List.getElem?_eq_none (show x.length ≤ i by omega)]]; rfl)
  · skip
    refine rp [.e (v := .bool (decide (((i : Nat) : Int) < ((List.length x : Nat) : Int)))) (v' := .bool false) (bool_eq (decide_eq_false (by omega)))] H2 kr fun gs5 w5 H5 => ?_
    show WPs _ _ _ _ [] _ _
    clear H2
    refine s_nil ?_
    refine g_cond_f kr kr ?_
    refine g_skip kr ?_
    show WP _ _ _ _ _ _
    refine rS [.v] H5 kr fun gs6 w6 H6 => ?_
    clear H5
    refine g_ret kr ?_
    show ∃ vs, Res _ _ _ _ vs ∧ _
    refine ⟨[.int .i64 0], (.tmp (.int .i64 0) kr .nil), ?_, H6.below⟩
    first | rfl | (rw [show List.getD x i 0 = 0 by simp [List.getD, List.getElem?_eq_none (show x.length ≤ i by omega)]]; rfl)
theorem vl_dgs16 {A : Nat} (h : A < big) : vl (dgs A 16) = A := by rw [vl_dgs, ← big_pow, Nat.mod_eq_of_lt h]
theorem of_cast (X n : Nat) : IntKind.i64.wrap ((X / 2 ^ n % 65536 : Nat) : Int) = ((X : Nat) : Int) / 2 ^ n % 65536 := by
  have h := Nat.mod_lt (X / 2 ^ n) (show 0 < 65536 by omega)
  rw [wrapN_i64 (by omega), Int.natCast_emod, Int.natCast_ediv, Int.natCast_pow]; rfl
theorem of_word0 (A k : Nat) (h : k / 4 = 0) : IntKind.i64.wrap (((A % 18446744073709551616 / 2 ^ (16 * (k % 4)) % 65536 : Nat)) : Int) = ((dg A k : Nat) : Int) := (of_cast _ _).trans (dg_word0 A k h)
theorem of_word1 (A k : Nat) (h : k / 4 = 1) : IntKind.i64.wrap (((A / 18446744073709551616 % 18446744073709551616 / 2 ^ (16 * (k % 4)) % 65536 : Nat)) : Int) = ((dg A k : Nat) : Int) := (of_cast _ _).trans (dg_word1 A k h)
theorem of_word2 (A k : Nat) (h : k / 4 = 2) : IntKind.i64.wrap (((A / 340282366920938463463374607431768211456 % 18446744073709551616 / 2 ^ (16 * (k % 4)) % 65536 : Nat)) : Int) = ((dg A k : Nat) : Int) := (of_cast _ _).trans (dg_word2 A k h)
theorem of_word3 (A k : Nat) (h : k / 4 = 3) : IntKind.i64.wrap (((A / 6277101735386680763835789423207666416102355444464034512896 % 18446744073709551616 / 2 ^ (16 * (k % 4)) % 65536 : Nat)) : Int) = ((dg A k : Nat) : Int) := (of_cast _ _).trans (dg_word3 A k h)
set_option maxRecDepth 100000 in
set_option maxHeartbeats 2000000 in
theorem of_fn (A : Nat) (hA : A < big) : FnR Tryd.prog 35 #[uv A] (fun _ => True) (RetS 3 1 (fun cur cap n l => (n = List.length l ∧ Rw 1 cur cap n (cellsD l) ∧ Ok l ∧ (l = dgs A 16 ∧ vl l = A ∧ List.length l = 16)))) := by
  refine FnR.intro (c := codeOf Tryd.f35) [.tmp 2] 25 Tryd.func35 kr kr kr fun w hpre => ?_
  have H0 := St.start w
  refine rS [.b, .v] H0 kr fun gs1 w1 H1 => ?_
  clear H0
  refine rS [.nw (fun b => .slice (some ⟨b, 0, none⟩) 0 0) #[] 3, .v] H1 kr fun gs2 w2 H2 => ?_
  clear H1
  refine g_seq kr ?_
  refine rS [.v] H2 kr fun gs3 w3 H3 => ?_
  clear H2
  refine g_block 0 kr ?_
  have HL1 : St w.heap.size w w3 [((gs1 0).b, Obj.cells (Value.cells (uv A)) 24 (0, 0)), ((gs2 0).b, Obj.cells #[] 3 (0, 0))] := H3.as kr
  clear H3
  refine g_first kr ?_
  refine g_seq kr ?_
  refine rS [.v, .v] HL1 kr fun gs4 w4 H4 => ?_
  clear HL1
  refine g_cond_t kr kr ?_
  refine g_skip kr ?_
  show WP _ _ _ _ _ _
  refine g_seq kr ?_
  refine g_block 1 kr ?_
  refine g_reg0 [0, 1, 2, 3, 4, 5, 6, 7, 8, 9, 10, 11, 12, 13, 14] kr ?_
  refine rp [.v, .v, .v, .v, .l 0, .v, .v, .v, .v, .e (v := .int .u64 (Int.fdiv ((A % 18446744073709551616 : Nat) : Int) (2 ^ 0))) (v' := .int .u64 (((A % 18446744073709551616) / 1 : Nat) : Int)) (int_eq (shrN (k := 0) (A % 18446744073709551616) 1 rfl)), .e (v := .int .u64 (Int.tmod (((A % 18446744073709551616) / 1 : Nat) : Int) 65536)) (v' := .int .u64 ((((A % 18446744073709551616) / 1) % 65536 : Nat) : Int)) (int_eq (remN ((A % 18446744073709551616) / 1) 65536)), .e (v := .int .i64 (IntKind.i64.wrap (((((A % 18446744073709551616) / 1) % 65536 : Nat) : Int)))) (v' := .int .i64 ((dg A 0 : Nat) : Int)) (int_eq (of_word0 A 0 rfl)), .nw (fun b => .slice (some ⟨b, 0, none⟩) 1 1) #[.int .i64 ((dg A 0 : Nat) : Int)] 3] H4 kr fun gs5 w5 H5 => ?_
  show WPs _ _ _ _ [13, 14] _ _
  clear H4
  refine s_append H5 (some 23) 60 3 1 8 (.tmp 10) (.tmp 22) 1 2 ((gs2 0).b) ((gs5 12).b) 0 1 0 1 #[] #[.int .i64 ((dg A 0 : Nat) : Int)] 3 (0, 0) ([]) ([.int .i64 ((dg A 0 : Nat) : Int)]) (fun b_1 cur_3 => [((gs1 0).b, Obj.cells (Value.cells (uv A)) 24 (0, 0)), (b_1, Obj.cells cur_3 3 (0, 0)), ((gs5 12).b, Obj.cells #[.int .i64 ((dg A 0 : Nat) : Int)] 3 (0, 0))]) kr kr kr kr kr (Rw.lit #[] 0 (by rfl) (by unfold maxLen; omega)) kr kr (by rfl) (by rfl) (by intro u hu; simp at hu; first | exact hu.elim | (rcases hu with rfl | rfl | rfl | rfl <;> rfl) | (rcases hu with rfl | rfl <;> rfl) | (subst hu; rfl)) (by omega) (by unfold maxLen; omega) (fun _ _ => by kernel_rfl) ?_
  intro b_1 cap_2 cur_3 w6 H6 hr_4; clear H5
  have hr_4' : Rw 1 cur_3 cap_2 1 (cellsD (dgs A 1)) := by rw [dgs_succ, cellsD_append]; exact hr_4
  refine rp [.v] H6 kr fun gs7 w7 H7 => ?_
  show WPs _ _ _ _ [] _ _
  clear H6
  refine s_nil ?_
  show WP _ _ _ _ _ _
  refine g_keep [0, 1, 2, 3, 4, 7] fun ρ1 => ?_
  have HK2 := H7.keep
  clear H7
  refine rL [.v, .v, .v] HK2 kr fun gs8 w8 H8 => ?_
  clear HK2
  show WPL _ _ _ _ _ _
  refine g_next ?_
  refine g_seq kr ?_
  refine rS [.v, .v] H8 kr fun gs9 w9 H9 => ?_
  clear H8
  refine g_cond_t kr kr ?_
  refine g_skip kr ?_
  show WP _ _ _ _ _ _
  refine g_seq kr ?_
  refine g_block 1 kr ?_
  refine g_reg0 [0, 1, 2, 3, 4, 5, 6, 7, 8, 9, 10, 11, 12, 13, 14] kr ?_
  refine rp [.v, .v, .v, .v, .l 0, .v, .v, .v, .v, .e (v := .int .u64 (Int.fdiv ((A % 18446744073709551616 : Nat) : Int) (2 ^ 16))) (v' := .int .u64 (((A % 18446744073709551616) / 65536 : Nat) : Int)) (int_eq (shrN (k := 16) (A % 18446744073709551616) 65536 rfl)), .e (v := .int .u64 (Int.tmod (((A % 18446744073709551616) / 65536 : Nat) : Int) 65536)) (v' := .int .u64 ((((A % 18446744073709551616) / 65536) % 65536 : Nat) : Int)) (int_eq (remN ((A % 18446744073709551616) / 65536) 65536)), .e (v := .int .i64 (IntKind.i64.wrap (((((A % 18446744073709551616) / 65536) % 65536 : Nat) : Int)))) (v' := .int .i64 ((dg A 1 : Nat) : Int)) (int_eq (of_word0 A 1 rfl)), .nw (fun b => .slice (some ⟨b, 0, none⟩) 1 1) #[.int .i64 ((dg A 1 : Nat) : Int)] 3] H9 kr fun gs10 w10 H10 => ?_
  show WPs _ _ _ _ [13, 14] _ _
  clear H9
  refine s_append H10 (some 23) 60 3 1 8 (.tmp 10) (.tmp 22) 1 3 b_1 ((gs10 12).b) 1 1 cap_2 1 cur_3 #[.int .i64 ((dg A 1 : Nat) : Int)] 3 (0, 0) (cellsD (dgs A 1)) ([.int .i64 ((dg A 1 : Nat) : Int)]) (fun b_5 cur_7 => [((gs1 0).b, Obj.cells (Value.cells (uv A)) 24 (0, 0)), (b_5, Obj.cells cur_7 3 (0, 0)), ((gs5 12).b, Obj.cells #[.int .i64 ((dg A 0 : Nat) : Int)] 3 (0, 0)), ((gs10 12).b, Obj.cells #[.int .i64 ((dg A 1 : Nat) : Int)] 3 (0, 0))]) kr kr kr kr kr hr_4' kr kr (by rfl) (by rfl) (by intro u hu; simp at hu; first | exact hu.elim | (rcases hu with rfl | rfl | rfl | rfl <;> rfl) | (rcases hu with rfl | rfl <;> rfl) | (subst hu; rfl)) (by omega) (by unfold maxLen; omega) (fun _ _ => by kernel_rfl) ?_
  intro b_5 cap_6 cur_7 w11 H11 hr_8; clear H10
  have hr_8' : Rw 1 cur_7 cap_6 2 (cellsD (dgs A 2)) := by rw [dgs_succ, cellsD_append]; exact hr_8
  refine rp [.v] H11 kr fun gs12 w12 H12 => ?_
  show WPs _ _ _ _ [] _ _
  clear H11
  refine s_nil ?_
  show WP _ _ _ _ _ _
  refine g_keep [0, 1, 2, 3, 4, 7] fun ρ2 => ?_
  have HK3 := H12.keep
  clear H12
  refine rL [.v, .v, .v] HK3 kr fun gs13 w13 H13 => ?_
  clear HK3
  show WPL _ _ _ _ _ _
  refine g_next ?_
  refine g_seq kr ?_
  refine rS [.v, .v] H13 kr fun gs14 w14 H14 => ?_
  clear H13
  refine g_cond_t kr kr ?_
  refine g_skip kr ?_
  show WP _ _ _ _ _ _
  refine g_seq kr ?_
  refine g_block 1 kr ?_
  refine g_reg0 [0, 1, 2, 3, 4, 5, 6, 7, 8, 9, 10, 11, 12, 13, 14] kr ?_
  refine rp [.v, .v, .v, .v, .l 0, .v, .v, .v, .v, .e (v := .int .u64 (Int.fdiv ((A % 18446744073709551616 : Nat) : Int) (2 ^ 32))) (v' := .int .u64 (((A % 18446744073709551616) / 4294967296 : Nat) : Int)) (int_eq (shrN (k := 32) (A % 18446744073709551616) 4294967296 rfl)), .e (v := .int .u64 (Int.tmod (((A % 18446744073709551616) / 4294967296 : Nat) : Int) 65536)) (v' := .int .u64 ((((A % 18446744073709551616) / 4294967296) % 65536 : Nat) : Int)) (int_eq (remN ((A % 18446744073709551616) / 4294967296) 65536)), .e (v := .int .i64 (IntKind.i64.wrap (((((A % 18446744073709551616) / 4294967296) % 65536 : Nat) : Int)))) (v' := .int .i64 ((dg A 2 : Nat) : Int)) (int_eq (of_word0 A 2 rfl)), .nw (fun b => .slice (some ⟨b, 0, none⟩) 1 1) #[.int .i64 ((dg A 2 : Nat) : Int)] 3] H14 kr fun gs15 w15 H15 => ?_
  show WPs _ _ _ _ [13, 14] _ _
  clear H14
  refine s_append H15 (some 23) 60 3 1 8 (.tmp 10) (.tmp 22) 1 4 b_5 ((gs15 12).b) 2 1 cap_6 1 cur_7 #[.int .i64 ((dg A 2 : Nat) : Int)] 3 (0, 0) (cellsD (dgs A 2)) ([.int .i64 ((dg A 2 : Nat) : Int)]) (fun b_9 cur_11 => [((gs1 0).b, Obj.cells (Value.cells (uv A)) 24 (0, 0)), (b_9, Obj.cells cur_11 3 (0, 0)), ((gs5 12).b, Obj.cells #[.int .i64 ((dg A 0 : Nat) : Int)] 3 (0, 0)), ((gs10 12).b, Obj.cells #[.int .i64 ((dg A 1 : Nat) : Int)] 3 (0, 0)), ((gs15 12).b, Obj.cells #[.int .i64 ((dg A 2 : Nat) : Int)] 3 (0, 0))]) kr kr kr kr kr hr_8' kr kr (by rfl) (by rfl) (by intro u hu; simp at hu; first | exact hu.elim | (rcases hu with rfl | rfl | rfl | rfl <;> rfl) | (rcases hu with rfl | rfl <;> rfl) | (subst hu; rfl)) (by omega) (by unfold maxLen; omega) (fun _ _ => by kernel_rfl) ?_
  intro b_9 cap_10 cur_11 w16 H16 hr_12; clear H15
  have hr_12' : Rw 1 cur_11 cap_10 3 (cellsD (dgs A 3)) := by rw [dgs_succ, cellsD_append]; exact hr_12
  refine rp [.v] H16 kr fun gs17 w17 H17 => ?_
  show WPs _ _ _ _ [] _ _
  clear H16
  refine s_nil ?_
  show WP _ _ _ _ _ _
  refine g_keep [0, 1, 2, 3, 4, 7] fun ρ3 => ?_
  have HK4 := H17.keep
  clear H17
  refine rL [.v, .v, .v] HK4 kr fun gs18 w18 H18 => ?_
  clear HK4
  show WPL _ _ _ _ _ _
  refine g_next ?_
  refine g_seq kr ?_
  refine rS [.v, .v] H18 kr fun gs19 w19 H19 => ?_
  clear H18
  refine g_cond_t kr kr ?_
  refine g_skip kr ?_
  show WP _ _ _ _ _ _
  refine g_seq kr ?_
  refine g_block 1 kr ?_
  refine g_reg0 [0, 1, 2, 3, 4, 5, 6, 7, 8, 9, 10, 11, 12, 13, 14] kr ?_
  refine rp [.v, .v, .v, .v, .l 0, .v, .v, .v, .v, .e (v := .int .u64 (Int.fdiv ((A % 18446744073709551616 : Nat) : Int) (2 ^ 48))) (v' := .int .u64 (((A % 18446744073709551616) / 281474976710656 : Nat) : Int)) (int_eq (shrN (k := 48) (A % 18446744073709551616) 281474976710656 rfl)), .e (v := .int .u64 (Int.tmod (((A % 18446744073709551616) / 281474976710656 : Nat) : Int) 65536)) (v' := .int .u64 ((((A % 18446744073709551616) / 281474976710656) % 65536 : Nat) : Int)) (int_eq (remN ((A % 18446744073709551616) / 281474976710656) 65536)), .e (v := .int .i64 (IntKind.i64.wrap (((((A % 18446744073709551616) / 281474976710656) % 65536 : Nat) : Int)))) (v' := .int .i64 ((dg A 3 : Nat) : Int)) (int_eq (of_word0 A 3 rfl)), .nw (fun b => .slice (some ⟨b, 0, none⟩) 1 1) #[.int .i64 ((dg A 3 : Nat) : Int)] 3] H19 kr fun gs20 w20 H20 => ?_
  show WPs _ _ _ _ [13, 14] _ _
  clear H19
  refine s_append H20 (some 23) 60 3 1 8 (.tmp 10) (.tmp 22) 1 5 b_9 ((gs20 12).b) 3 1 cap_10 1 cur_11 #[.int .i64 ((dg A 3 : Nat) : Int)] 3 (0, 0) (cellsD (dgs A 3)) ([.int .i64 ((dg A 3 : Nat) : Int)]) (fun b_13 cur_15 => [((gs1 0).b, Obj.cells (Value.cells (uv A)) 24 (0, 0)), (b_13, Obj.cells cur_15 3 (0, 0)), ((gs5 12).b, Obj.cells #[.int .i64 ((dg A 0 : Nat) : Int)] 3 (0, 0)), ((gs10 12).b, Obj.cells #[.int .i64 ((dg A 1 : Nat) : Int)] 3 (0, 0)), ((gs15 12).b, Obj.cells #[.int .i64 ((dg A 2 : Nat) : Int)] 3 (0, 0)), ((gs20 12).b, Obj.cells #[.int .i64 ((dg A 3 : Nat) : Int)] 3 (0, 0))]) kr kr kr kr kr hr_12' kr kr (by rfl) (by rfl) (by intro u hu; simp at hu; first | exact hu.elim | (rcases hu with rfl | rfl | rfl | rfl <;> rfl) | (rcases hu with rfl | rfl <;> rfl) | (subst hu; rfl)) (by omega) (by unfold maxLen; omega) (fun _ _ => by kernel_rfl) ?_
  intro b_13 cap_14 cur_15 w21 H21 hr_16; clear H20
  have hr_16' : Rw 1 cur_15 cap_14 4 (cellsD (dgs A 4)) := by rw [dgs_succ, cellsD_append]; exact hr_16
  refine rp [.v] H21 kr fun gs22 w22 H22 => ?_
  show WPs _ _ _ _ [] _ _
  clear H21
  refine s_nil ?_
  show WP _ _ _ _ _ _
  refine g_keep [0, 1, 2, 3, 4, 7] fun ρ4 => ?_
  have HK5 := H22.keep
  clear H22
  refine rL [.v, .v, .v] HK5 kr fun gs23 w23 H23 => ?_
  clear HK5
  show WPL _ _ _ _ _ _
  refine g_next ?_
  refine g_seq kr ?_
  refine rS [.v, .v] H23 kr fun gs24 w24 H24 => ?_
  clear H23
  refine g_cond_t kr kr ?_
  refine g_skip kr ?_
  show WP _ _ _ _ _ _
  refine g_seq kr ?_
  refine g_block 1 kr ?_
  refine g_reg0 [0, 1, 2, 3, 4, 5, 6, 7, 8, 9, 10, 11, 12, 13, 14] kr ?_
  refine rp [.v, .v, .v, .v, .l 0, .v, .v, .v, .v, .e (v := .int .u64 (Int.fdiv ((A / 18446744073709551616 % 18446744073709551616 : Nat) : Int) (2 ^ 0))) (v' := .int .u64 (((A / 18446744073709551616 % 18446744073709551616) / 1 : Nat) : Int)) (int_eq (shrN (k := 0) (A / 18446744073709551616 % 18446744073709551616) 1 rfl)), .e (v := .int .u64 (Int.tmod (((A / 18446744073709551616 % 18446744073709551616) / 1 : Nat) : Int) 65536)) (v' := .int .u64 ((((A / 18446744073709551616 % 18446744073709551616) / 1) % 65536 : Nat) : Int)) (int_eq (remN ((A / 18446744073709551616 % 18446744073709551616) / 1) 65536)), .e (v := .int .i64 (IntKind.i64.wrap (((((A / 18446744073709551616 % 18446744073709551616) / 1) % 65536 : Nat) : Int)))) (v' := .int .i64 ((dg A 4 : Nat) : Int)) (int_eq (of_word1 A 4 rfl)), .nw (fun b => .slice (some ⟨b, 0, none⟩) 1 1) #[.int .i64 ((dg A 4 : Nat) : Int)] 3] H24 kr fun gs25 w25 H25 => ?_
  show WPs _ _ _ _ [13, 14] _ _
  clear H24
  refine s_append H25 (some 23) 60 3 1 8 (.tmp 10) (.tmp 22) 1 6 b_13 ((gs25 12).b) 4 1 cap_14 1 cur_15 #[.int .i64 ((dg A 4 : Nat) : Int)] 3 (0, 0) (cellsD (dgs A 4)) ([.int .i64 ((dg A 4 : Nat) : Int)]) (fun b_17 cur_19 => [((gs1 0).b, Obj.cells (Value.cells (uv A)) 24 (0, 0)), (b_17, Obj.cells cur_19 3 (0, 0)), ((gs5 12).b, Obj.cells #[.int .i64 ((dg A 0 : Nat) : Int)] 3 (0, 0)), ((gs10 12).b, Obj.cells #[.int .i64 ((dg A 1 : Nat) : Int)] 3 (0, 0)), ((gs15 12).b, Obj.cells #[.int .i64 ((dg A 2 : Nat) : Int)] 3 (0, 0)), ((gs20 12).b, Obj.cells #[.int .i64 ((dg A 3 : Nat) : Int)] 3 (0, 0)), ((gs25 12).b, Obj.cells #[.int .i64 ((dg A 4 : Nat) : Int)] 3 (0, 0))]) kr kr kr kr kr hr_16' kr kr (by rfl) (by rfl) (by intro u hu; simp at hu; first | exact hu.elim | (rcases hu with rfl | rfl | rfl | rfl <;> rfl) | (rcases hu with rfl | rfl <;> rfl) | (subst hu; rfl)) (by omega) (by unfold maxLen; omega) (fun _ _ => by kernel_rfl) ?_
  intro b_17 cap_18 cur_19 w26 H26 hr_20; clear H25
  have hr_20' : Rw 1 cur_19 cap_18 5 (cellsD (dgs A 5)) := by rw [dgs_succ, cellsD_append]; exact hr_20
  refine rp [.v] H26 kr fun gs27 w27 H27 => ?_
  show WPs _ _ _ _ [] _ _
  clear H26
  refine s_nil ?_
  show WP _ _ _ _ _ _
  refine g_keep [0, 1, 2, 3, 4, 7] fun ρ5 => ?_
  have HK6 := H27.keep
  clear H27
  refine rL [.v, .v, .v] HK6 kr fun gs28 w28 H28 => ?_
  clear HK6
  show WPL _ _ _ _ _ _
  refine g_next ?_
  refine g_seq kr ?_
  refine rS [.v, .v] H28 kr fun gs29 w29 H29 => ?_
  clear H28
  refine g_cond_t kr kr ?_
  refine g_skip kr ?_
  show WP _ _ _ _ _ _
  refine g_seq kr ?_
  refine g_block 1 kr ?_
  refine g_reg0 [0, 1, 2, 3, 4, 5, 6, 7, 8, 9, 10, 11, 12, 13, 14] kr ?_
  refine rp [.v, .v, .v, .v, .l 0, .v, .v, .v, .v, .e (v := .int .u64 (Int.fdiv ((A / 18446744073709551616 % 18446744073709551616 : Nat) : Int) (2 ^ 16))) (v' := .int .u64 (((A / 18446744073709551616 % 18446744073709551616) / 65536 : Nat) : Int)) (int_eq (shrN (k := 16) (A / 18446744073709551616 % 18446744073709551616) 65536 rfl)), .e (v := .int .u64 (Int.tmod (((A / 18446744073709551616 % 18446744073709551616) / 65536 : Nat) : Int) 65536)) (v' := .int .u64 ((((A / 18446744073709551616 % 18446744073709551616) / 65536) % 65536 : Nat) : Int)) (int_eq (remN ((A / 18446744073709551616 % 18446744073709551616) / 65536) 65536)), .e (v := .int .i64 (IntKind.i64.wrap (((((A / 18446744073709551616 % 18446744073709551616) / 65536) % 65536 : Nat) : Int)))) (v' := .int .i64 ((dg A 5 : Nat) : Int)) (int_eq (of_word1 A 5 rfl)), .nw (fun b => .slice (some ⟨b, 0, none⟩) 1 1) #[.int .i64 ((dg A 5 : Nat) : Int)] 3] H29 kr fun gs30 w30 H30 => ?_
  show WPs _ _ _ _ [13, 14] _ _
  clear H29
  refine s_append H30 (some 23) 60 3 1 8 (.tmp 10) (.tmp 22) 1 7 b_17 ((gs30 12).b) 5 1 cap_18 1 cur_19 #[.int .i64 ((dg A 5 : Nat) : Int)] 3 (0, 0) (cellsD (dgs A 5)) ([.int .i64 ((dg A 5 : Nat) : Int)]) (fun b_21 cur_23 => [((gs1 0).b, Obj.cells (Value.cells (uv A)) 24 (0, 0)), (b_21, Obj.cells cur_23 3 (0, 0)), ((gs5 12).b, Obj.cells #[.int .i64 ((dg A 0 : Nat) : Int)] 3 (0, 0)), ((gs10 12).b, Obj.cells #[.int .i64 ((dg A 1 : Nat) : Int)] 3 (0, 0)), ((gs15 12).b, Obj.cells #[.int .i64 ((dg A 2 : Nat) : Int)] 3 (0, 0)), ((gs20 12).b, Obj.cells #[.int .i64 ((dg A 3 : Nat) : Int)] 3 (0, 0)), ((gs25 12).b, Obj.cells #[.int .i64 ((dg A 4 : Nat) : Int)] 3 (0, 0)), ((gs30 12).b, Obj.cells #[.int .i64 ((dg A 5 : Nat) : Int)] 3 (0, 0))]) kr kr kr kr kr hr_20' kr kr (by rfl) (by rfl) (by intro u hu; simp at hu; first | exact hu.elim | (rcases hu with rfl | rfl | rfl | rfl <;> rfl) | (rcases hu with rfl | rfl <;> rfl) | (subst hu; rfl)) (by omega) (by unfold maxLen; omega) (fun _ _ => by kernel_rfl) ?_
  intro b_21 cap_22 cur_23 w31 H31 hr_24; clear H30
  have hr_24' : Rw 1 cur_23 cap_22 6 (cellsD (dgs A 6)) := by rw [dgs_succ, cellsD_append]; exact hr_24
  refine rp [.v] H31 kr fun gs32 w32 H32 => ?_
  show WPs _ _ _ _ [] _ _
  clear H31
  refine s_nil ?_
  show WP _ _ _ _ _ _
  refine g_keep [0, 1, 2, 3, 4, 7] fun ρ6 => ?_
  have HK7 := H32.keep
  clear H32
  refine rL [.v, .v, .v] HK7 kr fun gs33 w33 H33 => ?_
  clear HK7
  show WPL _ _ _ _ _ _
  refine g_next ?_
  refine g_seq kr ?_
  refine rS [.v, .v] H33 kr fun gs34 w34 H34 => ?_
  clear H33
  refine g_cond_t kr kr ?_
  refine g_skip kr ?_
  show WP _ _ _ _ _ _
  refine g_seq kr ?_
  refine g_block 1 kr ?_
  refine g_reg0 [0, 1, 2, 3, 4, 5, 6, 7, 8, 9, 10, 11, 12, 13, 14] kr ?_
  refine rp [.v, .v, .v, .v, .l 0, .v, .v, .v, .v, .e (v := .int .u64 (Int.fdiv ((A / 18446744073709551616 % 18446744073709551616 : Nat) : Int) (2 ^ 32))) (v' := .int .u64 (((A / 18446744073709551616 % 18446744073709551616) / 4294967296 : Nat) : Int)) (int_eq (shrN (k := 32) (A / 18446744073709551616 % 18446744073709551616) 4294967296 rfl)), .e (v := .int .u64 (Int.tmod (((A / 18446744073709551616 % 18446744073709551616) / 4294967296 : Nat) : Int) 65536)) (v' := .int .u64 ((((A / 18446744073709551616 % 18446744073709551616) / 4294967296) % 65536 : Nat) : Int)) (int_eq (remN ((A / 18446744073709551616 % 18446744073709551616) / 4294967296) 65536)), .e (v := .int .i64 (IntKind.i64.wrap (((((A / 18446744073709551616 % 18446744073709551616) / 4294967296) % 65536 : Nat) : Int)))) (v' := .int .i64 ((dg A 6 : Nat) : Int)) (int_eq (of_word1 A 6 rfl)), .nw (fun b => .slice (some ⟨b, 0, none⟩) 1 1) #[.int .i64 ((dg A 6 : Nat) : Int)] 3] H34 kr fun gs35 w35 H35 => ?_
  show WPs _ _ _ _ [13, 14] _ _
  clear H34
  refine s_append H35 (some 23) 60 3 1 8 (.tmp 10) (.tmp 22) 1 8 b_21 ((gs35 12).b) 6 1 cap_22 1 cur_23 #[.int .i64 ((dg A 6 : Nat) : Int)] 3 (0, 0) (cellsD (dgs A 6)) ([.int .i64 ((dg A 6 : Nat) : Int)]) (fun b_25 cur_27 => [((gs1 0).b, Obj.cells (Value.cells (uv A)) 24 (0, 0)), (b_25, Obj.cells cur_27 3 (0, 0)), ((gs5 12).b, Obj.cells #[.int .i64 ((dg A 0 : Nat) : Int)] 3 (0, 0)), ((gs10 12).b, Obj.cells #[.int .i64 ((dg A 1 : Nat) : Int)] 3 (0, 0)), ((gs15 12).b, Obj.cells #[.int .i64 ((dg A 2 : Nat) : Int)] 3 (0, 0)), ((gs20 12).b, Obj.cells #[.int .i64 ((dg A 3 : Nat) : Int)] 3 (0, 0)), ((gs25 12).b, Obj.cells #[.int .i64 ((dg A 4 : Nat) : Int)] 3 (0, 0)), ((gs30 12).b, Obj.cells #[.int .i64 ((dg A 5 : Nat) : Int)] 3 (0, 0)), ((gs35 12).b, Obj.cells #[.int .i64 ((dg A 6 : Nat) : Int)] 3 (0, 0))]) kr kr kr kr kr hr_24' kr kr (by rfl) (by rfl) (by intro u hu; simp at hu; first | exact hu.elim | (rcases hu with rfl | rfl | rfl | rfl <;> rfl) | (rcases hu with rfl | rfl <;> rfl) | (subst hu; rfl)) (by omega) (by unfold maxLen; omega) (fun _ _ => by kernel_rfl) ?_
  intro b_25 cap_26 cur_27 w36 H36 hr_28; clear H35
  have hr_28' : Rw 1 cur_27 cap_26 7 (cellsD (dgs A 7)) := by rw [dgs_succ, cellsD_append]; exact hr_28
  refine rp [.v] H36 kr fun gs37 w37 H37 => ?_
  show WPs _ _ _ _ [] _ _
  clear H36
  refine s_nil ?_
  show WP _ _ _ _ _ _
  refine g_keep [0, 1, 2, 3, 4, 7] fun ρ7 => ?_
  have HK8 := H37.keep
  clear H37
  refine rL [.v, .v, .v] HK8 kr fun gs38 w38 H38 => ?_
  clear HK8
  show WPL _ _ _ _ _ _
  refine g_next ?_
  refine g_seq kr ?_
  refine rS [.v, .v] H38 kr fun gs39 w39 H39 => ?_
  clear H38
  refine g_cond_t kr kr ?_
  refine g_skip kr ?_
  show WP _ _ _ _ _ _
  refine g_seq kr ?_
  refine g_block 1 kr ?_
  refine g_reg0 [0, 1, 2, 3, 4, 5, 6, 7, 8, 9, 10, 11, 12, 13, 14] kr ?_
  refine rp [.v, .v, .v, .v, .l 0, .v, .v, .v, .v, .e (v := .int .u64 (Int.fdiv ((A / 18446744073709551616 % 18446744073709551616 : Nat) : Int) (2 ^ 48))) (v' := .int .u64 (((A / 18446744073709551616 % 18446744073709551616) / 281474976710656 : Nat) : Int)) (int_eq (shrN (k := 48) (A / 18446744073709551616 % 18446744073709551616) 281474976710656 rfl)), .e (v := .int .u64 (Int.tmod (((A / 18446744073709551616 % 18446744073709551616) / 281474976710656 : Nat) : Int) 65536)) (v' := .int .u64 ((((A / 18446744073709551616 % 18446744073709551616) / 281474976710656) % 65536 : Nat) : Int)) (int_eq (remN ((A / 18446744073709551616 % 18446744073709551616) / 281474976710656) 65536)), .e (v := .int .i64 (IntKind.i64.wrap (((((A / 18446744073709551616 % 18446744073709551616) / 281474976710656) % 65536 : Nat) : Int)))) (v' := .int .i64 ((dg A 7 : Nat) : Int)) (int_eq (of_word1 A 7 rfl)), .nw (fun b => .slice (some ⟨b, 0, none⟩) 1 1) #[.int .i64 ((dg A 7 : Nat) : Int)] 3] H39 kr fun gs40 w40 H40 => ?_
  show WPs _ _ _ _ [13, 14] _ _
  clear H39
  refine s_append H40 (some 23) 60 3 1 8 (.tmp 10) (.tmp 22) 1 9 b_25 ((gs40 12).b) 7 1 cap_26 1 cur_27 #[.int .i64 ((dg A 7 : Nat) : Int)] 3 (0, 0) (cellsD (dgs A 7)) ([.int .i64 ((dg A 7 : Nat) : Int)]) (fun b_29 cur_31 => [((gs1 0).b, Obj.cells (Value.cells (uv A)) 24 (0, 0)), (b_29, Obj.cells cur_31 3 (0, 0)), ((gs5 12).b, Obj.cells #[.int .i64 ((dg A 0 : Nat) : Int)] 3 (0, 0)), ((gs10 12).b, Obj.cells #[.int .i64 ((dg A 1 : Nat) : Int)] 3 (0, 0)), ((gs15 12).b, Obj.cells #[.int .i64 ((dg A 2 : Nat) : Int)] 3 (0, 0)), ((gs20 12).b, Obj.cells #[.int .i64 ((dg A 3 : Nat) : Int)] 3 (0, 0)), ((gs25 12).b, Obj.cells #[.int .i64 ((dg A 4 : Nat) : Int)] 3 (0, 0)), ((gs30 12).b, Obj.cells #[.int .i64 ((dg A 5 : Nat) : Int)] 3 (0, 0)), ((gs35 12).b, Obj.cells #[.int .i64 ((dg A 6 : Nat) : Int)] 3 (0, 0)), ((gs40 12).b, Obj.cells #[.int .i64 ((dg A 7 : Nat) : Int)] 3 (0, 0))]) kr kr kr kr kr hr_28' kr kr (by rfl) (by rfl) (by intro u hu; simp at hu; first | exact hu.elim | (rcases hu with rfl | rfl | rfl | rfl <;> rfl) | (rcases hu with rfl | rfl <;> rfl) | (subst hu; rfl)) (by omega) (by unfold maxLen; omega) (fun _ _ => by kernel_rfl) ?_
  intro b_29 cap_30 cur_31 w41 H41 hr_32; clear H40
  have hr_32' : Rw 1 cur_31 cap_30 8 (cellsD (dgs A 8)) := by rw [dgs_succ, cellsD_append]; exact hr_32
  refine rp [.v] H41 kr fun gs42 w42 H42 => ?_
  show WPs _ _ _ _ [] _ _
  clear H41
  refine s_nil ?_
  show WP _ _ _ _ _ _
  refine g_keep [0, 1, 2, 3, 4, 7] fun ρ8 => ?_
  have HK9 := H42.keep
  clear H42
  refine rL [.v, .v, .v] HK9 kr fun gs43 w43 H43 => ?_
  clear HK9
  show WPL _ _ _ _ _ _
  refine g_next ?_
  refine g_seq kr ?_
  refine rS [.v, .v] H43 kr fun gs44 w44 H44 => ?_
  clear H43
  refine g_cond_t kr kr ?_
  refine g_skip kr ?_
  show WP _ _ _ _ _ _
  refine g_seq kr ?_
  refine g_block 1 kr ?_
  refine g_reg0 [0, 1, 2, 3, 4, 5, 6, 7, 8, 9, 10, 11, 12, 13, 14] kr ?_
  refine rp [.v, .v, .v, .v, .l 0, .v, .v, .v, .v, .e (v := .int .u64 (Int.fdiv ((A / 340282366920938463463374607431768211456 % 18446744073709551616 : Nat) : Int) (2 ^ 0))) (v' := .int .u64 (((A / 340282366920938463463374607431768211456 % 18446744073709551616) / 1 : Nat) : Int)) (int_eq (shrN (k := 0) (A / 340282366920938463463374607431768211456 % 18446744073709551616) 1 rfl)), .e (v := .int .u64 (Int.tmod (((A / 340282366920938463463374607431768211456 % 18446744073709551616) / 1 : Nat) : Int) 65536)) (v' := .int .u64 ((((A / 340282366920938463463374607431768211456 % 18446744073709551616) / 1) % 65536 : Nat) : Int)) (int_eq (remN ((A / 340282366920938463463374607431768211456 % 18446744073709551616) / 1) 65536)), .e (v := .int .i64 (IntKind.i64.wrap (((((A / 340282366920938463463374607431768211456 % 18446744073709551616) / 1) % 65536 : Nat) : Int)))) (v' := .int .i64 ((dg A 8 : Nat) : Int)) (int_eq (of_word2 A 8 rfl)), .nw (fun b => .slice (some ⟨b, 0, none⟩) 1 1) #[.int .i64 ((dg A 8 : Nat) : Int)] 3] H44 kr fun gs45 w45 H45 => ?_
  show WPs _ _ _ _ [13, 14] _ _
  clear H44
  refine s_append H45 (some 23) 60 3 1 8 (.tmp 10) (.tmp 22) 1 10 b_29 ((gs45 12).b) 8 1 cap_30 1 cur_31 #[.int .i64 ((dg A 8 : Nat) : Int)] 3 (0, 0) (cellsD (dgs A 8)) ([.int .i64 ((dg A 8 : Nat) : Int)]) (fun b_33 cur_35 => [((gs1 0).b, Obj.cells (Value.cells (uv A)) 24 (0, 0)), (b_33, Obj.cells cur_35 3 (0, 0)), ((gs5 12).b, Obj.cells #[.int .i64 ((dg A 0 : Nat) : Int)] 3 (0, 0)), ((gs10 12).b, Obj.cells #[.int .i64 ((dg A 1 : Nat) : Int)] 3 (0, 0)), ((gs15 12).b, Obj.cells #[.int .i64 ((dg A 2 : Nat) : Int)] 3 (0, 0)), ((gs20 12).b, Obj.cells #[.int .i64 ((dg A 3 : Nat) : Int)] 3 (0, 0)), ((gs25 12).b, Obj.cells #[.int .i64 ((dg A 4 : Nat) : Int)] 3 (0, 0)), ((gs30 12).b, Obj.cells #[.int .i64 ((dg A 5 : Nat) : Int)] 3 (0, 0)), ((gs35 12).b, Obj.cells #[.int .i64 ((dg A 6 : Nat) : Int)] 3 (0, 0)), ((gs40 12).b, Obj.cells #[.int .i64 ((dg A 7 : Nat) : Int)] 3 (0, 0)), ((gs45 12).b, Obj.cells #[.int .i64 ((dg A 8 : Nat) : Int)] 3 (0, 0))]) kr kr kr kr kr hr_32' kr kr (by rfl) (by rfl) (by intro u hu; simp at hu; first | exact hu.elim | (rcases hu with rfl | rfl | rfl | rfl <;> rfl) | (rcases hu with rfl | rfl <;> rfl) | (subst hu; rfl)) (by omega) (by unfold maxLen; omega) (fun _ _ => by kernel_rfl) ?_
  intro b_33 cap_34 cur_35 w46 H46 hr_36; clear H45
  have hr_36' : Rw 1 cur_35 cap_34 9 (cellsD (dgs A 9)) := by rw [dgs_succ, cellsD_append]; exact hr_36
  refine rp [.v] H46 kr fun gs47 w47 H47 => ?_
  show WPs _ _ _ _ [] _ _
  clear H46
  refine s_nil ?_
  show WP _ _ _ _ _ _
  refine g_keep [0, 1, 2, 3, 4, 7] fun ρ9 => ?_
  have HK10 := H47.keep
  clear H47
  refine rL [.v, .v, .v] HK10 kr fun gs48 w48 H48 => ?_
  clear HK10
  show WPL _ _ _ _ _ _
  refine g_next ?_
  refine g_seq kr ?_
  refine rS [.v, .v] H48 kr fun gs49 w49 H49 => ?_
  clear H48
  refine g_cond_t kr kr ?_
  refine g_skip kr ?_
  show WP _ _ _ _ _ _
  refine g_seq kr ?_
  refine g_block 1 kr ?_
  refine g_reg0 [0, 1, 2, 3, 4, 5, 6, 7, 8, 9, 10, 11, 12, 13, 14] kr ?_
  refine rp [.v, .v, .v, .v, .l 0, .v, .v, .v, .v, .e (v := .int .u64 (Int.fdiv ((A / 340282366920938463463374607431768211456 % 18446744073709551616 : Nat) : Int) (2 ^ 16))) (v' := .int .u64 (((A / 340282366920938463463374607431768211456 % 18446744073709551616) / 65536 : Nat) : Int)) (int_eq (shrN (k := 16) (A / 340282366920938463463374607431768211456 % 18446744073709551616) 65536 rfl)), .e (v := .int .u64 (Int.tmod (((A / 340282366920938463463374607431768211456 % 18446744073709551616) / 65536 : Nat) : Int) 65536)) (v' := .int .u64 ((((A / 340282366920938463463374607431768211456 % 18446744073709551616) / 65536) % 65536 : Nat) : Int)) (int_eq (remN ((A / 340282366920938463463374607431768211456 % 18446744073709551616) / 65536) 65536)), .e (v := .int .i64 (IntKind.i64.wrap (((((A / 340282366920938463463374607431768211456 % 18446744073709551616) / 65536) % 65536 : Nat) : Int)))) (v' := .int .i64 ((dg A 9 : Nat) : Int)) (int_eq (of_word2 A 9 rfl)), .nw (fun b => .slice (some ⟨b, 0, none⟩) 1 1) #[.int .i64 ((dg A 9 : Nat) : Int)] 3] H49 kr fun gs50 w50 H50 => ?_
  show WPs _ _ _ _ [13, 14] _ _
  clear H49
  refine s_append H50 (some 23) 60 3 1 8 (.tmp 10) (.tmp 22) 1 11 b_33 ((gs50 12).b) 9 1 cap_34 1 cur_35 #[.int .i64 ((dg A 9 : Nat) : Int)] 3 (0, 0) (cellsD (dgs A 9)) ([.int .i64 ((dg A 9 : Nat) : Int)]) (fun b_37 cur_39 => [((gs1 0).b, Obj.cells (Value.cells (uv A)) 24 (0, 0)), (b_37, Obj.cells cur_39 3 (0, 0)), ((gs5 12).b, Obj.cells #[.int .i64 ((dg A 0 : Nat) : Int)] 3 (0, 0)), ((gs10 12).b, Obj.cells #[.int .i64 ((dg A 1 : Nat) : Int)] 3 (0, 0)), ((gs15 12).b, Obj.cells #[.int .i64 ((dg A 2 : Nat) : Int)] 3 (0, 0)), ((gs20 12).b, Obj.cells #[.int .i64 ((dg A 3 : Nat) : Int)] 3 (0, 0)), ((gs25 12).b, Obj.cells #[.int .i64 ((dg A 4 : Nat) : Int)] 3 (0, 0)), ((gs30 12).b, Obj.cells #[.int .i64 ((dg A 5 : Nat) : Int)] 3 (0, 0)), ((gs35 12).b, Obj.cells #[.int .i64 ((dg A 6 : Nat) : Int)] 3 (0, 0)), ((gs40 12).b, Obj.cells #[.int .i64 ((dg A 7 : Nat) : Int)] 3 (0, 0)), ((gs45 12).b, Obj.cells #[.int .i64 ((dg A 8 : Nat) : Int)] 3 (0, 0)), ((gs50 12).b, Obj.cells #[.int .i64 ((dg A 9 : Nat) : Int)] 3 (0, 0))]) kr kr kr kr kr hr_36' kr kr (by rfl) (by rfl) (by intro u hu; simp at hu; first | exact hu.elim | (rcases hu with rfl | rfl | rfl | rfl <;> rfl) | (rcases hu with rfl | rfl <;> rfl) | (subst hu; rfl)) (by omega) (by unfold maxLen; omega) (fun _ _ => by kernel_rfl) ?_
  intro b_37 cap_38 cur_39 w51 H51 hr_40; clear H50
  have hr_40' : Rw 1 cur_39 cap_38 10 (cellsD (dgs A 10)) := by rw [dgs_succ, cellsD_append]; exact hr_40
  refine rp [.v] H51 kr fun gs52 w52 H52 => ?_
  show WPs _ _ _ _ [] _ _
  clear H51
  refine s_nil ?_
  show WP _ _ _ _ _ _
  refine g_keep [0, 1, 2, 3, 4, 7] fun ρ10 => ?_
  have HK11 := H52.keep
  clear H52
  refine rL [.v, .v, .v] HK11 kr fun gs53 w53 H53 => ?_
  clear HK11
  show WPL _ _ _ _ _ _
  refine g_next ?_
  refine g_seq kr ?_
  refine rS [.v, .v] H53 kr fun gs54 w54 H54 => ?_
  clear H53
  refine g_cond_t kr kr ?_
  refine g_skip kr ?_
  show WP _ _ _ _ _ _
  refine g_seq kr ?_
  refine g_block 1 kr ?_
  refine g_reg0 [0, 1, 2, 3, 4, 5, 6, 7, 8, 9, 10, 11, 12, 13, 14] kr ?_
  refine rp [.v, .v, .v, .v, .l 0, .v, .v, .v, .v, .e (v := .int .u64 (Int.fdiv ((A / 340282366920938463463374607431768211456 % 18446744073709551616 : Nat) : Int) (2 ^ 32))) (v' := .int .u64 (((A / 340282366920938463463374607431768211456 % 18446744073709551616) / 4294967296 : Nat) : Int)) (int_eq (shrN (k := 32) (A / 340282366920938463463374607431768211456 % 18446744073709551616) 4294967296 rfl)), .e (v := .int .u64 (Int.tmod (((A / 340282366920938463463374607431768211456 % 18446744073709551616) / 4294967296 : Nat) : Int) 65536)) (v' := .int .u64 ((((A / 340282366920938463463374607431768211456 % 18446744073709551616) / 4294967296) % 65536 : Nat) : Int)) (int_eq (remN ((A / 340282366920938463463374607431768211456 % 18446744073709551616) / 4294967296) 65536)), .e (v := .int .i64 (IntKind.i64.wrap (((((A / 340282366920938463463374607431768211456 % 18446744073709551616) / 4294967296) % 65536 : Nat) : Int)))) (v' := .int .i64 ((dg A 10 : Nat) : Int)) (int_eq (of_word2 A 10 rfl)), .nw (fun b => .slice (some ⟨b, 0, none⟩) 1 1) #[.int .i64 ((dg A 10 : Nat) : Int)] 3] H54 kr fun gs55 w55 H55 => ?_
  show WPs _ _ _ _ [13, 14] _ _
  clear H54
  refine s_append H55 (some 23) 60 3 1 8 (.tmp 10) (.tmp 22) 1 12 b_37 ((gs55 12).b) 10 1 cap_38 1 cur_39 #[.int .i64 ((dg A 10 : Nat) : Int)] 3 (0, 0) (cellsD (dgs A 10)) ([.int .i64 ((dg A 10 : Nat) : Int)]) (fun b_41 cur_43 => [((gs1 0).b, Obj.cells (Value.cells (uv A)) 24 (0, 0)), (b_41, Obj.cells cur_43 3 (0, 0)), ((gs5 12).b, Obj.cells #[.int .i64 ((dg A 0 : Nat) : Int)] 3 (0, 0)), ((gs10 12).b, Obj.cells #[.int .i64 ((dg A 1 : Nat) : Int)] 3 (0, 0)), ((gs15 12).b, Obj.cells #[.int .i64 ((dg A 2 : Nat) : Int)] 3 (0, 0)), ((gs20 12).b, Obj.cells #[.int .i64 ((dg A 3 : Nat) : Int)] 3 (0, 0)), ((gs25 12).b, Obj.cells #[.int .i64 ((dg A 4 : Nat) : Int)] 3 (0, 0)), ((gs30 12).b, Obj.cells #[.int .i64 ((dg A 5 : Nat) : Int)] 3 (0, 0)), ((gs35 12).b, Obj.cells #[.int .i64 ((dg A 6 : Nat) : Int)] 3 (0, 0)), ((gs40 12).b, Obj.cells #[.int .i64 ((dg A 7 : Nat) : Int)] 3 (0, 0)), ((gs45 12).b, Obj.cells #[.int .i64 ((dg A 8 : Nat) : Int)] 3 (0, 0)), ((gs50 12).b, Obj.cells #[.int .i64 ((dg A 9 : Nat) : Int)] 3 (0, 0)), ((gs55 12).b, Obj.cells #[.int .i64 ((dg A 10 : Nat) : Int)] 3 (0, 0))]) kr kr kr kr kr hr_40' kr kr (by rfl) (by rfl) (by intro u hu; simp at hu; first | exact hu.elim | (rcases hu with rfl | rfl | rfl | rfl <;> rfl) | (rcases hu with rfl | rfl <;> rfl) | (subst hu; rfl)) (by omega) (by unfold maxLen; omega) (fun _ _ => by kernel_rfl) ?_
  intro b_41 cap_42 cur_43 w56 H56 hr_44; clear H55
  have hr_44' : Rw 1 cur_43 cap_42 11 (cellsD (dgs A 11)) := by rw [dgs_succ, cellsD_append]; exact hr_44
  refine rp [.v] H56 kr fun gs57 w57 H57 => ?_
  show WPs _ _ _ _ [] _ _
  clear H56
  refine s_nil ?_
  show WP _ _ _ _ _ _
  refine g_keep [0, 1, 2, 3, 4, 7] fun ρ11 => ?_
  have HK12 := H57.keep
  clear H57
  refine rL [.v, .v, .v] HK12 kr fun gs58 w58 H58 => ?_
  clear HK12
  show WPL _ _ _ _ _ _
  refine g_next ?_
  refine g_seq kr ?_
  refine rS [.v, .v] H58 kr fun gs59 w59 H59 => ?_
  clear H58
  refine g_cond_t kr kr ?_
  refine g_skip kr ?_
  show WP _ _ _ _ _ _
  refine g_seq kr ?_
  refine g_block 1 kr ?_
  refine g_reg0 [0, 1, 2, 3, 4, 5, 6, 7, 8, 9, 10, 11, 12, 13, 14] kr ?_
  refine rp [.v, .v, .v, .v, .l 0, .v, .v, .v, .v, .e (v := .int .u64 (Int.fdiv ((A / 340282366920938463463374607431768211456 % 18446744073709551616 : Nat) : Int) (2 ^ 48))) (v' := .int .u64 (((A / 340282366920938463463374607431768211456 % 18446744073709551616) / 281474976710656 : Nat) : Int)) (int_eq (shrN (k := 48) (A / 340282366920938463463374607431768211456 % 18446744073709551616) 281474976710656 rfl)), .e (v := .int .u64 (Int.tmod (((A / 340282366920938463463374607431768211456 % 18446744073709551616) / 281474976710656 : Nat) : Int) 65536)) (v' := .int .u64 ((((A / 340282366920938463463374607431768211456 % 18446744073709551616) / 281474976710656) % 65536 : Nat) : Int)) (int_eq (remN ((A / 340282366920938463463374607431768211456 % 18446744073709551616) / 281474976710656) 65536)), .e (v := .int .i64 (IntKind.i64.wrap (((((A / 340282366920938463463374607431768211456 % 18446744073709551616) / 281474976710656) % 65536 : Nat) : Int)))) (v' := .int .i64 ((dg A 11 : Nat) : Int)) (int_eq (of_word2 A 11 rfl)), .nw (fun b => .slice (some ⟨b, 0, none⟩) 1 1) #[.int .i64 ((dg A 11 : Nat) : Int)] 3] H59 kr fun gs60 w60 H60 => ?_
  show WPs _ _ _ _ [13, 14] _ _
  clear H59
  refine s_append H60 (some 23) 60 3 1 8 (.tmp 10) (.tmp 22) 1 13 b_41 ((gs60 12).b) 11 1 cap_42 1 cur_43 #[.int .i64 ((dg A 11 : Nat) : Int)] 3 (0, 0) (cellsD (dgs A 11)) ([.int .i64 ((dg A 11 : Nat) : Int)]) (fun b_45 cur_47 => [((gs1 0).b, Obj.cells (Value.cells (uv A)) 24 (0, 0)), (b_45, Obj.cells cur_47 3 (0, 0)), ((gs5 12).b, Obj.cells #[.int .i64 ((dg A 0 : Nat) : Int)] 3 (0, 0)), ((gs10 12).b, Obj.cells #[.int .i64 ((dg A 1 : Nat) : Int)] 3 (0, 0)), ((gs15 12).b, Obj.cells #[.int .i64 ((dg A 2 : Nat) : Int)] 3 (0, 0)), ((gs20 12).b, Obj.cells #[.int .i64 ((dg A 3 : Nat) : Int)] 3 (0, 0)), ((gs25 12).b, Obj.cells #[.int .i64 ((dg A 4 : Nat) : Int)] 3 (0, 0)), ((gs30 12).b, Obj.cells #[.int .i64 ((dg A 5 : Nat) : Int)] 3 (0, 0)), ((gs35 12).b, Obj.cells #[.int .i64 ((dg A 6 : Nat) : Int)] 3 (0, 0)), ((gs40 12).b, Obj.cells #[.int .i64 ((dg A 7 : Nat) : Int)] 3 (0, 0)), ((gs45 12).b, Obj.cells #[.int .i64 ((dg A 8 : Nat) : Int)] 3 (0, 0)), ((gs50 12).b, Obj.cells #[.int .i64 ((dg A 9 : Nat) : Int)] 3 (0, 0)), ((gs55 12).b, Obj.cells #[.int .i64 ((dg A 10 : Nat) : Int)] 3 (0, 0)), ((gs60 12).b, Obj.cells #[.int .i64 ((dg A 11 : Nat) : Int)] 3 (0, 0))]) kr kr kr kr kr hr_44' kr kr (by rfl) (by rfl) (by intro u hu; simp at hu; first | exact hu.elim | (rcases hu with rfl | rfl | rfl | rfl <;> rfl) | (rcases hu with rfl | rfl <;> rfl) | (subst hu; rfl)) (by omega) (by unfold maxLen; omega) (fun _ _ => by kernel_rfl) ?_
  intro b_45 cap_46 cur_47 w61 H61 hr_48; clear H60
  have hr_48' : Rw 1 cur_47 cap_46 12 (cellsD (dgs A 12)) := by rw [dgs_succ, cellsD_append]; exact hr_48
  refine rp [.v] H61 kr fun gs62 w62 H62 => ?_
  show WPs _ _ _ _ [] _ _
  clear H61
  refine s_nil ?_
  show WP _ _ _ _ _ _
  refine g_keep [0, 1, 2, 3, 4, 7] fun ρ12 => ?_
  have HK13 := H62.keep
  clear H62
  refine rL [.v, .v, .v] HK13 kr fun gs63 w63 H63 => ?_
  clear HK13
  show WPL _ _ _ _ _ _
  refine g_next ?_
  refine g_seq kr ?_
  refine rS [.v, .v] H63 kr fun gs64 w64 H64 => ?_
  clear H63
  refine g_cond_t kr kr ?_
  refine g_skip kr ?_
  show WP _ _ _ _ _ _
  refine g_seq kr ?_
  refine g_block 1 kr ?_
  refine g_reg0 [0, 1, 2, 3, 4, 5, 6, 7, 8, 9, 10, 11, 12, 13, 14] kr ?_
  refine rp [.v, .v, .v, .v, .l 0, .v, .v, .v, .v, .e (v := .int .u64 (Int.fdiv ((A / 6277101735386680763835789423207666416102355444464034512896 % 18446744073709551616 : Nat) : Int) (2 ^ 0))) (v' := .int .u64 (((A / 6277101735386680763835789423207666416102355444464034512896 % 18446744073709551616) / 1 : Nat) : Int)) (int_eq (shrN (k := 0) (A / 6277101735386680763835789423207666416102355444464034512896 % 18446744073709551616) 1 rfl)), .e (v := .int .u64 (Int.tmod (((A / 6277101735386680763835789423207666416102355444464034512896 % 18446744073709551616) / 1 : Nat) : Int) 65536)) (v' := .int .u64 ((((A / 6277101735386680763835789423207666416102355444464034512896 % 18446744073709551616) / 1) % 65536 : Nat) : Int)) (int_eq (remN ((A / 6277101735386680763835789423207666416102355444464034512896 % 18446744073709551616) / 1) 65536)), .e (v := .int .i64 (IntKind.i64.wrap (((((A / 6277101735386680763835789423207666416102355444464034512896 % 18446744073709551616) / 1) % 65536 : Nat) : Int)))) (v' := .int .i64 ((dg A 12 : Nat) : Int)) (int_eq (of_word3 A 12 rfl)), .nw (fun b => .slice (some ⟨b, 0, none⟩) 1 1) #[.int .i64 ((dg A 12 : Nat) : Int)] 3] H64 kr fun gs65 w65 H65 => ?_
  show WPs _ _ _ _ [13, 14] _ _
  clear H64
  refine s_append H65 (some 23) 60 3 1 8 (.tmp 10) (.tmp 22) 1 14 b_45 ((gs65 12).b) 12 1 cap_46 1 cur_47 #[.int .i64 ((dg A 12 : Nat) : Int)] 3 (0, 0) (cellsD (dgs A 12)) ([.int .i64 ((dg A 12 : Nat) : Int)]) (fun b_49 cur_51 => [((gs1 0).b, Obj.cells (Value.cells (uv A)) 24 (0, 0)), (b_49, Obj.cells cur_51 3 (0, 0)), ((gs5 12).b, Obj.cells #[.int .i64 ((dg A 0 : Nat) : Int)] 3 (0, 0)), ((gs10 12).b, Obj.cells #[.int .i64 ((dg A 1 : Nat) : Int)] 3 (0, 0)), ((gs15 12).b, Obj.cells #[.int .i64 ((dg A 2 : Nat) : Int)] 3 (0, 0)), ((gs20 12).b, Obj.cells #[.int .i64 ((dg A 3 : Nat) : Int)] 3 (0, 0)), ((gs25 12).b, Obj.cells #[.int .i64 ((dg A 4 : Nat) : Int)] 3 (0, 0)), ((gs30 12).b, Obj.cells #[.int .i64 ((dg A 5 : Nat) : Int)] 3 (0, 0)), ((gs35 12).b, Obj.cells #[.int .i64 ((dg A 6 : Nat) : Int)] 3 (0, 0)), ((gs40 12).b, Obj.cells #[.int .i64 ((dg A 7 : Nat) : Int)] 3 (0, 0)), ((gs45 12).b, Obj.cells #[.int .i64 ((dg A 8 : Nat) : Int)] 3 (0, 0)), ((gs50 12).b, Obj.cells #[.int .i64 ((dg A 9 : Nat) : Int)] 3 (0, 0)), ((gs55 12).b, Obj.cells #[.int .i64 ((dg A 10 : Nat) : Int)] 3 (0, 0)), ((gs60 12).b, Obj.cells #[.int .i64 ((dg A 11 : Nat) : Int)] 3 (0, 0)), ((gs65 12).b, Obj.cells #[.int .i64 ((dg A 12 : Nat) : Int)] 3 (0, 0))]) kr kr kr kr kr hr_48' kr kr (by rfl) (by rfl) (by intro u hu; simp at hu; first | exact hu.elim | (rcases hu with rfl | rfl | rfl | rfl <;> rfl) | (rcases hu with rfl | rfl <;> rfl) | (subst hu; rfl)) (by omega) (by unfold maxLen; omega) (fun _ _ => by kernel_rfl) ?_
  intro b_49 cap_50 cur_51 w66 H66 hr_52; clear H65
  have hr_52' : Rw 1 cur_51 cap_50 13 (cellsD (dgs A 13)) := by rw [dgs_succ, cellsD_append]; exact hr_52
  refine rp [.v] H66 kr fun gs67 w67 H67 => ?_
  show WPs _ _ _ _ [] _ _
  clear H66
  refine s_nil ?_
  show WP _ _ _ _ _ _
  refine g_keep [0, 1, 2, 3, 4, 7] fun ρ13 => ?_
  have HK14 := H67.keep
  clear H67
  refine rL [.v, .v, .v] HK14 kr fun gs68 w68 H68 => ?_
  clear HK14
  show WPL _ _ _ _ _ _
  refine g_next ?_
  refine g_seq kr ?_
  refine rS [.v, .v] H68 kr fun gs69 w69 H69 => ?_
  clear H68
  refine g_cond_t kr kr ?_
  refine g_skip kr ?_
  show WP _ _ _ _ _ _
  refine g_seq kr ?_
  refine g_block 1 kr ?_
  refine g_reg0 [0, 1, 2, 3, 4, 5, 6, 7, 8, 9, 10, 11, 12, 13, 14] kr ?_
  refine rp [.v, .v, .v, .v, .l 0, .v, .v, .v, .v, .e (v := .int .u64 (Int.fdiv ((A / 6277101735386680763835789423207666416102355444464034512896 % 18446744073709551616 : Nat) : Int) (2 ^ 16))) (v' := .int .u64 (((A / 6277101735386680763835789423207666416102355444464034512896 % 18446744073709551616) / 65536 : Nat) : Int)) (int_eq (shrN (k := 16) (A / 6277101735386680763835789423207666416102355444464034512896 % 18446744073709551616) 65536 rfl)), .e (v := .int .u64 (Int.tmod (((A / 6277101735386680763835789423207666416102355444464034512896 % 18446744073709551616) / 65536 : Nat) : Int) 65536)) (v' := .int .u64 ((((A / 6277101735386680763835789423207666416102355444464034512896 % 18446744073709551616) / 65536) % 65536 : Nat) : Int)) (int_eq (remN ((A / 6277101735386680763835789423207666416102355444464034512896 % 18446744073709551616) / 65536) 65536)), .e (v := .int .i64 (IntKind.i64.wrap (((((A / 6277101735386680763835789423207666416102355444464034512896 % 18446744073709551616) / 65536) % 65536 : Nat) : Int)))) (v' := .int .i64 ((dg A 13 : Nat) : Int)) (int_eq (of_word3 A 13 rfl)), .nw (fun b => .slice (some ⟨b, 0, none⟩) 1 1) #[.int .i64 ((dg A 13 : Nat) : Int)] 3] H69 kr fun gs70 w70 H70 => ?_
  show WPs _ _ _ _ [13, 14] _ _
  clear H69
  refine s_append H70 (some 23) 60 3 1 8 (.tmp 10) (.tmp 22) 1 15 b_49 ((gs70 12).b) 13 1 cap_50 1 cur_51 #[.int .i64 ((dg A 13 : Nat) : Int)] 3 (0, 0) (cellsD (dgs A 13)) ([.int .i64 ((dg A 13 : Nat) : Int)]) (fun b_53 cur_55 => [((gs1 0).b, Obj.cells (Value.cells (uv A)) 24 (0, 0)), (b_53, Obj.cells cur_55 3 (0, 0)), ((gs5 12).b, Obj.cells #[.int .i64 ((dg A 0 : Nat) : Int)] 3 (0, 0)), ((gs10 12).b, Obj.cells #[.int .i64 ((dg A 1 : Nat) : Int)] 3 (0, 0)), ((gs15 12).b, Obj.cells #[.int .i64 ((dg A 2 : Nat) : Int)] 3 (0, 0)), ((gs20 12).b, Obj.cells #[.int .i64 ((dg A 3 : Nat) : Int)] 3 (0, 0)), ((gs25 12).b, Obj.cells #[.int .i64 ((dg A 4 : Nat) : Int)] 3 (0, 0)), ((gs30 12).b, Obj.cells #[.int .i64 ((dg A 5 : Nat) : Int)] 3 (0, 0)), ((gs35 12).b, Obj.cells #[.int .i64 ((dg A 6 : Nat) : Int)] 3 (0, 0)), ((gs40 12).b, Obj.cells #[.int .i64 ((dg A 7 : Nat) : Int)] 3 (0, 0)), ((gs45 12).b, Obj.cells #[.int .i64 ((dg A 8 : Nat) : Int)] 3 (0, 0)), ((gs50 12).b, Obj.cells #[.int .i64 ((dg A 9 : Nat) : Int)] 3 (0, 0)), ((gs55 12).b, Obj.cells #[.int .i64 ((dg A 10 : Nat) : Int)] 3 (0, 0)), ((gs60 12).b, Obj.cells #[.int .i64 ((dg A 11 : Nat) : Int)] 3 (0, 0)), ((gs65 12).b, Obj.cells #[.int .i64 ((dg A 12 : Nat) : Int)] 3 (0, 0)), ((gs70 12).b, Obj.cells #[.int .i64 ((dg A 13 : Nat) : Int)] 3 (0, 0))]) kr kr kr kr kr hr_52' kr kr (by rfl) (by rfl) (by intro u hu; simp at hu; first | exact hu.elim | (rcases hu with rfl | rfl | rfl | rfl <;> rfl) | (rcases hu with rfl | rfl <;> rfl) | (subst hu; rfl)) (by omega) (by unfold maxLen; omega) (fun _ _ => by kernel_rfl) ?_
  intro b_53 cap_54 cur_55 w71 H71 hr_56; clear H70
  have hr_56' : Rw 1 cur_55 cap_54 14 (cellsD (dgs A 14)) := by rw [dgs_succ, cellsD_append]; exact hr_56
  refine rp [.v] H71 kr fun gs72 w72 H72 => ?_
  show WPs _ _ _ _ [] _ _
  clear H71
  refine s_nil ?_
  show WP _ _ _ _ _ _
  refine g_keep [0, 1, 2, 3, 4, 7] fun ρ14 => ?_
  have HK15 := H72.keep
  clear H72
  refine rL [.v, .v, .v] HK15 kr fun gs73 w73 H73 => ?_
  clear HK15
  show WPL _ _ _ _ _ _
  refine g_next ?_
  refine g_seq kr ?_
  refine rS [.v, .v] H73 kr fun gs74 w74 H74 => ?_
  clear H73
  refine g_cond_t kr kr ?_
  refine g_skip kr ?_
  show WP _ _ _ _ _ _
  refine g_seq kr ?_
  refine g_block 1 kr ?_
  refine g_reg0 [0, 1, 2, 3, 4, 5, 6, 7, 8, 9, 10, 11, 12, 13, 14] kr ?_
  refine rp [.v, .v, .v, .v, .l 0, .v, .v, .v, .v, .e (v := .int .u64 (Int.fdiv ((A / 6277101735386680763835789423207666416102355444464034512896 % 18446744073709551616 : Nat) : Int) (2 ^ 32))) (v' := .int .u64 (((A / 6277101735386680763835789423207666416102355444464034512896 % 18446744073709551616) / 4294967296 : Nat) : Int)) (int_eq (shrN (k := 32) (A / 6277101735386680763835789423207666416102355444464034512896 % 18446744073709551616) 4294967296 rfl)), .e (v := .int .u64 (Int.tmod (((A / 6277101735386680763835789423207666416102355444464034512896 % 18446744073709551616) / 4294967296 : Nat) : Int) 65536)) (v' := .int .u64 ((((A / 6277101735386680763835789423207666416102355444464034512896 % 18446744073709551616) / 4294967296) % 65536 : Nat) : Int)) (int_eq (remN ((A / 6277101735386680763835789423207666416102355444464034512896 % 18446744073709551616) / 4294967296) 65536)), .e (v := .int .i64 (IntKind.i64.wrap (((((A / 6277101735386680763835789423207666416102355444464034512896 % 18446744073709551616) / 4294967296) % 65536 : Nat) : Int)))) (v' := .int .i64 ((dg A 14 : Nat) : Int)) (int_eq (of_word3 A 14 rfl)), .nw (fun b => .slice (some ⟨b, 0, none⟩) 1 1) #[.int .i64 ((dg A 14 : Nat) : Int)] 3] H74 kr fun gs75 w75 H75 => ?_
  show WPs _ _ _ _ [13, 14] _ _
  clear H74
  refine s_append H75 (some 23) 60 3 1 8 (.tmp 10) (.tmp 22) 1 16 b_53 ((gs75 12).b) 14 1 cap_54 1 cur_55 #[.int .i64 ((dg A 14 : Nat) : Int)] 3 (0, 0) (cellsD (dgs A 14)) ([.int .i64 ((dg A 14 : Nat) : Int)]) (fun b_57 cur_59 => [((gs1 0).b, Obj.cells (Value.cells (uv A)) 24 (0, 0)), (b_57, Obj.cells cur_59 3 (0, 0)), ((gs5 12).b, Obj.cells #[.int .i64 ((dg A 0 : Nat) : Int)] 3 (0, 0)), ((gs10 12).b, Obj.cells #[.int .i64 ((dg A 1 : Nat) : Int)] 3 (0, 0)), ((gs15 12).b, Obj.cells #[.int .i64 ((dg A 2 : Nat) : Int)] 3 (0, 0)), ((gs20 12).b, Obj.cells #[.int .i64 ((dg A 3 : Nat) : Int)] 3 (0, 0)), ((gs25 12).b, Obj.cells #[.int .i64 ((dg A 4 : Nat) : Int)] 3 (0, 0)), ((gs30 12).b, Obj.cells #[.int .i64 ((dg A 5 : Nat) : Int)] 3 (0, 0)), ((gs35 12).b, Obj.cells #[.int .i64 ((dg A 6 : Nat) : Int)] 3 (0, 0)), ((gs40 12).b, Obj.cells #[.int .i64 ((dg A 7 : Nat) : Int)] 3 (0, 0)), ((gs45 12).b, Obj.cells #[.int .i64 ((dg A 8 : Nat) : Int)] 3 (0, 0)), ((gs50 12).b, Obj.cells #[.int .i64 ((dg A 9 : Nat) : Int)] 3 (0, 0)), ((gs55 12).b, Obj.cells #[.int .i64 ((dg A 10 : Nat) : Int)] 3 (0, 0)), ((gs60 12).b, Obj.cells #[.int .i64 ((dg A 11 : Nat) : Int)] 3 (0, 0)), ((gs65 12).b, Obj.cells #[.int .i64 ((dg A 12 : Nat) : Int)] 3 (0, 0)), ((gs70 12).b, Obj.cells #[.int .i64 ((dg A 13 : Nat) : Int)] 3 (0, 0)), ((gs75 12).b, Obj.cells #[.int .i64 ((dg A 14 : Nat) : Int)] 3 (0, 0))]) kr kr kr kr kr hr_56' kr kr (by rfl) (by rfl) (by intro u hu; simp at hu; first | exact hu.elim | (rcases hu with rfl | rfl | rfl | rfl <;> rfl) | (rcases hu with rfl | rfl <;> rfl) | (subst hu; rfl)) (by omega) (by unfold maxLen; omega) (fun _ _ => by kernel_rfl) ?_
  intro b_57 cap_58 cur_59 w76 H76 hr_60; clear H75
  have hr_60' : Rw 1 cur_59 cap_58 15 (cellsD (dgs A 15)) := by rw [dgs_succ, cellsD_append]; exact hr_60
  refine rp [.v] H76 kr fun gs77 w77 H77 => ?_
  show WPs _ _ _ _ [] _ _
  clear H76
  refine s_nil ?_
  show WP _ _ _ _ _ _
  refine g_keep [0, 1, 2, 3, 4, 7] fun ρ15 => ?_
  have HK16 := H77.keep
  clear H77
  refine rL [.v, .v, .v] HK16 kr fun gs78 w78 H78 => ?_
  clear HK16
  show WPL _ _ _ _ _ _
  refine g_next ?_
  refine g_seq kr ?_
  refine rS [.v, .v] H78 kr fun gs79 w79 H79 => ?_
  clear H78
  refine g_cond_t kr kr ?_
  refine g_skip kr ?_
  show WP _ _ _ _ _ _
  refine g_seq kr ?_
  refine g_block 1 kr ?_
  refine g_reg0 [0, 1, 2, 3, 4, 5, 6, 7, 8, 9, 10, 11, 12, 13, 14] kr ?_
  refine rp [.v, .v, .v, .v, .l 0, .v, .v, .v, .v, .e (v := .int .u64 (Int.fdiv ((A / 6277101735386680763835789423207666416102355444464034512896 % 18446744073709551616 : Nat) : Int) (2 ^ 48))) (v' := .int .u64 (((A / 6277101735386680763835789423207666416102355444464034512896 % 18446744073709551616) / 281474976710656 : Nat) : Int)) (int_eq (shrN (k := 48) (A / 6277101735386680763835789423207666416102355444464034512896 % 18446744073709551616) 281474976710656 rfl)), .e (v := .int .u64 (Int.tmod (((A / 6277101735386680763835789423207666416102355444464034512896 % 18446744073709551616) / 281474976710656 : Nat) : Int) 65536)) (v' := .int .u64 ((((A / 6277101735386680763835789423207666416102355444464034512896 % 18446744073709551616) / 281474976710656) % 65536 : Nat) : Int)) (int_eq (remN ((A / 6277101735386680763835789423207666416102355444464034512896 % 18446744073709551616) / 281474976710656) 65536)), .e (v := .int .i64 (IntKind.i64.wrap (((((A / 6277101735386680763835789423207666416102355444464034512896 % 18446744073709551616) / 281474976710656) % 65536 : Nat) : Int)))) (v' := .int .i64 ((dg A 15 : Nat) : Int)) (int_eq (of_word3 A 15 rfl)), .nw (fun b => .slice (some ⟨b, 0, none⟩) 1 1) #[.int .i64 ((dg A 15 : Nat) : Int)] 3] H79 kr fun gs80 w80 H80 => ?_
  show WPs _ _ _ _ [13, 14] _ _
  clear H79
  refine s_append H80 (some 23) 60 3 1 8 (.tmp 10) (.tmp 22) 1 17 b_57 ((gs80 12).b) 15 1 cap_58 1 cur_59 #[.int .i64 ((dg A 15 : Nat) : Int)] 3 (0, 0) (cellsD (dgs A 15)) ([.int .i64 ((dg A 15 : Nat) : Int)]) (fun b_61 cur_63 => [((gs1 0).b, Obj.cells (Value.cells (uv A)) 24 (0, 0)), (b_61, Obj.cells cur_63 3 (0, 0)), ((gs5 12).b, Obj.cells #[.int .i64 ((dg A 0 : Nat) : Int)] 3 (0, 0)), ((gs10 12).b, Obj.cells #[.int .i64 ((dg A 1 : Nat) : Int)] 3 (0, 0)), ((gs15 12).b, Obj.cells #[.int .i64 ((dg A 2 : Nat) : Int)] 3 (0, 0)), ((gs20 12).b, Obj.cells #[.int .i64 ((dg A 3 : Nat) : Int)] 3 (0, 0)), ((gs25 12).b, Obj.cells #[.int .i64 ((dg A 4 : Nat) : Int)] 3 (0, 0)), ((gs30 12).b, Obj.cells #[.int .i64 ((dg A 5 : Nat) : Int)] 3 (0, 0)), ((gs35 12).b, Obj.cells #[.int .i64 ((dg A 6 : Nat) : Int)] 3 (0, 0)), ((gs40 12).b, Obj.cells #[.int .i64 ((dg A 7 : Nat) : Int)] 3 (0, 0)), ((gs45 12).b, Obj.cells #[.int .i64 ((dg A 8 : Nat) : Int)] 3 (0, 0)), ((gs50 12).b, Obj.cells #[.int .i64 ((dg A 9 : Nat) : Int)] 3 (0, 0)), ((gs55 12).b, Obj.cells #[.int .i64 ((dg A 10 : Nat) : Int)] 3 (0, 0)), ((gs60 12).b, Obj.cells #[.int .i64 ((dg A 11 : Nat) : Int)] 3 (0, 0)), ((gs65 12).b, Obj.cells #[.int .i64 ((dg A 12 : Nat) : Int)] 3 (0, 0)), ((gs70 12).b, Obj.cells #[.int .i64 ((dg A 13 : Nat) : Int)] 3 (0, 0)), ((gs75 12).b, Obj.cells #[.int .i64 ((dg A 14 : Nat) : Int)] 3 (0, 0)), ((gs80 12).b, Obj.cells #[.int .i64 ((dg A 15 : Nat) : Int)] 3 (0, 0))]) kr kr kr kr kr hr_60' kr kr (by rfl) (by rfl) (by intro u hu; simp at hu; first | exact hu.elim | (rcases hu with rfl | rfl | rfl | rfl <;> rfl) | (rcases hu with rfl | rfl <;> rfl) | (subst hu; rfl)) (by omega) (by unfold maxLen; omega) (fun _ _ => by kernel_rfl) ?_
  intro b_61 cap_62 cur_63 w81 H81 hr_64; clear H80
  have hr_64' : Rw 1 cur_63 cap_62 16 (cellsD (dgs A 16)) := by rw [dgs_succ, cellsD_append]; exact hr_64
  refine rp [.v] H81 kr fun gs82 w82 H82 => ?_
  show WPs _ _ _ _ [] _ _
  clear H81
  refine s_nil ?_
  show WP _ _ _ _ _ _
  refine g_keep [0, 1, 2, 3, 4, 7] fun ρ16 => ?_
  have HK17 := H82.keep
  clear H82
  refine rL [.v, .v, .v] HK17 kr fun gs83 w83 H83 => ?_
  clear HK17
  show WPL _ _ _ _ _ _
  refine g_next ?_
  refine g_seq kr ?_
  refine rS [.v, .v] H83 kr fun gs84 w84 H84 => ?_
  clear H83
  refine g_cond_f kr kr ?_
  refine g_exit 0 kr ?_
  show WP _ _ _ _ _ _
  refine rS [.v, .v] H84 kr fun gs85 w85 H85 => ?_
  clear H84
  refine g_ret kr ?_
  show ∃ vs, Res _ _ _ _ vs ∧ _
  refine ⟨[.slice (some ⟨b_61, 0, none⟩) 16 cap_62], (.tmp (.slice (some ⟨b_61, 0, none⟩) 16 cap_62) kr .nil), H85.below, ?_⟩
  exact ⟨b_61, cap_62, _, _, dgs A 16, rfl, H85.ge 1 (o := .cells cur_63 3 (0, 0)) kr, H85.get 1 kr, by rw [dgs_length], hr_64', dgs_ok A 16, rfl, vl_dgs16 hA, dgs_length A 16⟩
end Go.Proofs.YtmmloghbnpfedaaDoor

namespace Go.Proofs.YtmmloghbnpfedaaDoor
open Go Go.RowKit
set_option linter.unusedVariables false
set_option maxRecDepth 100000 in
set_option maxHeartbeats 2000000 in
theorem sum_fn (x y : List Nat) (ba nx ca bb ny cb : Nat) (curA curB : Array Value) (hnx : nx = List.length x) (hny : ny = List.length y) (hA : Rw 1 curA ca nx (cellsD x)) (hB : Rw 1 curB cb ny (cellsD y)) (hx : Ok x) (hy : Ok y) (lx : List.length x ≤ 5000) (ly : List.length y ≤ 5000) : FnR Tryd.prog 59 #[.slice (some ⟨ba, 0, none⟩) nx ca, .slice (some ⟨bb, 0, none⟩) ny cb] (fun w => w.heap[ba]? = some (.cells curA 3 (0, 0)) ∧ w.heap[bb]? = some (.cells curB 3 (0, 0))) (RetS 3 1 (fun cur cap n l => (n = List.length l ∧ Rw 1 cur cap n (cellsD l) ∧ Ok l ∧ (vl l = vl x + vl y ∧ List.length l ≤ max (List.length x) (List.length y) + 1 ∧ max (List.length x) (List.length y) ≤ List.length l)))) := by
  subst hnx hny
  refine FnR.intro (c := codeOf Tryd.f59) [.tmp 4] 43 Tryd.func59 kr kr kr fun w hpre => ?_
  have H0 := St.start w
  refine rS [.v] H0 kr fun gs1 w1 H1 => ?_
  clear H0
  refine rS [.nw (fun b => .slice (some ⟨b, 0, none⟩) 0 0) #[] 3, .v] H1 kr fun gs2 w2 H2 => ?_
  clear H1
  refine rS [.v] H2 kr fun gs3 w3 H3 => ?_
  clear H2
  refine g_seq kr ?_
  refine rS [.v] H3 kr fun gs4 w4 H4 => ?_
  clear H3
  refine g_block 0 kr ?_
  have HL1 : St w.heap.size w w4 [((gs2 0).b, Obj.cells #[] 3 (0, 0))] := H4.as kr
  clear H4
  refine g_loop kr (fun mz ρ ww => ∃ (b : Nat) (cap : Nat) (n : Nat) (cur : Array Value) (l : List Nat) (k : Nat) (c : Nat), max (List.length x) (List.length y) + 2 - k = mz ∧ (n = List.length l) ∧ (Rw 1 cur cap n (cellsD l)) ∧ (SumI x y l k (c : Int)) ∧ St w.heap.size w ww [(b, Obj.cells cur 3 (0, 0))] ∧ Is [(0, .slice (some ⟨ba, 0, none⟩) (List.length x) ca), (1, .slice (some ⟨bb, 0, none⟩) (List.length y) cb), (4, .slice none 0 0), (5, .slice (some ⟨b, 0, none⟩) n cap), (6, .int .i64 ((c : Nat) : Int)), (7, .int .i64 ((k : Nat) : Int))] ρ) (max (List.length x) (List.length y) + 2 - 0) ⟨(gs2 0).b, 0, 0, #[], [], 0, 0, rfl, rfl, (Rw.lit #[] 0 rfl (by unfold maxLen; omega)), (SumI.start x y), HL1, (Is.of ⟨kr, kr, kr, kr, kr, kr, trivial⟩)⟩ ?_
  clear HL1
  rintro _ _ w5 ⟨b, cap, n, cur, l, k, c, rfl, hn, hr, hS, H5, _, rfl⟩
  have hc1 := hS.c1; have htop := hS.top; have hxk := ok_getD hx k; have hyk := ok_getD hy k; have hlen := hS.len; have hok := hS.ok
  refine g_seq kr ?_
  refine g_sreg [0, 1, 2, 3, 4, 5, 6, 7, 8, 9, 10, 11, 12, 13] kr kr ?_
  refine rp [.v, .v, .v] H5 kr fun gs6 w6 H6 => ?_
  show WPs _ _ _ _ [3, 4, 5, 6, 7, 8, 9, 10, 11, 12, 13] _ _
  clear H5
  by_cases hc2 : (k : Nat) < List.length x
  · skip
    refine rp [.e (v := .bool (decide (((k : Nat) : Int) < ((List.length x : Nat) : Int)))) (v' := .bool true) (bool_eq (decide_eq_true (by omega))), .v, .n, .n, .n, .n, .v, .v, .n, .n, .v] H6 kr fun gs7 w7 H7 => ?_
    show WPs _ _ _ _ [] _ _
    clear H6
    refine s_nil ?_
    refine g_keep [0, 1, 4, 5, 6, 7, 23] fun ρ1 => ?_
    have HK3 := H7.keep
    clear H7
    refine g_cond_t kr kr ?_
    refine g_skip kr ?_
    show WP _ _ _ _ _ _
    refine g_seq kr ?_
    refine g_block 1 kr ?_
    refine rS [.v, .v, .cp (pre := fun w => w.heap[ba]? = some (.cells curA 3 (0, 0))) (digit_fn x ba (List.length x) ca curA rfl hA (by omega) k (by omega)) [] (fun w hb hd => ((hb.block _ (lt_of_heap hpre.1)).trans hpre.1)), .v, .v, .cp (pre := fun w => w.heap[bb]? = some (.cells curB 3 (0, 0))) (digit_fn y bb (List.length y) cb curB rfl hB (by omega) k (by omega)) [] (fun w hb hd => ((hb.block _ (lt_of_heap hpre.2)).trans hpre.2)), .e (v := .int .i64 (IntKind.i64.wrap (((List.getD x k 0 : Nat) : Int) + ((List.getD y k 0 : Nat) : Int)))) (v' := .int .i64 (((List.getD x k 0) + (List.getD y k 0) : Nat) : Int)) (int_eq (wrapAdd_i64 (a := List.getD x k 0) (b := List.getD y k 0) (by omega))), .v, .e (v := .int .i64 (IntKind.i64.wrap ((((List.getD x k 0) + (List.getD y k 0) : Nat) : Int) + ((c : Nat) : Int)))) (v' := .int .i64 ((((List.getD x k 0) + (List.getD y k 0)) + c : Nat) : Int)) (int_eq (wrapAdd_i64 (a := (List.getD x k 0) + (List.getD y k 0)) (b := c) (by omega))), .v] HK3 kr fun gs8 w8 H8 => ?_
    clear HK3
    refine g_sreg [0, 1, 2, 3, 4, 5] kr kr ?_
    refine rp [.v, .v, .e (v := .int .i64 (Int.tmod ((((List.getD x k 0) + (List.getD y k 0)) + c : Nat) : Int) 65536)) (v' := .int .i64 (((((List.getD x k 0) + (List.getD y k 0)) + c) % 65536 : Nat) : Int)) (int_eq (remN (((List.getD x k 0) + (List.getD y k 0)) + c) 65536)), .nw (fun b => .slice (some ⟨b, 0, none⟩) 1 1) #[.int .i64 (((((List.getD x k 0) + (List.getD y k 0)) + c) % 65536 : Nat) : Int)] 3] H8 kr fun gs9 w9 H9 => ?_
    show WPs _ _ _ _ [4, 5] _ _
    clear H8
    refine s_append H9 (some 39) 60 3 1 8 (.tmp 35) (.tmp 38) 0 1 b ((gs9 3).b) n 1 cap 1 cur #[.int .i64 (((((List.getD x k 0) + (List.getD y k 0)) + c) % 65536 : Nat) : Int)] 3 (0, 0) (cellsD l) ([.int .i64 (((((List.getD x k 0) + (List.getD y k 0)) + c) % 65536 : Nat) : Int)]) (fun b_1 cur_3 => [(b_1, Obj.cells cur_3 3 (0, 0)), ((gs9 3).b, Obj.cells #[.int .i64 (((((List.getD x k 0) + (List.getD y k 0)) + c) % 65536 : Nat) : Int)] 3 (0, 0))]) kr kr kr kr kr hr kr kr (by rfl) (by rfl) (by intro u hu; simp at hu; first | exact hu.elim | (rcases hu with rfl | rfl | rfl | rfl <;> rfl) | (rcases hu with rfl | rfl <;> rfl) | (subst hu; rfl)) (by omega) (by unfold maxLen; omega) (fun _ _ => by kernel_rfl) ?_
    intro b_1 cap_2 cur_3 w10 H10 hr_4; clear H9
    refine rp [.v] H10 kr fun gs11 w11 H11 => ?_
    show WPs _ _ _ _ [] _ _
    clear H10
    refine s_nil ?_
    refine rL [.v, .e (v := .int .i64 (IntKind.i64.wrap (((((List.getD x k 0) + (List.getD y k 0)) + c : Nat) : Int).tdiv 65536))) (v' := .int .i64 (((((List.getD x k 0) + (List.getD y k 0)) + c) / 65536 : Nat) : Int)) (int_eq (quoN_i64 (a := ((List.getD x k 0) + (List.getD y k 0)) + c) (b := 65536) (by omega))), .v] H11 kr fun gs12 w12 H12 => ?_
    clear H11
    show WP _ _ _ _ _ _
    refine g_keep [0, 1, 4, 5, 6, 7, 8, 23] fun ρ2 => ?_
    have HK4 := H12.keep
    clear H12
    refine rL [.v, .e (v := .int .i64 (IntKind.i64.wrap (((k : Nat) : Int) + 1))) (v' := .int .i64 ((k + 1 : Nat) : Int)) (int_eq (wrapAdd_i64 (a := k) (b := 1) (by omega))), .v] HK4 kr fun gs13 w13 H13 => ?_
    clear HK4
    have HL5 : St w.heap.size w w13 [(b_1, Obj.cells cur_3 3 (0, 0)), ((gs9 3).b, Obj.cells #[.int .i64 (((((List.getD x k 0) + (List.getD y k 0)) + c) % 65536 : Nat) : Int)] 3 (0, 0))] := H13.as kr
    clear H13
    have hS2 := hS.go hx hy (by omega)
    have HD6 : St w.heap.size w w13 [(b_1, Obj.cells cur_3 3 (0, 0))] := HL5.sub (List.Sublist.cons_cons _ (List.Sublist.cons _ List.Sublist.slnil))
    show ∃ m, _ ∧ _
    exact ⟨_, (by have := hS2.top; omega), b_1, cap_2, n + 1, cur_3, l ++ [(List.getD x k 0 + List.getD y k 0 + c) % 65536], k + 1, (List.getD x k 0 + List.getD y k 0 + c) / 65536, rfl, (by rw [List.length_append, ← hn]; rfl), (by rw [cellsD_append]; exact hr_4), hS2, HD6, (Is.of ⟨kr, kr, kr, kr, kr, kr, trivial⟩)⟩
  · skip
    refine rp [.e (v := .bool (decide (((k : Nat) : Int) < ((List.length x : Nat) : Int)))) (v' := .bool false) (bool_eq (decide_eq_false (by omega))), .v, .v, .v, .v] H6 kr fun gs14 w14 H14 => ?_
    show WPs _ _ _ _ [8, 9, 10, 11, 12, 13] _ _
    clear H6
    by_cases hc7 : (k : Nat) < List.length y
    · skip
      refine rp [.e (v := .bool (decide (((k : Nat) : Int) < ((List.length y : Nat) : Int)))) (v' := .bool true) (bool_eq (decide_eq_true (by omega))), .v, .v, .n, .n, .v] H14 kr fun gs15 w15 H15 => ?_
      show WPs _ _ _ _ [] _ _
      clear H14
      refine s_nil ?_
      refine g_keep [0, 1, 4, 5, 6, 7, 23] fun ρ3 => ?_
      have HK8 := H15.keep
      clear H15
      refine g_cond_t kr kr ?_
      refine g_skip kr ?_
      show WP _ _ _ _ _ _
      refine g_seq kr ?_
      refine g_block 1 kr ?_
      refine rS [.v, .v, .cp (pre := fun w => w.heap[ba]? = some (.cells curA 3 (0, 0))) (digit_fn x ba (List.length x) ca curA rfl hA (by omega) k (by omega)) [] (fun w hb hd => ((hb.block _ (lt_of_heap hpre.1)).trans hpre.1)), .v, .v, .cp (pre := fun w => w.heap[bb]? = some (.cells curB 3 (0, 0))) (digit_fn y bb (List.length y) cb curB rfl hB (by omega) k (by omega)) [] (fun w hb hd => ((hb.block _ (lt_of_heap hpre.2)).trans hpre.2)), .e (v := .int .i64 (IntKind.i64.wrap (((List.getD x k 0 : Nat) : Int) + ((List.getD y k 0 : Nat) : Int)))) (v' := .int .i64 (((List.getD x k 0) + (List.getD y k 0) : Nat) : Int)) (int_eq (wrapAdd_i64 (a := List.getD x k 0) (b := List.getD y k 0) (by omega))), .v, .e (v := .int .i64 (IntKind.i64.wrap ((((List.getD x k 0) + (List.getD y k 0) : Nat) : Int) + ((c : Nat) : Int)))) (v' := .int .i64 ((((List.getD x k 0) + (List.getD y k 0)) + c : Nat) : Int)) (int_eq (wrapAdd_i64 (a := (List.getD x k 0) + (List.getD y k 0)) (b := c) (by omega))), .v] HK8 kr fun gs16 w16 H16 => ?_
      clear HK8
      refine g_sreg [0, 1, 2, 3, 4, 5] kr kr ?_
      refine rp [.v, .v, .e (v := .int .i64 (Int.tmod ((((List.getD x k 0) + (List.getD y k 0)) + c : Nat) : Int) 65536)) (v' := .int .i64 (((((List.getD x k 0) + (List.getD y k 0)) + c) % 65536 : Nat) : Int)) (int_eq (remN (((List.getD x k 0) + (List.getD y k 0)) + c) 65536)), .nw (fun b => .slice (some ⟨b, 0, none⟩) 1 1) #[.int .i64 (((((List.getD x k 0) + (List.getD y k 0)) + c) % 65536 : Nat) : Int)] 3] H16 kr fun gs17 w17 H17 => ?_
      show WPs _ _ _ _ [4, 5] _ _
      clear H16
      refine s_append H17 (some 39) 60 3 1 8 (.tmp 35) (.tmp 38) 0 1 b ((gs17 3).b) n 1 cap 1 cur #[.int .i64 (((((List.getD x k 0) + (List.getD y k 0)) + c) % 65536 : Nat) : Int)] 3 (0, 0) (cellsD l) ([.int .i64 (((((List.getD x k 0) + (List.getD y k 0)) + c) % 65536 : Nat) : Int)]) (fun b_5 cur_7 => [(b_5, Obj.cells cur_7 3 (0, 0)), ((gs17 3).b, Obj.cells #[.int .i64 (((((List.getD x k 0) + (List.getD y k 0)) + c) % 65536 : Nat) : Int)] 3 (0, 0))]) kr kr kr kr kr hr kr kr (by rfl) (by rfl) (by intro u hu; simp at hu; first | exact hu.elim | (rcases hu with rfl | rfl | rfl | rfl <;> rfl) | (rcases hu with rfl | rfl <;> rfl) | (subst hu; rfl)) (by omega) (by unfold maxLen; omega) (fun _ _ => by kernel_rfl) ?_
      intro b_5 cap_6 cur_7 w18 H18 hr_8; clear H17
      refine rp [.v] H18 kr fun gs19 w19 H19 => ?_
      show WPs _ _ _ _ [] _ _
      clear H18
      refine s_nil ?_
      refine rL [.v, .e (v := .int .i64 (IntKind.i64.wrap (((((List.getD x k 0) + (List.getD y k 0)) + c : Nat) : Int).tdiv 65536))) (v' := .int .i64 (((((List.getD x k 0) + (List.getD y k 0)) + c) / 65536 : Nat) : Int)) (int_eq (quoN_i64 (a := ((List.getD x k 0) + (List.getD y k 0)) + c) (b := 65536) (by omega))), .v] H19 kr fun gs20 w20 H20 => ?_
      clear H19
      show WP _ _ _ _ _ _
      refine g_keep [0, 1, 4, 5, 6, 7, 8, 23] fun ρ4 => ?_
      have HK9 := H20.keep
      clear H20
      refine rL [.v, .e (v := .int .i64 (IntKind.i64.wrap (((k : Nat) : Int) + 1))) (v' := .int .i64 ((k + 1 : Nat) : Int)) (int_eq (wrapAdd_i64 (a := k) (b := 1) (by omega))), .v] HK9 kr fun gs21 w21 H21 => ?_
      clear HK9
      have HL10 : St w.heap.size w w21 [(b_5, Obj.cells cur_7 3 (0, 0)), ((gs17 3).b, Obj.cells #[.int .i64 (((((List.getD x k 0) + (List.getD y k 0)) + c) % 65536 : Nat) : Int)] 3 (0, 0))] := H21.as kr
      clear H21
      have hS2 := hS.go hx hy (by omega)
      have HD11 : St w.heap.size w w21 [(b_5, Obj.cells cur_7 3 (0, 0))] := HL10.sub (List.Sublist.cons_cons _ (List.Sublist.cons _ List.Sublist.slnil))
      show ∃ m, _ ∧ _
      exact ⟨_, (by have := hS2.top; omega), b_5, cap_6, n + 1, cur_7, l ++ [(List.getD x k 0 + List.getD y k 0 + c) % 65536], k + 1, (List.getD x k 0 + List.getD y k 0 + c) / 65536, rfl, (by rw [List.length_append, ← hn]; rfl), (by rw [cellsD_append]; exact hr_8), hS2, HD11, (Is.of ⟨kr, kr, kr, kr, kr, kr, trivial⟩)⟩
    · skip
      refine rp [.e (v := .bool (decide (((k : Nat) : Int) < ((List.length y : Nat) : Int)))) (v' := .bool false) (bool_eq (decide_eq_false (by omega))), .v, .v, .v] H14 kr fun gs22 w22 H22 => ?_
      show WPs _ _ _ _ [12, 13] _ _
      clear H14
      by_cases hc12 : (c : Nat) > 0
      · skip
        refine rp [.e (v := .bool (decide (0 < ((c : Nat) : Int)))) (v' := .bool true) (bool_eq (decide_eq_true (by omega))), .v] H22 kr fun gs23 w23 H23 => ?_
        show WPs _ _ _ _ [] _ _
        clear H22
        refine s_nil ?_
        refine g_keep [0, 1, 4, 5, 6, 7, 23] fun ρ5 => ?_
        have HK13 := H23.keep
        clear H23
        refine g_cond_t kr kr ?_
        refine g_skip kr ?_
        show WP _ _ _ _ _ _
        refine g_seq kr ?_
        refine g_block 1 kr ?_
        refine rS [.v, .v, .cp (pre := fun w => w.heap[ba]? = some (.cells curA 3 (0, 0))) (digit_fn x ba (List.length x) ca curA rfl hA (by omega) k (by omega)) [] (fun w hb hd => ((hb.block _ (lt_of_heap hpre.1)).trans hpre.1)), .v, .v, .cp (pre := fun w => w.heap[bb]? = some (.cells curB 3 (0, 0))) (digit_fn y bb (List.length y) cb curB rfl hB (by omega) k (by omega)) [] (fun w hb hd => ((hb.block _ (lt_of_heap hpre.2)).trans hpre.2)), .e (v := .int .i64 (IntKind.i64.wrap (((List.getD x k 0 : Nat) : Int) + ((List.getD y k 0 : Nat) : Int)))) (v' := .int .i64 (((List.getD x k 0) + (List.getD y k 0) : Nat) : Int)) (int_eq (wrapAdd_i64 (a := List.getD x k 0) (b := List.getD y k 0) (by omega))), .v, .e (v := .int .i64 (IntKind.i64.wrap ((((List.getD x k 0) + (List.getD y k 0) : Nat) : Int) + ((c : Nat) : Int)))) (v' := .int .i64 ((((List.getD x k 0) + (List.getD y k 0)) + c : Nat) : Int)) (int_eq (wrapAdd_i64 (a := (List.getD x k 0) + (List.getD y k 0)) (b := c) (by omega))), .v] HK13 kr fun gs24 w24 H24 => ?_
        clear HK13
        refine g_sreg [0, 1, 2, 3, 4, 5] kr kr ?_
        refine rp [.v, .v, .e (v := .int .i64 (Int.tmod ((((List.getD x k 0) + (List.getD y k 0)) + c : Nat) : Int) 65536)) (v' := .int .i64 (((((List.getD x k 0) + (List.getD y k 0)) + c) % 65536 : Nat) : Int)) (int_eq (remN (((List.getD x k 0) + (List.getD y k 0)) + c) 65536)), .nw (fun b => .slice (some ⟨b, 0, none⟩) 1 1) #[.int .i64 (((((List.getD x k 0) + (List.getD y k 0)) + c) % 65536 : Nat) : Int)] 3] H24 kr fun gs25 w25 H25 => ?_
        show WPs _ _ _ _ [4, 5] _ _
        clear H24
        refine s_append H25 (some 39) 60 3 1 8 (.tmp 35) (.tmp 38) 0 1 b ((gs25 3).b) n 1 cap 1 cur #[.int .i64 (((((List.getD x k 0) + (List.getD y k 0)) + c) % 65536 : Nat) : Int)] 3 (0, 0) (cellsD l) ([.int .i64 (((((List.getD x k 0) + (List.getD y k 0)) + c) % 65536 : Nat) : Int)]) (fun b_9 cur_11 => [(b_9, Obj.cells cur_11 3 (0, 0)), ((gs25 3).b, Obj.cells #[.int .i64 (((((List.getD x k 0) + (List.getD y k 0)) + c) % 65536 : Nat) : Int)] 3 (0, 0))]) kr kr kr kr kr hr kr kr (by rfl) (by rfl) (by intro u hu; simp at hu; first | exact hu.elim | (rcases hu with rfl | rfl | rfl | rfl <;> rfl) | (rcases hu with rfl | rfl <;> rfl) | (subst hu; rfl)) (by omega) (by unfold maxLen; omega) (fun _ _ => by kernel_rfl) ?_
        intro b_9 cap_10 cur_11 w26 H26 hr_12; clear H25
        refine rp [.v] H26 kr fun gs27 w27 H27 => ?_
        show WPs _ _ _ _ [] _ _
        clear H26
        refine s_nil ?_
        refine rL [.v, .e (v := .int .i64 (IntKind.i64.wrap (((((List.getD x k 0) + (List.getD y k 0)) + c : Nat) : Int).tdiv 65536))) (v' := .int .i64 (((((List.getD x k 0) + (List.getD y k 0)) + c) / 65536 : Nat) : Int)) (int_eq (quoN_i64 (a := ((List.getD x k 0) + (List.getD y k 0)) + c) (b := 65536) (by omega))), .v] H27 kr fun gs28 w28 H28 => ?_
        clear H27
        show WP _ _ _ _ _ _
        refine g_keep [0, 1, 4, 5, 6, 7, 8, 23] fun ρ6 => ?_
        have HK14 := H28.keep
        clear H28
        refine rL [.v, .e (v := .int .i64 (IntKind.i64.wrap (((k : Nat) : Int) + 1))) (v' := .int .i64 ((k + 1 : Nat) : Int)) (int_eq (wrapAdd_i64 (a := k) (b := 1) (by omega))), .v] HK14 kr fun gs29 w29 H29 => ?_
        clear HK14
        have HL15 : St w.heap.size w w29 [(b_9, Obj.cells cur_11 3 (0, 0)), ((gs25 3).b, Obj.cells #[.int .i64 (((((List.getD x k 0) + (List.getD y k 0)) + c) % 65536 : Nat) : Int)] 3 (0, 0))] := H29.as kr
        clear H29
        have hS2 := hS.go hx hy (by omega)
        have HD16 : St w.heap.size w w29 [(b_9, Obj.cells cur_11 3 (0, 0))] := HL15.sub (List.Sublist.cons_cons _ (List.Sublist.cons _ List.Sublist.slnil))
        show ∃ m, _ ∧ _
        exact ⟨_, (by have := hS2.top; omega), b_9, cap_10, n + 1, cur_11, l ++ [(List.getD x k 0 + List.getD y k 0 + c) % 65536], k + 1, (List.getD x k 0 + List.getD y k 0 + c) / 65536, rfl, (by rw [List.length_append, ← hn]; rfl), (by rw [cellsD_append]; exact hr_12), hS2, HD16, (Is.of ⟨kr, kr, kr, kr, kr, kr, trivial⟩)⟩
      · skip
        refine rp [.e (v := .bool (decide (0 < ((c : Nat) : Int)))) (v' := .bool false) (bool_eq (decide_eq_false (by omega))), .v] H22 kr fun gs30 w30 H30 => ?_
        show WPs _ _ _ _ [] _ _
        clear H22
        refine s_nil ?_
        refine g_keep [0, 1, 4, 5, 6, 7, 23] fun ρ7 => ?_
        have HK17 := H30.keep
        clear H30
        refine g_cond_f kr kr ?_
        refine g_exit 0 kr ?_
        show WP _ _ _ _ _ _
        refine rS [.v, .v] HK17 kr fun gs31 w31 H31 => ?_
        clear HK17
        refine g_ret kr ?_
        show ∃ vs, Res _ _ _ _ vs ∧ _
        refine ⟨[.slice (some ⟨b, 0, none⟩) n cap], (.tmp (.slice (some ⟨b, 0, none⟩) n cap) kr .nil), H31.below, ?_⟩
        exact ⟨b, cap, _, _, l, rfl, H31.ge 0 (o := .cells cur 3 (0, 0)) kr, H31.get 0 kr, hn, hr, hok, hS.done (by omega) (by omega) (by omega), by omega, by omega⟩
end Go.Proofs.YtmmloghbnpfedaaDoor

namespace Go.Proofs.YtmmloghbnpfedaaDoor
open Go Go.RowKit
set_option linter.unusedVariables false
set_option maxRecDepth 100000 in
set_option maxHeartbeats 2000000 in
theorem less_fn (x y : List Nat) (ba nx ca bb ny cb : Nat) (curA curB : Array Value) (hnx : nx = List.length x) (hny : ny = List.length y) (hA : Rw 1 curA ca nx (cellsD x)) (hB : Rw 1 curB cb ny (cellsD y)) (hx : Ok x) (hy : Ok y) (lx : List.length x ≤ 5000) (ly : List.length y ≤ 5000) : FnP Tryd.prog 37 #[.slice (some ⟨ba, 0, none⟩) nx ca, .slice (some ⟨bb, 0, none⟩) ny cb] (fun w => w.heap[ba]? = some (.cells curA 3 (0, 0)) ∧ w.heap[bb]? = some (.cells curB 3 (0, 0))) (.bool (ls x y)) := by
  subst hnx hny
  refine FnP.intro (c := codeOf Tryd.f37) [.tmp 4] 35 Tryd.func37 kr kr kr fun w hpre => ?_
  have H0 := St.start w
  refine rS [.v] H0 kr fun gs1 w1 H1 => ?_
  clear H0
  refine rS [.v, .v, .v] H1 kr fun gs2 w2 H2 => ?_
  clear H1
  refine g_seq kr ?_
  refine g_sreg [0, 1, 2, 3] kr kr ?_
  refine rp [.v, .v, .v] H2 kr fun gs3 w3 H3 => ?_
  show WPs _ _ _ _ [3] _ _
  clear H2
  by_cases hc1 : (List.length y : Nat) > List.length x
  · skip
    refine rp [.e (v := .bool (decide (((List.length x : Nat) : Int) < ((List.length y : Nat) : Int)))) (v' := .bool true) (bool_eq (decide_eq_true (by omega)))] H3 kr fun gs4 w4 H4 => ?_
    show WPs _ _ _ _ [] _ _
    clear H3
    refine s_nil ?_
    refine g_cond_t kr kr ?_
    refine rL [.v, .v, .v] H4 kr fun gs5 w5 H5 => ?_
    clear H4
    show WP _ _ _ _ _ _
    refine g_seq kr ?_
    refine rS [.v, .e (v := .int .i64 (IntKind.i64.wrap (((List.length y : Nat) : Int) - 1))) (v' := .int .i64 (((List.length y : Nat) : Int) - 1)) (int_eq (wrap_i64 (by omega) (by omega))), .v] H5 kr fun gs6 w6 H6 => ?_
    clear H5
    refine g_block 0 kr ?_
    have HL2 : St w.heap.size w w6 [] := H6.as kr
    clear H6
    refine g_loop kr (fun mz ρ ww => ∃ (j : Nat), j = mz ∧ (j ≤ 5000) ∧ (Same x y (((j : Nat) : Int) - 1)) ∧ St w.heap.size w ww [] ∧ Is [(0, .slice (some ⟨ba, 0, none⟩) (List.length x) ca), (1, .slice (some ⟨bb, 0, none⟩) (List.length y) cb), (5, .int .i64 ((List.length y : Nat) : Int)), (6, .int .i64 (((j : Nat) : Int) - 1)), (12, .bool true)] ρ) (List.length y) ⟨List.length y, rfl, (by omega), (Same.start x y _ (by omega) (by omega)), HL2, (Is.of ⟨kr, kr, kr, kr, kr, trivial⟩)⟩ ?_
    clear HL2
    rintro _ _ w7 ⟨j, rfl, hj, hs, H7, _, rfl⟩
    refine g_seq kr ?_
    refine g_sreg [0, 1] kr kr ?_
    refine rp [.v] H7 kr fun gs8 w8 H8 => ?_
    show WPs _ _ _ _ [1] _ _
    clear H7
    by_cases hc3 : (((j : Nat) : Int) - 1 : Int) ≥ 0
    · skip
      refine rp [.e (v := .bool (decide (0 ≤ ((j : Nat) : Int) - 1))) (v' := .bool true) (bool_eq (decide_eq_true (by omega)))] H8 kr fun gs9 w9 H9 => ?_
      show WPs _ _ _ _ [] _ _
      clear H8
      refine s_nil ?_
      refine g_cond_t kr kr ?_
      refine g_skip kr ?_
      show WP _ _ _ _ _ _
      refine g_seq kr ?_
      refine g_block 1 kr ?_
      refine g_sreg [0, 1, 2, 3, 4, 5, 6] kr kr ?_
      refine rp [.v] H9 kr fun gs10 w10 H10 => ?_
      show WPs _ _ _ _ [1, 2, 3, 4, 5, 6] _ _
      clear H9
      refine s_now 6 (v := .int .i64 (((j : Nat) : Int) - 1)) (v' := .int .i64 ((j - 1 : Nat) : Int)) (int_eq (show (((j : Nat) : Int) - 1) = ((j - 1 : Nat) : Int) from by omega)) kr ?_
      refine s_now 17 (v := .int .i64 (((j : Nat) : Int) - 1)) (v' := .int .i64 ((j - 1 : Nat) : Int)) (int_eq (show (((j : Nat) : Int) - 1) = ((j - 1 : Nat) : Int) from by omega)) kr ?_
      refine rp [.v, .cp (pre := fun w => w.heap[ba]? = some (.cells curA 3 (0, 0))) (digit_fn x ba (List.length x) ca curA rfl hA (by omega) (j - 1) (by omega)) [] (fun w hb hd => ((hb.block _ (lt_of_heap hpre.1)).trans hpre.1)), .v, .v, .cp (pre := fun w => w.heap[bb]? = some (.cells curB 3 (0, 0))) (digit_fn y bb (List.length y) cb curB rfl hB (by omega) (j - 1) (by omega)) [] (fun w hb hd => ((hb.block _ (lt_of_heap hpre.2)).trans hpre.2))] H10 kr fun gs11 w11 H11 => ?_
      show WPs _ _ _ _ [6] _ _
      clear H10
      by_cases hc4 : (List.getD x (j - 1) 0 : Nat) ≠ List.getD y (j - 1) 0
      · skip
        refine rp [.e (v := .bool (!(((List.getD x (j - 1) 0 : Nat) : Int) == ((List.getD y (j - 1) 0 : Nat) : Int)))) (v' := .bool true) (bool_eq (by rw [beq_eq_false_iff_ne.2 (by omega)]; rfl))] H11 kr fun gs12 w12 H12 => ?_
        show WPs _ _ _ _ [] _ _
        clear H11
        refine s_nil ?_
        refine g_keep [0, 1, 5, 6, 12, 18, 27] fun ρ1 => ?_
        have HK5 := H12.keep
        clear H12
        refine g_cond_t kr kr ?_
        refine rS [.v, .v, .cp (pre := fun w => w.heap[ba]? = some (.cells curA 3 (0, 0))) (digit_fn x ba (List.length x) ca curA rfl hA (by omega) (j - 1) (by omega)) [] (fun w hb hd => ((hb.block _ (lt_of_heap hpre.1)).trans hpre.1)), .v, .v, .cp (pre := fun w => w.heap[bb]? = some (.cells curB 3 (0, 0))) (digit_fn y bb (List.length y) cb curB rfl hB (by omega) (j - 1) (by omega)) [] (fun w hb hd => ((hb.block _ (lt_of_heap hpre.2)).trans hpre.2)), .e (v := .bool (decide (((List.getD x (j - 1) 0 : Nat) : Int) < ((List.getD y (j - 1) 0 : Nat) : Int)))) (v' := .bool (ls x y)) (bool_eq (ls_digit hx hy (j - 1) (fun t ht => hs t (by omega)) (by unfold dAt; omega))), .v] HK5 kr fun gs13 w13 H13 => ?_
        clear HK5
        refine g_ret kr ?_
        show ∃ vs, Res _ _ _ _ vs ∧ _
        refine ⟨[.bool (ls x y)], (.tmp (.bool (ls x y)) kr .nil), ?_, H13.below⟩
        rfl
      · skip
        refine rp [.e (v := .bool (!(((List.getD x (j - 1) 0 : Nat) : Int) == ((List.getD y (j - 1) 0 : Nat) : Int)))) (v' := .bool false) (bool_eq (by rw [beq_iff_eq.2 (by omega)]; rfl))] H11 kr fun gs14 w14 H14 => ?_
        show WPs _ _ _ _ [] _ _
        clear H11
        refine s_nil ?_
        refine g_keep [0, 1, 5, 6, 12, 18, 27] fun ρ2 => ?_
        have HK6 := H14.keep
        clear H14
        refine g_cond_f kr kr ?_
        refine g_skip kr ?_
        show WP _ _ _ _ _ _
        refine rL [.v, .e (v := .int .i64 (IntKind.i64.wrap (((j - 1 : Nat) : Int) - 1))) (v' := .int .i64 (((j - 1 : Nat) : Int) - 1)) (int_eq (wrap_i64 (by omega) (by omega))), .v] HK6 kr fun gs15 w15 H15 => ?_
        clear HK6
        have HL7 : St w.heap.size w w15 [] := H15.as kr
        clear H15
        show ∃ m, _ ∧ _
        exact ⟨_, (by omega), (j - 1), rfl, (by omega), (Same.down (j := j - 1) (fun t ht => hs t (by omega)) (by unfold dAt; omega)), HL7, (Is.of ⟨kr, kr, kr, kr, kr, trivial⟩)⟩
    · skip
      refine rp [.e (v := .bool (decide (0 ≤ ((j : Nat) : Int) - 1))) (v' := .bool false) (bool_eq (decide_eq_false (by omega)))] H8 kr fun gs16 w16 H16 => ?_
      show WPs _ _ _ _ [] _ _
      clear H8
      refine s_nil ?_
      refine g_cond_f kr kr ?_
      refine g_exit 0 kr ?_
      show WP _ _ _ _ _ _
      refine rS [.v] H16 kr fun gs17 w17 H17 => ?_
      clear H16
      refine g_ret kr ?_
      show ∃ vs, Res _ _ _ _ vs ∧ _
      refine ⟨[.bool false], (.tmp (.bool false) kr .nil), ?_, H17.below⟩
      exact congrArg Value.bool (ls_none (x := x) (y := y) fun t => hs t (by omega)).symm
  · skip
    refine rp [.e (v := .bool (decide (((List.length x : Nat) : Int) < ((List.length y : Nat) : Int)))) (v' := .bool false) (bool_eq (decide_eq_false (by omega)))] H3 kr fun gs18 w18 H18 => ?_
    show WPs _ _ _ _ [] _ _
    clear H3
    refine s_nil ?_
    refine g_cond_f kr kr ?_
    refine g_skip kr ?_
    show WP _ _ _ _ _ _
    refine g_seq kr ?_
    refine rS [.v, .e (v := .int .i64 (IntKind.i64.wrap (((List.length x : Nat) : Int) - 1))) (v' := .int .i64 (((List.length x : Nat) : Int) - 1)) (int_eq (wrap_i64 (by omega) (by omega))), .v] H18 kr fun gs19 w19 H19 => ?_
    clear H18
    refine g_block 0 kr ?_
    have HL8 : St w.heap.size w w19 [] := H19.as kr
    clear H19
    refine g_loop kr (fun mz ρ ww => ∃ (j : Nat), j = mz ∧ (j ≤ 5000) ∧ (Same x y (((j : Nat) : Int) - 1)) ∧ St w.heap.size w ww [] ∧ Is [(0, .slice (some ⟨ba, 0, none⟩) (List.length x) ca), (1, .slice (some ⟨bb, 0, none⟩) (List.length y) cb), (5, .int .i64 ((List.length x : Nat) : Int)), (6, .int .i64 (((j : Nat) : Int) - 1)), (12, .bool false)] ρ) (List.length x) ⟨List.length x, rfl, (by omega), (Same.start x y _ (by omega) (by omega)), HL8, (Is.of ⟨kr, kr, kr, kr, kr, trivial⟩)⟩ ?_
    clear HL8
    rintro _ _ w20 ⟨j, rfl, hj, hs, H20, _, rfl⟩
    refine g_seq kr ?_
    refine g_sreg [0, 1] kr kr ?_
    refine rp [.v] H20 kr fun gs21 w21 H21 => ?_
    show WPs _ _ _ _ [1] _ _
    clear H20
    by_cases hc9 : (((j : Nat) : Int) - 1 : Int) ≥ 0
    · skip
      refine rp [.e (v := .bool (decide (0 ≤ ((j : Nat) : Int) - 1))) (v' := .bool true) (bool_eq (decide_eq_true (by omega)))] H21 kr fun gs22 w22 H22 => ?_
      show WPs _ _ _ _ [] _ _
      clear H21
      refine s_nil ?_
      refine g_cond_t kr kr ?_
      refine g_skip kr ?_
      show WP _ _ _ _ _ _
      refine g_seq kr ?_
      refine g_block 1 kr ?_
      refine g_sreg [0, 1, 2, 3, 4, 5, 6] kr kr ?_
      refine rp [.v] H22 kr fun gs23 w23 H23 => ?_
      show WPs _ _ _ _ [1, 2, 3, 4, 5, 6] _ _
      clear H22
      refine s_now 6 (v := .int .i64 (((j : Nat) : Int) - 1)) (v' := .int .i64 ((j - 1 : Nat) : Int)) (int_eq (show (((j : Nat) : Int) - 1) = ((j - 1 : Nat) : Int) from by omega)) kr ?_
      refine s_now 17 (v := .int .i64 (((j : Nat) : Int) - 1)) (v' := .int .i64 ((j - 1 : Nat) : Int)) (int_eq (show (((j : Nat) : Int) - 1) = ((j - 1 : Nat) : Int) from by omega)) kr ?_
      refine rp [.v, .cp (pre := fun w => w.heap[ba]? = some (.cells curA 3 (0, 0))) (digit_fn x ba (List.length x) ca curA rfl hA (by omega) (j - 1) (by omega)) [] (fun w hb hd => ((hb.block _ (lt_of_heap hpre.1)).trans hpre.1)), .v, .v, .cp (pre := fun w => w.heap[bb]? = some (.cells curB 3 (0, 0))) (digit_fn y bb (List.length y) cb curB rfl hB (by omega) (j - 1) (by omega)) [] (fun w hb hd => ((hb.block _ (lt_of_heap hpre.2)).trans hpre.2))] H23 kr fun gs24 w24 H24 => ?_
      show WPs _ _ _ _ [6] _ _
      clear H23
      by_cases hc10 : (List.getD x (j - 1) 0 : Nat) ≠ List.getD y (j - 1) 0
      · skip
        refine rp [.e (v := .bool (!(((List.getD x (j - 1) 0 : Nat) : Int) == ((List.getD y (j - 1) 0 : Nat) : Int)))) (v' := .bool true) (bool_eq (by rw [beq_eq_false_iff_ne.2 (by omega)]; rfl))] H24 kr fun gs25 w25 H25 => ?_
        show WPs _ _ _ _ [] _ _
        clear H24
        refine s_nil ?_
        refine g_keep [0, 1, 5, 6, 12, 18, 27] fun ρ3 => ?_
        have HK11 := H25.keep
        clear H25
        refine g_cond_t kr kr ?_
        refine rS [.v, .v, .cp (pre := fun w => w.heap[ba]? = some (.cells curA 3 (0, 0))) (digit_fn x ba (List.length x) ca curA rfl hA (by omega) (j - 1) (by omega)) [] (fun w hb hd => ((hb.block _ (lt_of_heap hpre.1)).trans hpre.1)), .v, .v, .cp (pre := fun w => w.heap[bb]? = some (.cells curB 3 (0, 0))) (digit_fn y bb (List.length y) cb curB rfl hB (by omega) (j - 1) (by omega)) [] (fun w hb hd => ((hb.block _ (lt_of_heap hpre.2)).trans hpre.2)), .e (v := .bool (decide (((List.getD x (j - 1) 0 : Nat) : Int) < ((List.getD y (j - 1) 0 : Nat) : Int)))) (v' := .bool (ls x y)) (bool_eq (ls_digit hx hy (j - 1) (fun t ht => hs t (by omega)) (by unfold dAt; omega))), .v] HK11 kr fun gs26 w26 H26 => ?_
        clear HK11
        refine g_ret kr ?_
        show ∃ vs, Res _ _ _ _ vs ∧ _
        refine ⟨[.bool (ls x y)], (.tmp (.bool (ls x y)) kr .nil), ?_, H26.below⟩
        rfl
      · skip
        refine rp [.e (v := .bool (!(((List.getD x (j - 1) 0 : Nat) : Int) == ((List.getD y (j - 1) 0 : Nat) : Int)))) (v' := .bool false) (bool_eq (by rw [beq_iff_eq.2 (by omega)]; rfl))] H24 kr fun gs27 w27 H27 => ?_
        show WPs _ _ _ _ [] _ _
        clear H24
        refine s_nil ?_
        refine g_keep [0, 1, 5, 6, 12, 18, 27] fun ρ4 => ?_
        have HK12 := H27.keep
        clear H27
        refine g_cond_f kr kr ?_
        refine g_skip kr ?_
        show WP _ _ _ _ _ _
        refine rL [.v, .e (v := .int .i64 (IntKind.i64.wrap (((j - 1 : Nat) : Int) - 1))) (v' := .int .i64 (((j - 1 : Nat) : Int) - 1)) (int_eq (wrap_i64 (by omega) (by omega))), .v] HK12 kr fun gs28 w28 H28 => ?_
        clear HK12
        have HL13 : St w.heap.size w w28 [] := H28.as kr
        clear H28
        show ∃ m, _ ∧ _
        exact ⟨_, (by omega), (j - 1), rfl, (by omega), (Same.down (j := j - 1) (fun t ht => hs t (by omega)) (by unfold dAt; omega)), HL13, (Is.of ⟨kr, kr, kr, kr, kr, trivial⟩)⟩
    · skip
      refine rp [.e (v := .bool (decide (0 ≤ ((j : Nat) : Int) - 1))) (v' := .bool false) (bool_eq (decide_eq_false (by omega)))] H21 kr fun gs29 w29 H29 => ?_
      show WPs _ _ _ _ [] _ _
      clear H21
      refine s_nil ?_
      refine g_cond_f kr kr ?_
      refine g_exit 0 kr ?_
      show WP _ _ _ _ _ _
      refine rS [.v] H29 kr fun gs30 w30 H30 => ?_
      clear H29
      refine g_ret kr ?_
      show ∃ vs, Res _ _ _ _ vs ∧ _
      refine ⟨[.bool false], (.tmp (.bool false) kr .nil), ?_, H30.below⟩
      exact congrArg Value.bool (ls_none (x := x) (y := y) fun t => hs t (by omega)).symm
set_option maxRecDepth 100000 in
set_option maxHeartbeats 2000000 in
theorem take_fn (x y : List Nat) (ba nx ca bb ny cb : Nat) (curA curB : Array Value) (hnx : nx = List.length x) (hny : ny = List.length y) (hA : Rw 1 curA ca nx (cellsD x)) (hB : Rw 1 curB cb ny (cellsD y)) (hx : Ok x) (hy : Ok y) (lx : List.length x ≤ 5000) (ly : List.length y ≤ 5000) (hle : vl y ≤ vl x) : FnR Tryd.prog 60 #[.slice (some ⟨ba, 0, none⟩) nx ca, .slice (some ⟨bb, 0, none⟩) ny cb] (fun w => w.heap[ba]? = some (.cells curA 3 (0, 0)) ∧ w.heap[bb]? = some (.cells curB 3 (0, 0))) (RetS 3 1 (fun cur cap n l => (n = List.length l ∧ Rw 1 cur cap n (cellsD l) ∧ Ok l ∧ (vl l = vl x - vl y ∧ List.length l = List.length x)))) := by
  subst hnx hny
  refine FnR.intro (c := codeOf Tryd.f60) [.tmp 4] 35 Tryd.func60 kr kr kr fun w hpre => ?_
  have H0 := St.start w
  refine rS [.v] H0 kr fun gs1 w1 H1 => ?_
  clear H0
  refine rS [.nw (fun b => .slice (some ⟨b, 0, none⟩) 0 0) #[] 3, .v] H1 kr fun gs2 w2 H2 => ?_
  clear H1
  refine rS [.v] H2 kr fun gs3 w3 H3 => ?_
  clear H2
  refine g_seq kr ?_
  refine rS [.v, .v, .v] H3 kr fun gs4 w4 H4 => ?_
  clear H3
  refine g_block 0 kr ?_
  have HL1 : St w.heap.size w w4 [((gs2 0).b, Obj.cells #[] 3 (0, 0))] := H4.as kr
  clear H4
  refine g_loop kr (fun mz ρ ww => ∃ (b : Nat) (cap : Nat) (n : Nat) (cur : Array Value) (l : List Nat) (k : Nat) (c : Nat), List.length x + 1 - k = mz ∧ (n = List.length l) ∧ (Rw 1 cur cap n (cellsD l)) ∧ (k ≤ List.length x) ∧ (TakeI x y l k (c : Int)) ∧ St w.heap.size w ww [(b, Obj.cells cur 3 (0, 0))] ∧ Is [(0, .slice (some ⟨ba, 0, none⟩) (List.length x) ca), (1, .slice (some ⟨bb, 0, none⟩) (List.length y) cb), (4, .slice none 0 0), (5, .slice (some ⟨b, 0, none⟩) n cap), (6, .int .i64 ((c : Nat) : Int)), (11, .int .i64 ((List.length x : Nat) : Int)), (12, .int .i64 ((k : Nat) : Int))] ρ) (List.length x + 1 - 0) ⟨(gs2 0).b, 0, 0, #[], [], 0, 0, rfl, rfl, (Rw.lit #[] 0 rfl (by unfold maxLen; omega)), (by omega), (TakeI.start x y), HL1, (Is.of ⟨kr, kr, kr, kr, kr, kr, kr, trivial⟩)⟩ ?_
  clear HL1
  rintro _ _ w5 ⟨b, cap, n, cur, l, k, c, rfl, hn, hr, hk, hS, H5, _, rfl⟩
  have hc0 := hS.c0; have hc1 := hS.c1; have hxk := ok_getD hx k; have hyk := ok_getD hy k; have hlen := hS.len; have hok := hS.ok
  by_cases hc2 : (k : Nat) < List.length x
  · skip
    refine rS [.e (v := .bool (decide (((k : Nat) : Int) < ((List.length x : Nat) : Int)))) (v' := .bool true) (bool_eq (decide_eq_true (by omega)))] H5 kr fun gs6 w6 H6 => ?_
    clear H5
    refine g_seq kr ?_
    refine g_cond_t kr kr ?_
    refine g_skip kr ?_
    show WP _ _ _ _ _ _
    refine g_seq kr ?_
    refine g_block 1 kr ?_
    refine rS [.v, .v] H6 kr fun gs7 w7 H7 => ?_
    clear H6
    refine dS [.v, .v, .o (ins := [((.tmp 15), .slice (some ⟨ba, 0, none⟩) (List.length x) ca), ((.tmp 16), .int .i64 ((k : Nat) : Int))]) (v := .pointer (some ⟨ba, 0 + k * 1, none⟩)) (fun ρ o w ho hi => idxS_run (kd := .i64) (t := 60) (e := 3) (size := 1) (bytes := 8) kr (x := (.tmp 15)) (y := (.tmp 16)) ba 0 (List.length x) ca k ho hi.1 hi.2.1 (by omega) w), .fs (off := 0 + k * 1) (v := .int .i64 ((List.getD x k 0 : Nat) : Int)) hpre.1 (lt_of_heap hpre.1) (hA.atD (by omega) rfl), .v, .v, .cp (pre := fun w => w.heap[bb]? = some (.cells curB 3 (0, 0))) (digit_fn y bb (List.length y) cb curB rfl hB (by omega) k (by omega)) [] (fun w hb hd => ((hb.block _ (lt_of_heap hpre.2)).trans hpre.2)), .e (v := .int .i64 (IntKind.i64.wrap (((List.getD x k 0 : Nat) : Int) - ((List.getD y k 0 : Nat) : Int)))) (v' := .int .i64 (((List.getD x k 0 : Nat) : Int) - ((List.getD y k 0 : Nat) : Int))) (int_eq (wrap_i64 (by omega) (by omega))), .v, .e (v := .int .i64 (IntKind.i64.wrap ((((List.getD x k 0 : Nat) : Int) - ((List.getD y k 0 : Nat) : Int)) - ((c : Nat) : Int)))) (v' := .int .i64 ((((List.getD x k 0 : Nat) : Int) - ((List.getD y k 0 : Nat) : Int)) - ((c : Nat) : Int))) (int_eq (wrap_i64 (by omega) (by omega))), .v] H7 kr fun w8 H8 => ?_
    clear H7
    refine g_keep [0, 1, 4, 5, 6, 7, 8, 11, 12, 13] fun ρ1 => ?_
    have HK3 := H8.keep
    clear H8
    refine rS [.v] HK3 kr fun gs9 w9 H9 => ?_
    clear HK3
    refine g_seq kr ?_
    refine g_sreg [0, 1] kr kr ?_
    refine rp [.v] H9 kr fun gs10 w10 H10 => ?_
    show WPs _ _ _ _ [1] _ _
    clear H9
    by_cases hc4 : ((((List.getD x k 0 : Nat) : Int) - ((List.getD y k 0 : Nat) : Int)) - ((c : Nat) : Int) : Int) < 0
    · skip
      refine rp [.e (v := .bool (decide ((((List.getD x k 0 : Nat) : Int) - ((List.getD y k 0 : Nat) : Int)) - ((c : Nat) : Int) < 0))) (v' := .bool true) (bool_eq (decide_eq_true (by omega)))] H10 kr fun gs11 w11 H11 => ?_
      show WPs _ _ _ _ [] _ _
      clear H10
      refine s_nil ?_
      refine g_cond_t kr kr ?_
      refine rS [.v, .e (v := .int .i64 (IntKind.i64.wrap (((((List.getD x k 0 : Nat) : Int) - ((List.getD y k 0 : Nat) : Int)) - ((c : Nat) : Int)) + 65536))) (v' := .int .i64 (((((List.getD x k 0 : Nat) : Int) - ((List.getD y k 0 : Nat) : Int)) - ((c : Nat) : Int)) + 65536)) (int_eq (wrap_i64 (by omega) (by omega))), .v] H11 kr fun gs12 w12 H12 => ?_
      clear H11
      refine rL [.v] H12 kr fun gs13 w13 H13 => ?_
      clear H12
      show WP _ _ _ _ _ _
      refine g_reg0 [0, 1, 2, 3, 4] kr ?_
      refine rp [.v] H13 kr fun gs14 w14 H14 => ?_
      show WPs _ _ _ _ [1, 2, 3, 4] _ _
      clear H13
      refine s_now 8 (v := .int .i64 (((((List.getD x k 0 : Nat) : Int) - ((List.getD y k 0 : Nat) : Int)) - ((c : Nat) : Int)) + 65536)) (v' := .int .i64 ((Int.toNat (((((List.getD x k 0 : Nat) : Int) - ((List.getD y k 0 : Nat) : Int)) - ((c : Nat) : Int)) + 65536) : Nat) : Int)) (int_eq (show (((((List.getD x k 0 : Nat) : Int) - ((List.getD y k 0 : Nat) : Int)) - ((c : Nat) : Int)) + 65536) = ((Int.toNat (((((List.getD x k 0 : Nat) : Int) - ((List.getD y k 0 : Nat) : Int)) - ((c : Nat) : Int)) + 65536) : Nat) : Int) from by omega)) kr ?_
      refine s_now 28 (v := .int .i64 (((((List.getD x k 0 : Nat) : Int) - ((List.getD y k 0 : Nat) : Int)) - ((c : Nat) : Int)) + 65536)) (v' := .int .i64 ((Int.toNat (((((List.getD x k 0 : Nat) : Int) - ((List.getD y k 0 : Nat) : Int)) - ((c : Nat) : Int)) + 65536) : Nat) : Int)) (int_eq (show (((((List.getD x k 0 : Nat) : Int) - ((List.getD y k 0 : Nat) : Int)) - ((c : Nat) : Int)) + 65536) = ((Int.toNat (((((List.getD x k 0 : Nat) : Int) - ((List.getD y k 0 : Nat) : Int)) - ((c : Nat) : Int)) + 65536) : Nat) : Int) from by omega)) kr ?_
      refine rp [.v, .nw (fun b => .slice (some ⟨b, 0, none⟩) 1 1) #[.int .i64 ((Int.toNat (((((List.getD x k 0 : Nat) : Int) - ((List.getD y k 0 : Nat) : Int)) - ((c : Nat) : Int)) + 65536) : Nat) : Int)] 3] H14 kr fun gs15 w15 H15 => ?_
      show WPs _ _ _ _ [3, 4] _ _
      clear H14
      refine s_append H15 (some 32) 60 3 1 8 (.tmp 29) (.tmp 31) 0 1 b ((gs15 1).b) n 1 cap 1 cur #[.int .i64 ((Int.toNat (((((List.getD x k 0 : Nat) : Int) - ((List.getD y k 0 : Nat) : Int)) - ((c : Nat) : Int)) + 65536) : Nat) : Int)] 3 (0, 0) (cellsD l) ([.int .i64 ((Int.toNat (((((List.getD x k 0 : Nat) : Int) - ((List.getD y k 0 : Nat) : Int)) - ((c : Nat) : Int)) + 65536) : Nat) : Int)]) (fun b_1 cur_3 => [(b_1, Obj.cells cur_3 3 (0, 0)), ((gs15 1).b, Obj.cells #[.int .i64 ((Int.toNat (((((List.getD x k 0 : Nat) : Int) - ((List.getD y k 0 : Nat) : Int)) - ((c : Nat) : Int)) + 65536) : Nat) : Int)] 3 (0, 0))]) kr kr kr kr kr hr kr kr (by rfl) (by rfl) (by intro u hu; simp at hu; first | exact hu.elim | (rcases hu with rfl | rfl | rfl | rfl <;> rfl) | (rcases hu with rfl | rfl <;> rfl) | (subst hu; rfl)) (by omega) (by unfold maxLen; omega) (fun _ _ => by kernel_rfl) ?_
      intro b_1 cap_2 cur_3 w16 H16 hr_4; clear H15
      refine rp [.v] H16 kr fun gs17 w17 H17 => ?_
      show WPs _ _ _ _ [] _ _
      clear H16
      refine s_nil ?_
      show WP _ _ _ _ _ _
      refine rL [.e (v := .int .i64 (IntKind.i64.wrap (((k : Nat) : Int) + 1))) (v' := .int .i64 ((k + 1 : Nat) : Int)) (int_eq (wrapAdd_i64 (a := k) (b := 1) (by omega))), .v] H17 kr fun gs18 w18 H18 => ?_
      clear H17
      have HL5 : St w.heap.size w w18 [(b_1, Obj.cells cur_3 3 (0, 0)), ((gs15 1).b, Obj.cells #[.int .i64 ((Int.toNat (((((List.getD x k 0 : Nat) : Int) - ((List.getD y k 0 : Nat) : Int)) - ((c : Nat) : Int)) + 65536) : Nat) : Int)] 3 (0, 0))] := H18.as kr
      clear H18
      have hS2 := hS.step (((((List.getD x k 0 : Nat) : Int) - ((List.getD y k 0 : Nat) : Int)) - ((c : Nat) : Int)) + 65536) ((1 : Nat) : Int) (by omega) (by omega) (by omega) (by omega) (by unfold dAt; omega)
      have HD6 : St w.heap.size w w18 [(b_1, Obj.cells cur_3 3 (0, 0))] := HL5.sub (List.Sublist.cons_cons _ (List.Sublist.cons _ List.Sublist.slnil))
      show ∃ m, _ ∧ _
      exact ⟨_, (by omega), b_1, cap_2, n + 1, cur_3, l ++ [Int.toNat (((((List.getD x k 0 : Nat) : Int) - ((List.getD y k 0 : Nat) : Int)) - ((c : Nat) : Int)) + 65536)], k + 1, 1, rfl, (by rw [List.length_append, ← hn]; rfl), (by rw [cellsD_append]; exact hr_4), (by omega), hS2, HD6, (Is.of ⟨kr, kr, kr, kr, kr, kr, kr, trivial⟩)⟩
    · skip
      refine rp [.e (v := .bool (decide ((((List.getD x k 0 : Nat) : Int) - ((List.getD y k 0 : Nat) : Int)) - ((c : Nat) : Int) < 0))) (v' := .bool false) (bool_eq (decide_eq_false (by omega)))] H10 kr fun gs19 w19 H19 => ?_
      show WPs _ _ _ _ [] _ _
      clear H10
      refine s_nil ?_
      refine g_cond_f kr kr ?_
      refine g_skip kr ?_
      show WP _ _ _ _ _ _
      refine g_reg0 [0, 1, 2, 3, 4] kr ?_
      refine rp [.v] H19 kr fun gs20 w20 H20 => ?_
      show WPs _ _ _ _ [1, 2, 3, 4] _ _
      clear H19
      refine s_now 8 (v := .int .i64 ((((List.getD x k 0 : Nat) : Int) - ((List.getD y k 0 : Nat) : Int)) - ((c : Nat) : Int))) (v' := .int .i64 ((Int.toNat ((((List.getD x k 0 : Nat) : Int) - ((List.getD y k 0 : Nat) : Int)) - ((c : Nat) : Int)) : Nat) : Int)) (int_eq (show ((((List.getD x k 0 : Nat) : Int) - ((List.getD y k 0 : Nat) : Int)) - ((c : Nat) : Int)) = ((Int.toNat ((((List.getD x k 0 : Nat) : Int) - ((List.getD y k 0 : Nat) : Int)) - ((c : Nat) : Int)) : Nat) : Int) from by omega)) kr ?_
      refine s_now 25 (v := .int .i64 ((((List.getD x k 0 : Nat) : Int) - ((List.getD y k 0 : Nat) : Int)) - ((c : Nat) : Int))) (v' := .int .i64 ((Int.toNat ((((List.getD x k 0 : Nat) : Int) - ((List.getD y k 0 : Nat) : Int)) - ((c : Nat) : Int)) : Nat) : Int)) (int_eq (show ((((List.getD x k 0 : Nat) : Int) - ((List.getD y k 0 : Nat) : Int)) - ((c : Nat) : Int)) = ((Int.toNat ((((List.getD x k 0 : Nat) : Int) - ((List.getD y k 0 : Nat) : Int)) - ((c : Nat) : Int)) : Nat) : Int) from by omega)) kr ?_
      refine rp [.v, .nw (fun b => .slice (some ⟨b, 0, none⟩) 1 1) #[.int .i64 ((Int.toNat ((((List.getD x k 0 : Nat) : Int) - ((List.getD y k 0 : Nat) : Int)) - ((c : Nat) : Int)) : Nat) : Int)] 3] H20 kr fun gs21 w21 H21 => ?_
      show WPs _ _ _ _ [3, 4] _ _
      clear H20
      refine s_append H21 (some 32) 60 3 1 8 (.tmp 29) (.tmp 31) 0 1 b ((gs21 1).b) n 1 cap 1 cur #[.int .i64 ((Int.toNat ((((List.getD x k 0 : Nat) : Int) - ((List.getD y k 0 : Nat) : Int)) - ((c : Nat) : Int)) : Nat) : Int)] 3 (0, 0) (cellsD l) ([.int .i64 ((Int.toNat ((((List.getD x k 0 : Nat) : Int) - ((List.getD y k 0 : Nat) : Int)) - ((c : Nat) : Int)) : Nat) : Int)]) (fun b_5 cur_7 => [(b_5, Obj.cells cur_7 3 (0, 0)), ((gs21 1).b, Obj.cells #[.int .i64 ((Int.toNat ((((List.getD x k 0 : Nat) : Int) - ((List.getD y k 0 : Nat) : Int)) - ((c : Nat) : Int)) : Nat) : Int)] 3 (0, 0))]) kr kr kr kr kr hr kr kr (by rfl) (by rfl) (by intro u hu; simp at hu; first | exact hu.elim | (rcases hu with rfl | rfl | rfl | rfl <;> rfl) | (rcases hu with rfl | rfl <;> rfl) | (subst hu; rfl)) (by omega) (by unfold maxLen; omega) (fun _ _ => by kernel_rfl) ?_
      intro b_5 cap_6 cur_7 w22 H22 hr_8; clear H21
      refine rp [.v] H22 kr fun gs23 w23 H23 => ?_
      show WPs _ _ _ _ [] _ _
      clear H22
      refine s_nil ?_
      show WP _ _ _ _ _ _
      refine rL [.e (v := .int .i64 (IntKind.i64.wrap (((k : Nat) : Int) + 1))) (v' := .int .i64 ((k + 1 : Nat) : Int)) (int_eq (wrapAdd_i64 (a := k) (b := 1) (by omega))), .v] H23 kr fun gs24 w24 H24 => ?_
      clear H23
      have HL7 : St w.heap.size w w24 [(b_5, Obj.cells cur_7 3 (0, 0)), ((gs21 1).b, Obj.cells #[.int .i64 ((Int.toNat ((((List.getD x k 0 : Nat) : Int) - ((List.getD y k 0 : Nat) : Int)) - ((c : Nat) : Int)) : Nat) : Int)] 3 (0, 0))] := H24.as kr
      clear H24
      have hS2 := hS.step ((((List.getD x k 0 : Nat) : Int) - ((List.getD y k 0 : Nat) : Int)) - ((c : Nat) : Int)) ((0 : Nat) : Int) (by omega) (by omega) (by omega) (by omega) (by unfold dAt; omega)
      have HD8 : St w.heap.size w w24 [(b_5, Obj.cells cur_7 3 (0, 0))] := HL7.sub (List.Sublist.cons_cons _ (List.Sublist.cons _ List.Sublist.slnil))
      show ∃ m, _ ∧ _
      exact ⟨_, (by omega), b_5, cap_6, n + 1, cur_7, l ++ [Int.toNat ((((List.getD x k 0 : Nat) : Int) - ((List.getD y k 0 : Nat) : Int)) - ((c : Nat) : Int))], k + 1, 0, rfl, (by rw [List.length_append, ← hn]; rfl), (by rw [cellsD_append]; exact hr_8), (by omega), hS2, HD8, (Is.of ⟨kr, kr, kr, kr, kr, kr, kr, trivial⟩)⟩
  · skip
    refine rS [.e (v := .bool (decide (((k : Nat) : Int) < ((List.length x : Nat) : Int)))) (v' := .bool false) (bool_eq (decide_eq_false (by omega)))] H5 kr fun gs25 w25 H25 => ?_
    clear H5
    refine g_seq kr ?_
    refine g_cond_f kr kr ?_
    refine g_exit 0 kr ?_
    show WP _ _ _ _ _ _
    refine rS [.v, .v] H25 kr fun gs26 w26 H26 => ?_
    clear H25
    refine g_ret kr ?_
    show ∃ vs, Res _ _ _ _ vs ∧ _
    refine ⟨[.slice (some ⟨b, 0, none⟩) n cap], (.tmp (.slice (some ⟨b, 0, none⟩) n cap) kr .nil), H26.below, ?_⟩
    obtain rfl : k = List.length x := by omega
    exact ⟨b, cap, _, _, l, rfl, H26.ge 0 (o := .cells cur 3 (0, 0)) kr, H26.get 0 kr, hn, hr, hok, hS.fin hx hy hle, hlen⟩
end Go.Proofs.YtmmloghbnpfedaaDoor

namespace Go.Proofs.YtmmloghbnpfedaaDoor
open Go Go.RowKit
set_option linter.unusedVariables false
set_option maxRecDepth 100000 in
set_option maxHeartbeats 2000000 in
theorem times_fn (x y : List Nat) (ba nx ca bb ny cb : Nat) (curA curB : Array Value) (hnx : nx = List.length x) (hny : ny = List.length y) (hA : Rw 1 curA ca nx (cellsD x)) (hB : Rw 1 curB cb ny (cellsD y)) (hx : Ok x) (hy : Ok y) (lx : List.length x ≤ 5000) (ly : List.length y ≤ 5000) : FnR Tryd.prog 58 #[.slice (some ⟨ba, 0, none⟩) nx ca, .slice (some ⟨bb, 0, none⟩) ny cb] (fun w => w.heap[ba]? = some (.cells curA 3 (0, 0)) ∧ w.heap[bb]? = some (.cells curB 3 (0, 0))) (RetS 3 1 (fun cur cap n l => (n = List.length l ∧ Rw 1 cur cap n (cellsD l) ∧ Ok l ∧ (vl l = vl x * vl y ∧ List.length l = List.length x + List.length y + 1)))) := by
  subst hnx hny
  refine FnR.intro (c := codeOf Tryd.f58) [.tmp 4] 60 Tryd.func58 kr kr kr fun w hpre => ?_
  have H0 := St.start w
  refine rS [.v] H0 kr fun gs1 w1 H1 => ?_
  clear H0
  refine g_sreg [0, 1, 2, 3, 4, 5, 6, 7] kr kr ?_
  refine rp [.v, .v, .v, .v, .e (v := .int .i64 (IntKind.i64.wrap (((List.length x : Nat) : Int) + ((List.length y : Nat) : Int)))) (v' := .int .i64 (((List.length x) + (List.length y) : Nat) : Int)) (int_eq (wrapAdd_i64 (a := List.length x) (b := List.length y) (by omega))), .e (v := .int .i64 (IntKind.i64.wrap ((((List.length x) + (List.length y) : Nat) : Int) + 1))) (v' := .int .i64 ((((List.length x) + (List.length y)) + 1 : Nat) : Int)) (int_eq (wrapAdd_i64 (a := (List.length x) + (List.length y)) (b := 1) (by omega)))] H1 kr fun gs2 w2 H2 => ?_
  show WPs _ _ _ _ [6, 7] _ _
  clear H1
  refine s_make H2 (some 16) 59 3 8 (.int .i64 0) (.tmp 15) (.tmp 15) .i64 .i64 (((List.length x) + (List.length y)) + 1) kr kr kr kr rfl kr kr (by omega) (by unfold maxLen; omega) ?_
  intro b_1 cur_2 w3 H3 hr_3; clear H2
  have hr_3z : Rw 1 cur_2 (((List.length x) + (List.length y)) + 1) (((List.length x) + (List.length y)) + 1) (cellsD (List.replicate (((List.length x) + (List.length y)) + 1) 0)) := by unfold cellsD; rw [List.map_replicate]; exact hr_3
  refine rp [.v] H3 kr fun gs4 w4 H4 => ?_
  show WPs _ _ _ _ [] _ _
  clear H3
  refine s_nil ?_
  refine g_seq kr ?_
  refine rS [.v, .v, .v] H4 kr fun gs5 w5 H5 => ?_
  clear H4
  refine g_block 0 kr ?_
  have HL1 : St w.heap.size w w5 [(b_1, Obj.cells cur_2 3 (0, 0))] := H5.as kr
  clear H5
  refine g_loop kr (fun mz ρ ww => ∃ (b : Nat) (cap : Nat) (n : Nat) (cur : Array Value) (l : List Nat) (i : Nat), List.length x + 1 - i = mz ∧ (n = List.length l) ∧ (Rw 1 cur cap n (cellsD l)) ∧ (i ≤ List.length x) ∧ (List.length l = List.length x + List.length y + 1) ∧ (Ok l) ∧ (vl l = vl (List.take i x) * vl y) ∧ St w.heap.size w ww [(b, Obj.cells cur 3 (0, 0))] ∧ Is [(0, .slice (some ⟨ba, 0, none⟩) (List.length x) ca), (1, .slice (some ⟨bb, 0, none⟩) (List.length y) cb), (4, .slice none 0 0), (5, .slice (some ⟨b, 0, none⟩) n cap), (18, .int .i64 ((List.length x : Nat) : Int)), (19, .int .i64 ((i : Nat) : Int))] ρ) (List.length x + 1 - 0) ⟨b_1, ((List.length x) + (List.length y)) + 1, ((List.length x) + (List.length y)) + 1, cur_2, (List.replicate (((List.length x) + (List.length y)) + 1) 0), 0, rfl, (by rw [List.length_replicate]), hr_3z, (by omega), (by rw [List.length_replicate]), (ok_zeros _), (by rw [vl_zeros]; simp [vl]), HL1, (Is.of ⟨kr, kr, kr, kr, kr, kr, trivial⟩)⟩ ?_
  clear HL1
  rintro _ _ w6 ⟨b, cap, n, cur, l, i, rfl, hn, hr, hi, hl, hok, hv, H6, _, rfl⟩
  by_cases hc2 : (i : Nat) < List.length x
  · skip
    refine rS [.e (v := .bool (decide (((i : Nat) : Int) < ((List.length x : Nat) : Int)))) (v' := .bool true) (bool_eq (decide_eq_true (by omega)))] H6 kr fun gs7 w7 H7 => ?_
    clear H6
    refine g_seq kr ?_
    refine g_cond_t kr kr ?_
    refine g_skip kr ?_
    show WP _ _ _ _ _ _
    refine g_seq kr ?_
    refine g_block 1 kr ?_
    refine rS [.v, .v] H7 kr fun gs8 w8 H8 => ?_
    clear H7
    refine rS [.v] H8 kr fun gs9 w9 H9 => ?_
    clear H8
    refine rS [.v] H9 kr fun gs10 w10 H10 => ?_
    clear H9
    refine g_block 2 kr ?_
    have HL3 : St w.heap.size w w10 [(b, Obj.cells cur 3 (0, 0))] := H10.as kr
    clear H10
    refine g_loop kr (fun mz ρ ww => ∃ (b2 : Nat) (cap2 : Nat) (n2 : Nat) (cur2 : Array Value) (l2 : List Nat) (k : Nat) (c : Nat), List.length y + 2 - k = mz ∧ (n2 = List.length l2) ∧ (Rw 1 cur2 cap2 n2 (cellsD l2)) ∧ (MulI x y l2 i k c) ∧ St w.heap.size w ww [(b2, Obj.cells cur2 3 (0, 0))] ∧ Is [(0, .slice (some ⟨ba, 0, none⟩) (List.length x) ca), (1, .slice (some ⟨bb, 0, none⟩) (List.length y) cb), (4, .slice none 0 0), (5, .slice (some ⟨b2, 0, none⟩) n2 cap2), (6, .int .i64 ((i : Nat) : Int)), (7, .int .i64 ((c : Nat) : Int)), (8, .int .i64 ((k : Nat) : Int)), (18, .int .i64 ((List.length x : Nat) : Int)), (19, .int .i64 ((i : Nat) : Int)), (20, .bool true)] ρ) (List.length y + 2 - 0) ⟨b, cap, n, cur, l, 0, 0, rfl, hn, hr, (MulI.start hl hok (by omega) hv), HL3, (Is.of ⟨kr, kr, kr, kr, kr, kr, kr, kr, kr, kr, trivial⟩)⟩ ?_
    clear HL3
    rintro _ _ w11 ⟨b2, cap2, n2, cur2, l2, k, c, rfl, hn2, hr2, hM, H11, _, rfl⟩
    have hcw := hM.cw; have htop := hM.top; have hii := hM.hi; have hlen2 := hM.len; have ho := ok_getD hM.ok (i + k); have hxi := ok_getD hx i; have hyk := ok_getD hy k
    have hm : List.getD x i 0 * List.getD y k 0 ≤ 65535 * 65535 := Nat.mul_le_mul (by omega) (by omega)
    refine g_seq kr ?_
    refine g_sreg [0, 1, 2, 3, 4, 5, 6, 7] kr kr ?_
    refine rp [.v, .v, .v] H11 kr fun gs12 w12 H12 => ?_
    show WPs _ _ _ _ [3, 4, 5, 6, 7] _ _
    clear H11
    by_cases hc4 : (k : Nat) < List.length y
    · skip
      refine rp [.e (v := .bool (decide (((k : Nat) : Int) < ((List.length y : Nat) : Int)))) (v' := .bool true) (bool_eq (decide_eq_true (by omega))), .v, .n, .n, .v] H12 kr fun gs13 w13 H13 => ?_
      show WPs _ _ _ _ [] _ _
      clear H12
      refine s_nil ?_
      refine g_keep [0, 1, 4, 5, 6, 7, 8, 18, 19, 20, 29] fun ρ1 => ?_
      have HK5 := H13.keep
      clear H13
      refine g_cond_t kr kr ?_
      refine g_skip kr ?_
      show WP _ _ _ _ _ _
      refine g_seq kr ?_
      refine g_block 3 kr ?_
      obtain ⟨hij, hM2⟩ := hM.next hx hy (by omega)
      refine dS [.v, .v, .v, .e (v := .int .i64 (IntKind.i64.wrap (((i : Nat) : Int) + ((k : Nat) : Int)))) (v' := .int .i64 ((i + k : Nat) : Int)) (int_eq (wrapAdd_i64 (a := i) (b := k) (by omega))), .o (ins := [((.tmp 32), .slice (some ⟨b2, 0, none⟩) n2 cap2), ((.tmp 35), .int .i64 ((i + k : Nat) : Int))]) (v := .pointer (some ⟨b2, 0 + (i + k) * 1, none⟩)) (fun ρ o w ho hi => idxS_run (kd := .i64) (t := 59) (e := 3) (size := 1) (bytes := 8) kr (x := (.tmp 32)) (y := (.tmp 35)) b2 0 n2 cap2 (i + k) ho hi.1 hi.2.1 (by omega) w), .ls (C := cur2) (off := 0 + (i + k) * 1) (v := .int .i64 ((List.getD l2 (i + k) 0 : Nat) : Int)) 0 (hr2.atD (by omega) hn2), .v, .v, .o (ins := [((.tmp 38), .slice (some ⟨ba, 0, none⟩) (List.length x) ca), ((.tmp 39), .int .i64 ((i : Nat) : Int))]) (v := .pointer (some ⟨ba, 0 + i * 1, none⟩)) (fun ρ o w ho hi => idxS_run (kd := .i64) (t := 60) (e := 3) (size := 1) (bytes := 8) kr (x := (.tmp 38)) (y := (.tmp 39)) ba 0 (List.length x) ca i ho hi.1 hi.2.1 (by omega) w), .fs (off := 0 + i * 1) (v := .int .i64 ((List.getD x i 0 : Nat) : Int)) hpre.1 (lt_of_heap hpre.1) (hA.atD (by omega) rfl), .v, .v, .cp (pre := fun w => w.heap[bb]? = some (.cells curB 3 (0, 0))) (digit_fn y bb (List.length y) cb curB rfl hB (by omega) k (by omega)) [] (fun w hb hd => ((hb.block _ (lt_of_heap hpre.2)).trans hpre.2)), .e (v := .int .i64 (IntKind.i64.wrap (((List.getD x i 0 : Nat) : Int) * ((List.getD y k 0 : Nat) : Int)))) (v' := .int .i64 (((List.getD x i 0) * (List.getD y k 0) : Nat) : Int)) (int_eq (wrapMul_i64 (a := List.getD x i 0) (b := List.getD y k 0) (by omega))), .e (v := .int .i64 (IntKind.i64.wrap (((List.getD l2 (i + k) 0 : Nat) : Int) + (((List.getD x i 0) * (List.getD y k 0) : Nat) : Int)))) (v' := .int .i64 (((List.getD l2 (i + k) 0) + ((List.getD x i 0) * (List.getD y k 0)) : Nat) : Int)) (int_eq (wrapAdd_i64 (a := List.getD l2 (i + k) 0) (b := (List.getD x i 0) * (List.getD y k 0)) (by omega))), .v, .e (v := .int .i64 (IntKind.i64.wrap ((((List.getD l2 (i + k) 0) + ((List.getD x i 0) * (List.getD y k 0)) : Nat) : Int) + ((c : Nat) : Int)))) (v' := .int .i64 ((((List.getD l2 (i + k) 0) + ((List.getD x i 0) * (List.getD y k 0))) + c : Nat) : Int)) (int_eq (wrapAdd_i64 (a := (List.getD l2 (i + k) 0) + ((List.getD x i 0) * (List.getD y k 0))) (b := c) (by omega))), .v] HK5 kr fun w14 H14 => ?_
      clear HK5
      refine g_keep [0, 1, 4, 5, 6, 7, 8, 9, 18, 19, 20, 29] fun ρ2 => ?_
      have HK6 := H14.keep
      clear H14
      refine g_sreg [0, 1, 2, 3, 4, 5, 6, 7] kr kr ?_
      refine rp [.v, .v, .v, .e (v := .int .i64 (IntKind.i64.wrap (((i : Nat) : Int) + ((k : Nat) : Int)))) (v' := .int .i64 ((i + k : Nat) : Int)) (int_eq (wrapAdd_i64 (a := i) (b := k) (by omega))), .v, .e (v := .int .i64 (Int.tmod ((((List.getD l2 (i + k) 0) + ((List.getD x i 0) * (List.getD y k 0))) + c : Nat) : Int) 65536)) (v' := .int .i64 (((((List.getD l2 (i + k) 0) + ((List.getD x i 0) * (List.getD y k 0))) + c) % 65536 : Nat) : Int)) (int_eq (remN (((List.getD l2 (i + k) 0) + ((List.getD x i 0) * (List.getD y k 0))) + c) 65536)), .o (ins := [((.tmp 49), .slice (some ⟨b2, 0, none⟩) n2 cap2), ((.tmp 52), .int .i64 ((i + k : Nat) : Int))]) (v := .pointer (some ⟨b2, 0 + (i + k) * 1, none⟩)) (fun ρ o w ho hi => idxS_run (kd := .i64) (t := 59) (e := 3) (size := 1) (bytes := 8) kr (x := (.tmp 49)) (y := (.tmp 52)) b2 0 n2 cap2 (i + k) ho hi.1 hi.2.1 (by omega) w)] HK6 kr fun gs15 w15 H15 => ?_
      show WPs _ _ _ _ [7] _ _
      clear HK6
      obtain ⟨cur_4, hc_5, hs_6, hr_7⟩ := hr2.put (i + k) ((((List.getD l2 (i + k) 0) + ((List.getD x i 0) * (List.getD y k 0))) + c) % 65536) (by omega)
      refine rp [.se (C := cur2) (C' := cur_4) (off := 0 + (i + k) * 1) (v := .int .i64 (((((List.getD l2 (i + k) 0) + ((List.getD x i 0) * (List.getD y k 0))) + c) % 65536 : Nat) : Int)) 0 hs_6 hc_5] H15 kr fun gs16 w16 H16 => ?_
      show WPs _ _ _ _ [] _ _
      clear H15
      refine s_nil ?_
      refine rL [.v, .e (v := .int .i64 (IntKind.i64.wrap (((((List.getD l2 (i + k) 0) + ((List.getD x i 0) * (List.getD y k 0))) + c : Nat) : Int).tdiv 65536))) (v' := .int .i64 (((((List.getD l2 (i + k) 0) + ((List.getD x i 0) * (List.getD y k 0))) + c) / 65536 : Nat) : Int)) (int_eq (quoN_i64 (a := ((List.getD l2 (i + k) 0) + ((List.getD x i 0) * (List.getD y k 0))) + c) (b := 65536) (by omega))), .v] H16 kr fun gs17 w17 H17 => ?_
      clear H16
      show WP _ _ _ _ _ _
      refine rL [.v, .e (v := .int .i64 (IntKind.i64.wrap (((k : Nat) : Int) + 1))) (v' := .int .i64 ((k + 1 : Nat) : Int)) (int_eq (wrapAdd_i64 (a := k) (b := 1) (by omega))), .v] H17 kr fun gs18 w18 H18 => ?_
      clear H17
      have HL7 : St w.heap.size w w18 [(b2, Obj.cells cur_4 3 (0, 0))] := H18.as kr
      clear H18
      show ∃ m, _ ∧ _
      exact ⟨_, (by have := hM2.top; omega), b2, cap2, n2, cur_4, (List.set l2 (i + k) ((((List.getD l2 (i + k) 0) + ((List.getD x i 0) * (List.getD y k 0))) + c) % 65536)), k + 1, (List.getD l2 (i + k) 0 + List.getD x i 0 * List.getD y k 0 + c) / 65536, rfl, (by rw [List.length_set]; exact hn2), hr_7, hM2, HL7, (Is.of ⟨kr, kr, kr, kr, kr, kr, kr, kr, kr, kr, trivial⟩)⟩
    · skip
      refine rp [.e (v := .bool (decide (((k : Nat) : Int) < ((List.length y : Nat) : Int)))) (v' := .bool false) (bool_eq (decide_eq_false (by omega))), .v, .v] H12 kr fun gs19 w19 H19 => ?_
      show WPs _ _ _ _ [6, 7] _ _
      clear H12
      by_cases hc8 : (c : Nat) > 0
      · skip
        refine rp [.e (v := .bool (decide (0 < ((c : Nat) : Int)))) (v' := .bool true) (bool_eq (decide_eq_true (by omega))), .v] H19 kr fun gs20 w20 H20 => ?_
        show WPs _ _ _ _ [] _ _
        clear H19
        refine s_nil ?_
        refine g_keep [0, 1, 4, 5, 6, 7, 8, 18, 19, 20, 29] fun ρ3 => ?_
        have HK9 := H20.keep
        clear H20
        refine g_cond_t kr kr ?_
        refine g_skip kr ?_
        show WP _ _ _ _ _ _
        refine g_seq kr ?_
        refine g_block 3 kr ?_
        obtain ⟨hij, hM2⟩ := hM.next hx hy (by omega)
        refine dS [.v, .v, .v, .e (v := .int .i64 (IntKind.i64.wrap (((i : Nat) : Int) + ((k : Nat) : Int)))) (v' := .int .i64 ((i + k : Nat) : Int)) (int_eq (wrapAdd_i64 (a := i) (b := k) (by omega))), .o (ins := [((.tmp 32), .slice (some ⟨b2, 0, none⟩) n2 cap2), ((.tmp 35), .int .i64 ((i + k : Nat) : Int))]) (v := .pointer (some ⟨b2, 0 + (i + k) * 1, none⟩)) (fun ρ o w ho hi => idxS_run (kd := .i64) (t := 59) (e := 3) (size := 1) (bytes := 8) kr (x := (.tmp 32)) (y := (.tmp 35)) b2 0 n2 cap2 (i + k) ho hi.1 hi.2.1 (by omega) w), .ls (C := cur2) (off := 0 + (i + k) * 1) (v := .int .i64 ((List.getD l2 (i + k) 0 : Nat) : Int)) 0 (hr2.atD (by omega) hn2), .v, .v, .o (ins := [((.tmp 38), .slice (some ⟨ba, 0, none⟩) (List.length x) ca), ((.tmp 39), .int .i64 ((i : Nat) : Int))]) (v := .pointer (some ⟨ba, 0 + i * 1, none⟩)) (fun ρ o w ho hi => idxS_run (kd := .i64) (t := 60) (e := 3) (size := 1) (bytes := 8) kr (x := (.tmp 38)) (y := (.tmp 39)) ba 0 (List.length x) ca i ho hi.1 hi.2.1 (by omega) w), .fs (off := 0 + i * 1) (v := .int .i64 ((List.getD x i 0 : Nat) : Int)) hpre.1 (lt_of_heap hpre.1) (hA.atD (by omega) rfl), .v, .v, .cp (pre := fun w => w.heap[bb]? = some (.cells curB 3 (0, 0))) (digit_fn y bb (List.length y) cb curB rfl hB (by omega) k (by omega)) [] (fun w hb hd => ((hb.block _ (lt_of_heap hpre.2)).trans hpre.2)), .e (v := .int .i64 (IntKind.i64.wrap (((List.getD x i 0 : Nat) : Int) * ((List.getD y k 0 : Nat) : Int)))) (v' := .int .i64 (((List.getD x i 0) * (List.getD y k 0) : Nat) : Int)) (int_eq (wrapMul_i64 (a := List.getD x i 0) (b := List.getD y k 0) (by omega))), .e (v := .int .i64 (IntKind.i64.wrap (((List.getD l2 (i + k) 0 : Nat) : Int) + (((List.getD x i 0) * (List.getD y k 0) : Nat) : Int)))) (v' := .int .i64 (((List.getD l2 (i + k) 0) + ((List.getD x i 0) * (List.getD y k 0)) : Nat) : Int)) (int_eq (wrapAdd_i64 (a := List.getD l2 (i + k) 0) (b := (List.getD x i 0) * (List.getD y k 0)) (by omega))), .v, .e (v := .int .i64 (IntKind.i64.wrap ((((List.getD l2 (i + k) 0) + ((List.getD x i 0) * (List.getD y k 0)) : Nat) : Int) + ((c : Nat) : Int)))) (v' := .int .i64 ((((List.getD l2 (i + k) 0) + ((List.getD x i 0) * (List.getD y k 0))) + c : Nat) : Int)) (int_eq (wrapAdd_i64 (a := (List.getD l2 (i + k) 0) + ((List.getD x i 0) * (List.getD y k 0))) (b := c) (by omega))), .v] HK9 kr fun w21 H21 => ?_
        clear HK9
        refine g_keep [0, 1, 4, 5, 6, 7, 8, 9, 18, 19, 20, 29] fun ρ4 => ?_
        have HK10 := H21.keep
        clear H21
        refine g_sreg [0, 1, 2, 3, 4, 5, 6, 7] kr kr ?_
        refine rp [.v, .v, .v, .e (v := .int .i64 (IntKind.i64.wrap (((i : Nat) : Int) + ((k : Nat) : Int)))) (v' := .int .i64 ((i + k : Nat) : Int)) (int_eq (wrapAdd_i64 (a := i) (b := k) (by omega))), .v, .e (v := .int .i64 (Int.tmod ((((List.getD l2 (i + k) 0) + ((List.getD x i 0) * (List.getD y k 0))) + c : Nat) : Int) 65536)) (v' := .int .i64 (((((List.getD l2 (i + k) 0) + ((List.getD x i 0) * (List.getD y k 0))) + c) % 65536 : Nat) : Int)) (int_eq (remN (((List.getD l2 (i + k) 0) + ((List.getD x i 0) * (List.getD y k 0))) + c) 65536)), .o (ins := [((.tmp 49), .slice (some ⟨b2, 0, none⟩) n2 cap2), ((.tmp 52), .int .i64 ((i + k : Nat) : Int))]) (v := .pointer (some ⟨b2, 0 + (i + k) * 1, none⟩)) (fun ρ o w ho hi => idxS_run (kd := .i64) (t := 59) (e := 3) (size := 1) (bytes := 8) kr (x := (.tmp 49)) (y := (.tmp 52)) b2 0 n2 cap2 (i + k) ho hi.1 hi.2.1 (by omega) w)] HK10 kr fun gs22 w22 H22 => ?_
        show WPs _ _ _ _ [7] _ _
        clear HK10
        obtain ⟨cur_8, hc_9, hs_10, hr_11⟩ := hr2.put (i + k) ((((List.getD l2 (i + k) 0) + ((List.getD x i 0) * (List.getD y k 0))) + c) % 65536) (by omega)
        refine rp [.se (C := cur2) (C' := cur_8) (off := 0 + (i + k) * 1) (v := .int .i64 (((((List.getD l2 (i + k) 0) + ((List.getD x i 0) * (List.getD y k 0))) + c) % 65536 : Nat) : Int)) 0 hs_10 hc_9] H22 kr fun gs23 w23 H23 => ?_
        show WPs _ _ _ _ [] _ _
        clear H22
        refine s_nil ?_
        refine rL [.v, .e (v := .int .i64 (IntKind.i64.wrap (((((List.getD l2 (i + k) 0) + ((List.getD x i 0) * (List.getD y k 0))) + c : Nat) : Int).tdiv 65536))) (v' := .int .i64 (((((List.getD l2 (i + k) 0) + ((List.getD x i 0) * (List.getD y k 0))) + c) / 65536 : Nat) : Int)) (int_eq (quoN_i64 (a := ((List.getD l2 (i + k) 0) + ((List.getD x i 0) * (List.getD y k 0))) + c) (b := 65536) (by omega))), .v] H23 kr fun gs24 w24 H24 => ?_
        clear H23
        show WP _ _ _ _ _ _
        refine rL [.v, .e (v := .int .i64 (IntKind.i64.wrap (((k : Nat) : Int) + 1))) (v' := .int .i64 ((k + 1 : Nat) : Int)) (int_eq (wrapAdd_i64 (a := k) (b := 1) (by omega))), .v] H24 kr fun gs25 w25 H25 => ?_
        clear H24
        have HL11 : St w.heap.size w w25 [(b2, Obj.cells cur_8 3 (0, 0))] := H25.as kr
        clear H25
        show ∃ m, _ ∧ _
        exact ⟨_, (by have := hM2.top; omega), b2, cap2, n2, cur_8, (List.set l2 (i + k) ((((List.getD l2 (i + k) 0) + ((List.getD x i 0) * (List.getD y k 0))) + c) % 65536)), k + 1, (List.getD l2 (i + k) 0 + List.getD x i 0 * List.getD y k 0 + c) / 65536, rfl, (by rw [List.length_set]; exact hn2), hr_11, hM2, HL11, (Is.of ⟨kr, kr, kr, kr, kr, kr, kr, kr, kr, kr, trivial⟩)⟩
      · skip
        refine rp [.e (v := .bool (decide (0 < ((c : Nat) : Int)))) (v' := .bool false) (bool_eq (decide_eq_false (by omega))), .v] H19 kr fun gs26 w26 H26 => ?_
        show WPs _ _ _ _ [] _ _
        clear H19
        refine s_nil ?_
        refine g_keep [0, 1, 4, 5, 6, 7, 8, 18, 19, 20, 29] fun ρ5 => ?_
        have HK12 := H26.keep
        clear H26
        refine g_cond_f kr kr ?_
        refine g_exit 2 kr ?_
        show WP _ _ _ _ _ _
        refine rL [.e (v := .int .i64 (IntKind.i64.wrap (((i : Nat) : Int) + 1))) (v' := .int .i64 ((i + 1 : Nat) : Int)) (int_eq (wrapAdd_i64 (a := i) (b := 1) (by omega))), .v] HK12 kr fun gs27 w27 H27 => ?_
        clear HK12
        have HL13 : St w.heap.size w w27 [(b2, Obj.cells cur2 3 (0, 0))] := H27.as kr
        clear H27
        show ∃ m, _ ∧ _
        exact ⟨_, (by omega), b2, cap2, n2, cur2, l2, i + 1, rfl, hn2, hr2, (by omega), hM.len, hM.ok, (hM.fin (by omega) (by omega)), HL13, (Is.of ⟨kr, kr, kr, kr, kr, kr, trivial⟩)⟩
  · skip
    refine rS [.e (v := .bool (decide (((i : Nat) : Int) < ((List.length x : Nat) : Int)))) (v' := .bool false) (bool_eq (decide_eq_false (by omega)))] H6 kr fun gs28 w28 H28 => ?_
    clear H6
    refine g_seq kr ?_
    refine g_cond_f kr kr ?_
    refine g_exit 0 kr ?_
    show WP _ _ _ _ _ _
    refine rS [.v, .v] H28 kr fun gs29 w29 H29 => ?_
    clear H28
    refine g_ret kr ?_
    show ∃ vs, Res _ _ _ _ vs ∧ _
    refine ⟨[.slice (some ⟨b, 0, none⟩) n cap], (.tmp (.slice (some ⟨b, 0, none⟩) n cap) kr .nil), H29.below, ?_⟩
    obtain rfl : i = List.length x := by omega
    exact ⟨b, cap, _, _, l, rfl, H29.ge 0 (o := .cells cur 3 (0, 0)) kr, H29.get 0 kr, hn, hr, hok, by rw [hv, List.take_of_length_le (Nat.le_refl _)], hl⟩
end Go.Proofs.YtmmloghbnpfedaaDoor

namespace Go.Proofs.YtmmloghbnpfedaaDoor
open Go Go.RowKit
set_option linter.unusedVariables false
set_option maxRecDepth 100000 in
set_option maxHeartbeats 2000000 in
theorem to_fn (x : List Nat) (ba nx ca : Nat) (curA : Array Value) (hnx : nx = List.length x) (hA : Rw 1 curA ca nx (cellsD x)) (lx : List.length x ≤ 100000) (hx : Ok x) : FnP Tryd.prog 77 #[.slice (some ⟨ba, 0, none⟩) nx ca] (fun w => w.heap[ba]? = some (.cells curA 3 (0, 0))) (uv (vl x % big)) := by
  subst hnx
  have hd0 := ok_getD hx 0
  have hd1 := ok_getD hx 1
  have hd2 := ok_getD hx 2
  have hd3 := ok_getD hx 3
  have hd4 := ok_getD hx 4
  have hd5 := ok_getD hx 5
  have hd6 := ok_getD hx 6
  have hd7 := ok_getD hx 7
  have hd8 := ok_getD hx 8
  have hd9 := ok_getD hx 9
  have hd10 := ok_getD hx 10
  have hd11 := ok_getD hx 11
  have hd12 := ok_getD hx 12
  have hd13 := ok_getD hx 13
  have hd14 := ok_getD hx 14
  have hd15 := ok_getD hx 15
  refine FnP.intro (c := codeOf Tryd.f77) [.cell 2 24] 24 Tryd.func77 kr kr kr fun w hpre => ?_
  have H0 := St.start w
  refine rS [.a] H0 kr fun gs1 w1 H1 => ?_
  clear H0
  refine rS [.v, .a, .s 1] H1 kr fun gs2 w2 H2 => ?_
  clear H1
  refine g_seq kr ?_
  refine rS [.v] H2 kr fun gs3 w3 H3 => ?_
  clear H2
  refine g_block 0 kr ?_
  have HL1 : St w.heap.size w w3 [((gs1 0).b, Obj.cells #[.int .u64 0, .int .u64 0, .int .u64 0, .int .u64 0] 24 (0, 0)), ((gs2 1).b, Obj.cells #[.int .u64 0, .int .u64 0, .int .u64 0, .int .u64 0] 24 (0, 0))] := H3.as kr
  clear H3
  refine g_first kr ?_
  refine g_seq kr ?_
  refine rS [.v, .v] HL1 kr fun gs4 w4 H4 => ?_
  clear HL1
  refine g_cond_t kr kr ?_
  refine g_skip kr ?_
  show WP _ _ _ _ _ _
  refine g_seq kr ?_
  refine g_block 1 kr ?_
  refine dL [.v, .v, .v, .v, .v, .l 1, .v, .v, .v, .cp (pre := fun w => w.heap[ba]? = some (.cells curA 3 (0, 0))) (digit_fn x ba (List.length x) ca curA rfl hA (by omega) 15 (by omega)) [] (fun w hb hd => ((hb.block _ (lt_of_heap hpre)).trans hpre)), .e (v := .int .u64 (IntKind.u64.wrap (((List.getD x 15 0 : Nat) : Int)))) (v' := .int .u64 ((List.getD x 15 0 : Nat) : Int)) (int_eq (wrapN_u64 (a := List.getD x 15 0) (by omega))), .e (v := .int .u64 (IntKind.u64.wrap (0 + ((List.getD x 15 0 : Nat) : Int)))) (v' := .int .u64 ((List.getD x 15 0 : Nat) : Int)) (int_eq (show IntKind.u64.wrap ((0 : Int) + ((List.getD x 15 0 : Nat) : Int)) = _ by rw [Int.zero_add]; exact wrapN_u64 (by omega))), .v, .s 1] H4 kr fun w5 H5 => ?_
  clear H4
  show WP _ _ _ _ _ _
  refine g_keep [0, 2, 3, 4, 7] fun ρ1 => ?_
  have HK2 := H5.keep
  clear H5
  refine rL [.v, .v, .v] HK2 kr fun gs6 w6 H6 => ?_
  clear HK2
  show WPL _ _ _ _ _ _
  refine g_next ?_
  refine g_seq kr ?_
  refine rS [.v, .v] H6 kr fun gs7 w7 H7 => ?_
  clear H6
  refine g_cond_t kr kr ?_
  refine g_skip kr ?_
  show WP _ _ _ _ _ _
  refine g_seq kr ?_
  refine g_block 1 kr ?_
  refine dL [.v, .v, .v, .v, .v, .l 1, .e (v := .int .u64 (IntKind.u64.wrap (((List.getD x 15 0 : Nat) : Int) * 65536))) (v' := .int .u64 (((List.getD x 15 0) * 65536 : Nat) : Int)) (int_eq (wrapMul_u64 (a := List.getD x 15 0) (b := 65536) (by omega))), .v, .v, .cp (pre := fun w => w.heap[ba]? = some (.cells curA 3 (0, 0))) (digit_fn x ba (List.length x) ca curA rfl hA (by omega) 14 (by omega)) [] (fun w hb hd => ((hb.block _ (lt_of_heap hpre)).trans hpre)), .e (v := .int .u64 (IntKind.u64.wrap (((List.getD x 14 0 : Nat) : Int)))) (v' := .int .u64 ((List.getD x 14 0 : Nat) : Int)) (int_eq (wrapN_u64 (a := List.getD x 14 0) (by omega))), .e (v := .int .u64 (IntKind.u64.wrap ((((List.getD x 15 0) * 65536 : Nat) : Int) + ((List.getD x 14 0 : Nat) : Int)))) (v' := .int .u64 ((((List.getD x 15 0) * 65536) + (List.getD x 14 0) : Nat) : Int)) (int_eq (wrapAdd_u64 (a := (List.getD x 15 0) * 65536) (b := List.getD x 14 0) (by omega))), .v, .s 1] H7 kr fun w8 H8 => ?_
  clear H7
  show WP _ _ _ _ _ _
  refine g_keep [0, 2, 3, 4, 7] fun ρ2 => ?_
  have HK3 := H8.keep
  clear H8
  refine rL [.v, .v, .v] HK3 kr fun gs9 w9 H9 => ?_
  clear HK3
  show WPL _ _ _ _ _ _
  refine g_next ?_
  refine g_seq kr ?_
  refine rS [.v, .v] H9 kr fun gs10 w10 H10 => ?_
  clear H9
  refine g_cond_t kr kr ?_
  refine g_skip kr ?_
  show WP _ _ _ _ _ _
  refine g_seq kr ?_
  refine g_block 1 kr ?_
  refine dL [.v, .v, .v, .v, .v, .l 1, .e (v := .int .u64 (IntKind.u64.wrap (((((List.getD x 15 0) * 65536) + (List.getD x 14 0) : Nat) : Int) * 65536))) (v' := .int .u64 (((((List.getD x 15 0) * 65536) + (List.getD x 14 0)) * 65536 : Nat) : Int)) (int_eq (wrapMul_u64 (a := ((List.getD x 15 0) * 65536) + (List.getD x 14 0)) (b := 65536) (by omega))), .v, .v, .cp (pre := fun w => w.heap[ba]? = some (.cells curA 3 (0, 0))) (digit_fn x ba (List.length x) ca curA rfl hA (by omega) 13 (by omega)) [] (fun w hb hd => ((hb.block _ (lt_of_heap hpre)).trans hpre)), .e (v := .int .u64 (IntKind.u64.wrap (((List.getD x 13 0 : Nat) : Int)))) (v' := .int .u64 ((List.getD x 13 0 : Nat) : Int)) (int_eq (wrapN_u64 (a := List.getD x 13 0) (by omega))), .e (v := .int .u64 (IntKind.u64.wrap ((((((List.getD x 15 0) * 65536) + (List.getD x 14 0)) * 65536 : Nat) : Int) + ((List.getD x 13 0 : Nat) : Int)))) (v' := .int .u64 ((((((List.getD x 15 0) * 65536) + (List.getD x 14 0)) * 65536) + (List.getD x 13 0) : Nat) : Int)) (int_eq (wrapAdd_u64 (a := (((List.getD x 15 0) * 65536) + (List.getD x 14 0)) * 65536) (b := List.getD x 13 0) (by omega))), .v, .s 1] H10 kr fun w11 H11 => ?_
  clear H10
  show WP _ _ _ _ _ _
  refine g_keep [0, 2, 3, 4, 7] fun ρ3 => ?_
  have HK4 := H11.keep
  clear H11
  refine rL [.v, .v, .v] HK4 kr fun gs12 w12 H12 => ?_
  clear HK4
  show WPL _ _ _ _ _ _
  refine g_next ?_
  refine g_seq kr ?_
  refine rS [.v, .v] H12 kr fun gs13 w13 H13 => ?_
  clear H12
  refine g_cond_t kr kr ?_
  refine g_skip kr ?_
  show WP _ _ _ _ _ _
  refine g_seq kr ?_
  refine g_block 1 kr ?_
  refine dL [.v, .v, .v, .v, .v, .l 1, .e (v := .int .u64 (IntKind.u64.wrap (((((((List.getD x 15 0) * 65536) + (List.getD x 14 0)) * 65536) + (List.getD x 13 0) : Nat) : Int) * 65536))) (v' := .int .u64 (((((((List.getD x 15 0) * 65536) + (List.getD x 14 0)) * 65536) + (List.getD x 13 0)) * 65536 : Nat) : Int)) (int_eq (wrapMul_u64 (a := ((((List.getD x 15 0) * 65536) + (List.getD x 14 0)) * 65536) + (List.getD x 13 0)) (b := 65536) (by omega))), .v, .v, .cp (pre := fun w => w.heap[ba]? = some (.cells curA 3 (0, 0))) (digit_fn x ba (List.length x) ca curA rfl hA (by omega) 12 (by omega)) [] (fun w hb hd => ((hb.block _ (lt_of_heap hpre)).trans hpre)), .e (v := .int .u64 (IntKind.u64.wrap (((List.getD x 12 0 : Nat) : Int)))) (v' := .int .u64 ((List.getD x 12 0 : Nat) : Int)) (int_eq (wrapN_u64 (a := List.getD x 12 0) (by omega))), .e (v := .int .u64 (IntKind.u64.wrap ((((((((List.getD x 15 0) * 65536) + (List.getD x 14 0)) * 65536) + (List.getD x 13 0)) * 65536 : Nat) : Int) + ((List.getD x 12 0 : Nat) : Int)))) (v' := .int .u64 ((((((((List.getD x 15 0) * 65536) + (List.getD x 14 0)) * 65536) + (List.getD x 13 0)) * 65536) + (List.getD x 12 0) : Nat) : Int)) (int_eq (wrapAdd_u64 (a := (((((List.getD x 15 0) * 65536) + (List.getD x 14 0)) * 65536) + (List.getD x 13 0)) * 65536) (b := List.getD x 12 0) (by omega))), .v, .s 1] H13 kr fun w14 H14 => ?_
  clear H13
  show WP _ _ _ _ _ _
  refine g_keep [0, 2, 3, 4, 7] fun ρ4 => ?_
  have HK5 := H14.keep
  clear H14
  refine rL [.v, .v, .v] HK5 kr fun gs15 w15 H15 => ?_
  clear HK5
  show WPL _ _ _ _ _ _
  refine g_next ?_
  refine g_seq kr ?_
  refine rS [.v, .v] H15 kr fun gs16 w16 H16 => ?_
  clear H15
  refine g_cond_t kr kr ?_
  refine g_skip kr ?_
  show WP _ _ _ _ _ _
  refine g_seq kr ?_
  refine g_block 1 kr ?_
  refine dL [.v, .v, .v, .v, .v, .l 1, .v, .v, .v, .cp (pre := fun w => w.heap[ba]? = some (.cells curA 3 (0, 0))) (digit_fn x ba (List.length x) ca curA rfl hA (by omega) 11 (by omega)) [] (fun w hb hd => ((hb.block _ (lt_of_heap hpre)).trans hpre)), .e (v := .int .u64 (IntKind.u64.wrap (((List.getD x 11 0 : Nat) : Int)))) (v' := .int .u64 ((List.getD x 11 0 : Nat) : Int)) (int_eq (wrapN_u64 (a := List.getD x 11 0) (by omega))), .e (v := .int .u64 (IntKind.u64.wrap (0 + ((List.getD x 11 0 : Nat) : Int)))) (v' := .int .u64 ((List.getD x 11 0 : Nat) : Int)) (int_eq (show IntKind.u64.wrap ((0 : Int) + ((List.getD x 11 0 : Nat) : Int)) = _ by rw [Int.zero_add]; exact wrapN_u64 (by omega))), .v, .s 1] H16 kr fun w17 H17 => ?_
  clear H16
  show WP _ _ _ _ _ _
  refine g_keep [0, 2, 3, 4, 7] fun ρ5 => ?_
  have HK6 := H17.keep
  clear H17
  refine rL [.v, .v, .v] HK6 kr fun gs18 w18 H18 => ?_
  clear HK6
  show WPL _ _ _ _ _ _
  refine g_next ?_
  refine g_seq kr ?_
  refine rS [.v, .v] H18 kr fun gs19 w19 H19 => ?_
  clear H18
  refine g_cond_t kr kr ?_
  refine g_skip kr ?_
  show WP _ _ _ _ _ _
  refine g_seq kr ?_
  refine g_block 1 kr ?_
  refine dL [.v, .v, .v, .v, .v, .l 1, .e (v := .int .u64 (IntKind.u64.wrap (((List.getD x 11 0 : Nat) : Int) * 65536))) (v' := .int .u64 (((List.getD x 11 0) * 65536 : Nat) : Int)) (int_eq (wrapMul_u64 (a := List.getD x 11 0) (b := 65536) (by omega))), .v, .v, .cp (pre := fun w => w.heap[ba]? = some (.cells curA 3 (0, 0))) (digit_fn x ba (List.length x) ca curA rfl hA (by omega) 10 (by omega)) [] (fun w hb hd => ((hb.block _ (lt_of_heap hpre)).trans hpre)), .e (v := .int .u64 (IntKind.u64.wrap (((List.getD x 10 0 : Nat) : Int)))) (v' := .int .u64 ((List.getD x 10 0 : Nat) : Int)) (int_eq (wrapN_u64 (a := List.getD x 10 0) (by omega))), .e (v := .int .u64 (IntKind.u64.wrap ((((List.getD x 11 0) * 65536 : Nat) : Int) + ((List.getD x 10 0 : Nat) : Int)))) (v' := .int .u64 ((((List.getD x 11 0) * 65536) + (List.getD x 10 0) : Nat) : Int)) (int_eq (wrapAdd_u64 (a := (List.getD x 11 0) * 65536) (b := List.getD x 10 0) (by omega))), .v, .s 1] H19 kr fun w20 H20 => ?_
  clear H19
  show WP _ _ _ _ _ _
  refine g_keep [0, 2, 3, 4, 7] fun ρ6 => ?_
  have HK7 := H20.keep
  clear H20
  refine rL [.v, .v, .v] HK7 kr fun gs21 w21 H21 => ?_
  clear HK7
  show WPL _ _ _ _ _ _
  refine g_next ?_
  refine g_seq kr ?_
  refine rS [.v, .v] H21 kr fun gs22 w22 H22 => ?_
  clear H21
  refine g_cond_t kr kr ?_
  refine g_skip kr ?_
  show WP _ _ _ _ _ _
  refine g_seq kr ?_
  refine g_block 1 kr ?_
  refine dL [.v, .v, .v, .v, .v, .l 1, .e (v := .int .u64 (IntKind.u64.wrap (((((List.getD x 11 0) * 65536) + (List.getD x 10 0) : Nat) : Int) * 65536))) (v' := .int .u64 (((((List.getD x 11 0) * 65536) + (List.getD x 10 0)) * 65536 : Nat) : Int)) (int_eq (wrapMul_u64 (a := ((List.getD x 11 0) * 65536) + (List.getD x 10 0)) (b := 65536) (by omega))), .v, .v, .cp (pre := fun w => w.heap[ba]? = some (.cells curA 3 (0, 0))) (digit_fn x ba (List.length x) ca curA rfl hA (by omega) 9 (by omega)) [] (fun w hb hd => ((hb.block _ (lt_of_heap hpre)).trans hpre)), .e (v := .int .u64 (IntKind.u64.wrap (((List.getD x 9 0 : Nat) : Int)))) (v' := .int .u64 ((List.getD x 9 0 : Nat) : Int)) (int_eq (wrapN_u64 (a := List.getD x 9 0) (by omega))), .e (v := .int .u64 (IntKind.u64.wrap ((((((List.getD x 11 0) * 65536) + (List.getD x 10 0)) * 65536 : Nat) : Int) + ((List.getD x 9 0 : Nat) : Int)))) (v' := .int .u64 ((((((List.getD x 11 0) * 65536) + (List.getD x 10 0)) * 65536) + (List.getD x 9 0) : Nat) : Int)) (int_eq (wrapAdd_u64 (a := (((List.getD x 11 0) * 65536) + (List.getD x 10 0)) * 65536) (b := List.getD x 9 0) (by omega))), .v, .s 1] H22 kr fun w23 H23 => ?_
  clear H22
  show WP _ _ _ _ _ _
  refine g_keep [0, 2, 3, 4, 7] fun ρ7 => ?_
  have HK8 := H23.keep
  clear H23
  refine rL [.v, .v, .v] HK8 kr fun gs24 w24 H24 => ?_
  clear HK8
  show WPL _ _ _ _ _ _
  refine g_next ?_
  refine g_seq kr ?_
  refine rS [.v, .v] H24 kr fun gs25 w25 H25 => ?_
  clear H24
  refine g_cond_t kr kr ?_
  refine g_skip kr ?_
  show WP _ _ _ _ _ _
  refine g_seq kr ?_
  refine g_block 1 kr ?_
  refine dL [.v, .v, .v, .v, .v, .l 1, .e (v := .int .u64 (IntKind.u64.wrap (((((((List.getD x 11 0) * 65536) + (List.getD x 10 0)) * 65536) + (List.getD x 9 0) : Nat) : Int) * 65536))) (v' := .int .u64 (((((((List.getD x 11 0) * 65536) + (List.getD x 10 0)) * 65536) + (List.getD x 9 0)) * 65536 : Nat) : Int)) (int_eq (wrapMul_u64 (a := ((((List.getD x 11 0) * 65536) + (List.getD x 10 0)) * 65536) + (List.getD x 9 0)) (b := 65536) (by omega))), .v, .v, .cp (pre := fun w => w.heap[ba]? = some (.cells curA 3 (0, 0))) (digit_fn x ba (List.length x) ca curA rfl hA (by omega) 8 (by omega)) [] (fun w hb hd => ((hb.block _ (lt_of_heap hpre)).trans hpre)), .e (v := .int .u64 (IntKind.u64.wrap (((List.getD x 8 0 : Nat) : Int)))) (v' := .int .u64 ((List.getD x 8 0 : Nat) : Int)) (int_eq (wrapN_u64 (a := List.getD x 8 0) (by omega))), .e (v := .int .u64 (IntKind.u64.wrap ((((((((List.getD x 11 0) * 65536) + (List.getD x 10 0)) * 65536) + (List.getD x 9 0)) * 65536 : Nat) : Int) + ((List.getD x 8 0 : Nat) : Int)))) (v' := .int .u64 ((((((((List.getD x 11 0) * 65536) + (List.getD x 10 0)) * 65536) + (List.getD x 9 0)) * 65536) + (List.getD x 8 0) : Nat) : Int)) (int_eq (wrapAdd_u64 (a := (((((List.getD x 11 0) * 65536) + (List.getD x 10 0)) * 65536) + (List.getD x 9 0)) * 65536) (b := List.getD x 8 0) (by omega))), .v, .s 1] H25 kr fun w26 H26 => ?_
  clear H25
  show WP _ _ _ _ _ _
  refine g_keep [0, 2, 3, 4, 7] fun ρ8 => ?_
  have HK9 := H26.keep
  clear H26
  refine rL [.v, .v, .v] HK9 kr fun gs27 w27 H27 => ?_
  clear HK9
  show WPL _ _ _ _ _ _
  refine g_next ?_
  refine g_seq kr ?_
  refine rS [.v, .v] H27 kr fun gs28 w28 H28 => ?_
  clear H27
  refine g_cond_t kr kr ?_
  refine g_skip kr ?_
  show WP _ _ _ _ _ _
  refine g_seq kr ?_
  refine g_block 1 kr ?_
  refine dL [.v, .v, .v, .v, .v, .l 1, .v, .v, .v, .cp (pre := fun w => w.heap[ba]? = some (.cells curA 3 (0, 0))) (digit_fn x ba (List.length x) ca curA rfl hA (by omega) 7 (by omega)) [] (fun w hb hd => ((hb.block _ (lt_of_heap hpre)).trans hpre)), .e (v := .int .u64 (IntKind.u64.wrap (((List.getD x 7 0 : Nat) : Int)))) (v' := .int .u64 ((List.getD x 7 0 : Nat) : Int)) (int_eq (wrapN_u64 (a := List.getD x 7 0) (by omega))), .e (v := .int .u64 (IntKind.u64.wrap (0 + ((List.getD x 7 0 : Nat) : Int)))) (v' := .int .u64 ((List.getD x 7 0 : Nat) : Int)) (int_eq (show IntKind.u64.wrap ((0 : Int) + ((List.getD x 7 0 : Nat) : Int)) = _ by rw [Int.zero_add]; exact wrapN_u64 (by omega))), .v, .s 1] H28 kr fun w29 H29 => ?_
  clear H28
  show WP _ _ _ _ _ _
  refine g_keep [0, 2, 3, 4, 7] fun ρ9 => ?_
  have HK10 := H29.keep
  clear H29
  refine rL [.v, .v, .v] HK10 kr fun gs30 w30 H30 => ?_
  clear HK10
  show WPL _ _ _ _ _ _
  refine g_next ?_
  refine g_seq kr ?_
  refine rS [.v, .v] H30 kr fun gs31 w31 H31 => ?_
  clear H30
  refine g_cond_t kr kr ?_
  refine g_skip kr ?_
  show WP _ _ _ _ _ _
  refine g_seq kr ?_
  refine g_block 1 kr ?_
  refine dL [.v, .v, .v, .v, .v, .l 1, .e (v := .int .u64 (IntKind.u64.wrap (((List.getD x 7 0 : Nat) : Int) * 65536))) (v' := .int .u64 (((List.getD x 7 0) * 65536 : Nat) : Int)) (int_eq (wrapMul_u64 (a := List.getD x 7 0) (b := 65536) (by omega))), .v, .v, .cp (pre := fun w => w.heap[ba]? = some (.cells curA 3 (0, 0))) (digit_fn x ba (List.length x) ca curA rfl hA (by omega) 6 (by omega)) [] (fun w hb hd => ((hb.block _ (lt_of_heap hpre)).trans hpre)), .e (v := .int .u64 (IntKind.u64.wrap (((List.getD x 6 0 : Nat) : Int)))) (v' := .int .u64 ((List.getD x 6 0 : Nat) : Int)) (int_eq (wrapN_u64 (a := List.getD x 6 0) (by omega))), .e (v := .int .u64 (IntKind.u64.wrap ((((List.getD x 7 0) * 65536 : Nat) : Int) + ((List.getD x 6 0 : Nat) : Int)))) (v' := .int .u64 ((((List.getD x 7 0) * 65536) + (List.getD x 6 0) : Nat) : Int)) (int_eq (wrapAdd_u64 (a := (List.getD x 7 0) * 65536) (b := List.getD x 6 0) (by omega))), .v, .s 1] H31 kr fun w32 H32 => ?_
  clear H31
  show WP _ _ _ _ _ _
  refine g_keep [0, 2, 3, 4, 7] fun ρ10 => ?_
  have HK11 := H32.keep
  clear H32
  refine rL [.v, .v, .v] HK11 kr fun gs33 w33 H33 => ?_
  clear HK11
  show WPL _ _ _ _ _ _
  refine g_next ?_
  refine g_seq kr ?_
  refine rS [.v, .v] H33 kr fun gs34 w34 H34 => ?_
  clear H33
  refine g_cond_t kr kr ?_
  refine g_skip kr ?_
  show WP _ _ _ _ _ _
  refine g_seq kr ?_
  refine g_block 1 kr ?_
  refine dL [.v, .v, .v, .v, .v, .l 1, .e (v := .int .u64 (IntKind.u64.wrap (((((List.getD x 7 0) * 65536) + (List.getD x 6 0) : Nat) : Int) * 65536))) (v' := .int .u64 (((((List.getD x 7 0) * 65536) + (List.getD x 6 0)) * 65536 : Nat) : Int)) (int_eq (wrapMul_u64 (a := ((List.getD x 7 0) * 65536) + (List.getD x 6 0)) (b := 65536) (by omega))), .v, .v, .cp (pre := fun w => w.heap[ba]? = some (.cells curA 3 (0, 0))) (digit_fn x ba (List.length x) ca curA rfl hA (by omega) 5 (by omega)) [] (fun w hb hd => ((hb.block _ (lt_of_heap hpre)).trans hpre)), .e (v := .int .u64 (IntKind.u64.wrap (((List.getD x 5 0 : Nat) : Int)))) (v' := .int .u64 ((List.getD x 5 0 : Nat) : Int)) (int_eq (wrapN_u64 (a := List.getD x 5 0) (by omega))), .e (v := .int .u64 (IntKind.u64.wrap ((((((List.getD x 7 0) * 65536) + (List.getD x 6 0)) * 65536 : Nat) : Int) + ((List.getD x 5 0 : Nat) : Int)))) (v' := .int .u64 ((((((List.getD x 7 0) * 65536) + (List.getD x 6 0)) * 65536) + (List.getD x 5 0) : Nat) : Int)) (int_eq (wrapAdd_u64 (a := (((List.getD x 7 0) * 65536) + (List.getD x 6 0)) * 65536) (b := List.getD x 5 0) (by omega))), .v, .s 1] H34 kr fun w35 H35 => ?_
  clear H34
  show WP _ _ _ _ _ _
  refine g_keep [0, 2, 3, 4, 7] fun ρ11 => ?_
  have HK12 := H35.keep
  clear H35
  refine rL [.v, .v, .v] HK12 kr fun gs36 w36 H36 => ?_
  clear HK12
  show WPL _ _ _ _ _ _
  refine g_next ?_
  refine g_seq kr ?_
  refine rS [.v, .v] H36 kr fun gs37 w37 H37 => ?_
  clear H36
  refine g_cond_t kr kr ?_
  refine g_skip kr ?_
  show WP _ _ _ _ _ _
  refine g_seq kr ?_
  refine g_block 1 kr ?_
  refine dL [.v, .v, .v, .v, .v, .l 1, .e (v := .int .u64 (IntKind.u64.wrap (((((((List.getD x 7 0) * 65536) + (List.getD x 6 0)) * 65536) + (List.getD x 5 0) : Nat) : Int) * 65536))) (v' := .int .u64 (((((((List.getD x 7 0) * 65536) + (List.getD x 6 0)) * 65536) + (List.getD x 5 0)) * 65536 : Nat) : Int)) (int_eq (wrapMul_u64 (a := ((((List.getD x 7 0) * 65536) + (List.getD x 6 0)) * 65536) + (List.getD x 5 0)) (b := 65536) (by omega))), .v, .v, .cp (pre := fun w => w.heap[ba]? = some (.cells curA 3 (0, 0))) (digit_fn x ba (List.length x) ca curA rfl hA (by omega) 4 (by omega)) [] (fun w hb hd => ((hb.block _ (lt_of_heap hpre)).trans hpre)), .e (v := .int .u64 (IntKind.u64.wrap (((List.getD x 4 0 : Nat) : Int)))) (v' := .int .u64 ((List.getD x 4 0 : Nat) : Int)) (int_eq (wrapN_u64 (a := List.getD x 4 0) (by omega))), .e (v := .int .u64 (IntKind.u64.wrap ((((((((List.getD x 7 0) * 65536) + (List.getD x 6 0)) * 65536) + (List.getD x 5 0)) * 65536 : Nat) : Int) + ((List.getD x 4 0 : Nat) : Int)))) (v' := .int .u64 ((((((((List.getD x 7 0) * 65536) + (List.getD x 6 0)) * 65536) + (List.getD x 5 0)) * 65536) + (List.getD x 4 0) : Nat) : Int)) (int_eq (wrapAdd_u64 (a := (((((List.getD x 7 0) * 65536) + (List.getD x 6 0)) * 65536) + (List.getD x 5 0)) * 65536) (b := List.getD x 4 0) (by omega))), .v, .s 1] H37 kr fun w38 H38 => ?_
  clear H37
  show WP _ _ _ _ _ _
  refine g_keep [0, 2, 3, 4, 7] fun ρ12 => ?_
  have HK13 := H38.keep
  clear H38
  refine rL [.v, .v, .v] HK13 kr fun gs39 w39 H39 => ?_
  clear HK13
  show WPL _ _ _ _ _ _
  refine g_next ?_
  refine g_seq kr ?_
  refine rS [.v, .v] H39 kr fun gs40 w40 H40 => ?_
  clear H39
  refine g_cond_t kr kr ?_
  refine g_skip kr ?_
  show WP _ _ _ _ _ _
  refine g_seq kr ?_
  refine g_block 1 kr ?_
  refine dL [.v, .v, .v, .v, .v, .l 1, .v, .v, .v, .cp (pre := fun w => w.heap[ba]? = some (.cells curA 3 (0, 0))) (digit_fn x ba (List.length x) ca curA rfl hA (by omega) 3 (by omega)) [] (fun w hb hd => ((hb.block _ (lt_of_heap hpre)).trans hpre)), .e (v := .int .u64 (IntKind.u64.wrap (((List.getD x 3 0 : Nat) : Int)))) (v' := .int .u64 ((List.getD x 3 0 : Nat) : Int)) (int_eq (wrapN_u64 (a := List.getD x 3 0) (by omega))), .e (v := .int .u64 (IntKind.u64.wrap (0 + ((List.getD x 3 0 : Nat) : Int)))) (v' := .int .u64 ((List.getD x 3 0 : Nat) : Int)) (int_eq (show IntKind.u64.wrap ((0 : Int) + ((List.getD x 3 0 : Nat) : Int)) = _ by rw [Int.zero_add]; exact wrapN_u64 (by omega))), .v, .s 1] H40 kr fun w41 H41 => ?_
  clear H40
  show WP _ _ _ _ _ _
  refine g_keep [0, 2, 3, 4, 7] fun ρ13 => ?_
  have HK14 := H41.keep
  clear H41
  refine rL [.v, .v, .v] HK14 kr fun gs42 w42 H42 => ?_
  clear HK14
  show WPL _ _ _ _ _ _
  refine g_next ?_
  refine g_seq kr ?_
  refine rS [.v, .v] H42 kr fun gs43 w43 H43 => ?_
  clear H42
  refine g_cond_t kr kr ?_
  refine g_skip kr ?_
  show WP _ _ _ _ _ _
  refine g_seq kr ?_
  refine g_block 1 kr ?_
  refine dL [.v, .v, .v, .v, .v, .l 1, .e (v := .int .u64 (IntKind.u64.wrap (((List.getD x 3 0 : Nat) : Int) * 65536))) (v' := .int .u64 (((List.getD x 3 0) * 65536 : Nat) : Int)) (int_eq (wrapMul_u64 (a := List.getD x 3 0) (b := 65536) (by omega))), .v, .v, .cp (pre := fun w => w.heap[ba]? = some (.cells curA 3 (0, 0))) (digit_fn x ba (List.length x) ca curA rfl hA (by omega) 2 (by omega)) [] (fun w hb hd => ((hb.block _ (lt_of_heap hpre)).trans hpre)), .e (v := .int .u64 (IntKind.u64.wrap (((List.getD x 2 0 : Nat) : Int)))) (v' := .int .u64 ((List.getD x 2 0 : Nat) : Int)) (int_eq (wrapN_u64 (a := List.getD x 2 0) (by omega))), .e (v := .int .u64 (IntKind.u64.wrap ((((List.getD x 3 0) * 65536 : Nat) : Int) + ((List.getD x 2 0 : Nat) : Int)))) (v' := .int .u64 ((((List.getD x 3 0) * 65536) + (List.getD x 2 0) : Nat) : Int)) (int_eq (wrapAdd_u64 (a := (List.getD x 3 0) * 65536) (b := List.getD x 2 0) (by omega))), .v, .s 1] H43 kr fun w44 H44 => ?_
  clear H43
  show WP _ _ _ _ _ _
  refine g_keep [0, 2, 3, 4, 7] fun ρ14 => ?_
  have HK15 := H44.keep
  clear H44
  refine rL [.v, .v, .v] HK15 kr fun gs45 w45 H45 => ?_
  clear HK15
  show WPL _ _ _ _ _ _
  refine g_next ?_
  refine g_seq kr ?_
  refine rS [.v, .v] H45 kr fun gs46 w46 H46 => ?_
  clear H45
  refine g_cond_t kr kr ?_
  refine g_skip kr ?_
  show WP _ _ _ _ _ _
  refine g_seq kr ?_
  refine g_block 1 kr ?_
  refine dL [.v, .v, .v, .v, .v, .l 1, .e (v := .int .u64 (IntKind.u64.wrap (((((List.getD x 3 0) * 65536) + (List.getD x 2 0) : Nat) : Int) * 65536))) (v' := .int .u64 (((((List.getD x 3 0) * 65536) + (List.getD x 2 0)) * 65536 : Nat) : Int)) (int_eq (wrapMul_u64 (a := ((List.getD x 3 0) * 65536) + (List.getD x 2 0)) (b := 65536) (by omega))), .v, .v, .cp (pre := fun w => w.heap[ba]? = some (.cells curA 3 (0, 0))) (digit_fn x ba (List.length x) ca curA rfl hA (by omega) 1 (by omega)) [] (fun w hb hd => ((hb.block _ (lt_of_heap hpre)).trans hpre)), .e (v := .int .u64 (IntKind.u64.wrap (((List.getD x 1 0 : Nat) : Int)))) (v' := .int .u64 ((List.getD x 1 0 : Nat) : Int)) (int_eq (wrapN_u64 (a := List.getD x 1 0) (by omega))), .e (v := .int .u64 (IntKind.u64.wrap ((((((List.getD x 3 0) * 65536) + (List.getD x 2 0)) * 65536 : Nat) : Int) + ((List.getD x 1 0 : Nat) : Int)))) (v' := .int .u64 ((((((List.getD x 3 0) * 65536) + (List.getD x 2 0)) * 65536) + (List.getD x 1 0) : Nat) : Int)) (int_eq (wrapAdd_u64 (a := (((List.getD x 3 0) * 65536) + (List.getD x 2 0)) * 65536) (b := List.getD x 1 0) (by omega))), .v, .s 1] H46 kr fun w47 H47 => ?_
  clear H46
  show WP _ _ _ _ _ _
  refine g_keep [0, 2, 3, 4, 7] fun ρ15 => ?_
  have HK16 := H47.keep
  clear H47
  refine rL [.v, .v, .v] HK16 kr fun gs48 w48 H48 => ?_
  clear HK16
  show WPL _ _ _ _ _ _
  refine g_next ?_
  refine g_seq kr ?_
  refine rS [.v, .v] H48 kr fun gs49 w49 H49 => ?_
  clear H48
  refine g_cond_t kr kr ?_
  refine g_skip kr ?_
  show WP _ _ _ _ _ _
  refine g_seq kr ?_
  refine g_block 1 kr ?_
  refine dL [.v, .v, .v, .v, .v, .l 1, .e (v := .int .u64 (IntKind.u64.wrap (((((((List.getD x 3 0) * 65536) + (List.getD x 2 0)) * 65536) + (List.getD x 1 0) : Nat) : Int) * 65536))) (v' := .int .u64 (((((((List.getD x 3 0) * 65536) + (List.getD x 2 0)) * 65536) + (List.getD x 1 0)) * 65536 : Nat) : Int)) (int_eq (wrapMul_u64 (a := ((((List.getD x 3 0) * 65536) + (List.getD x 2 0)) * 65536) + (List.getD x 1 0)) (b := 65536) (by omega))), .v, .v, .cp (pre := fun w => w.heap[ba]? = some (.cells curA 3 (0, 0))) (digit_fn x ba (List.length x) ca curA rfl hA (by omega) 0 (by omega)) [] (fun w hb hd => ((hb.block _ (lt_of_heap hpre)).trans hpre)), .e (v := .int .u64 (IntKind.u64.wrap (((List.getD x 0 0 : Nat) : Int)))) (v' := .int .u64 ((List.getD x 0 0 : Nat) : Int)) (int_eq (wrapN_u64 (a := List.getD x 0 0) (by omega))), .e (v := .int .u64 (IntKind.u64.wrap ((((((((List.getD x 3 0) * 65536) + (List.getD x 2 0)) * 65536) + (List.getD x 1 0)) * 65536 : Nat) : Int) + ((List.getD x 0 0 : Nat) : Int)))) (v' := .int .u64 ((((((((List.getD x 3 0) * 65536) + (List.getD x 2 0)) * 65536) + (List.getD x 1 0)) * 65536) + (List.getD x 0 0) : Nat) : Int)) (int_eq (wrapAdd_u64 (a := (((((List.getD x 3 0) * 65536) + (List.getD x 2 0)) * 65536) + (List.getD x 1 0)) * 65536) (b := List.getD x 0 0) (by omega))), .v, .s 1] H49 kr fun w50 H50 => ?_
  clear H49
  show WP _ _ _ _ _ _
  refine g_keep [0, 2, 3, 4, 7] fun ρ16 => ?_
  have HK17 := H50.keep
  clear H50
  refine rL [.v, .v, .v] HK17 kr fun gs51 w51 H51 => ?_
  clear HK17
  show WPL _ _ _ _ _ _
  refine g_next ?_
  refine g_seq kr ?_
  refine rS [.v, .v] H51 kr fun gs52 w52 H52 => ?_
  clear H51
  refine g_cond_f kr kr ?_
  refine g_exit 0 kr ?_
  show WP _ _ _ _ _ _
  refine rS [.l 1, .s 0] H52 kr fun gs53 w53 H53 => ?_
  clear H52
  refine g_ret kr ?_
  show ∃ vs, Res _ _ _ _ vs ∧ _
  refine ⟨[.agg #[.int .u64 ((((((((List.getD x 3 0) * 65536) + (List.getD x 2 0)) * 65536) + (List.getD x 1 0)) * 65536) + (List.getD x 0 0) : Nat) : Int), .int .u64 ((((((((List.getD x 7 0) * 65536) + (List.getD x 6 0)) * 65536) + (List.getD x 5 0)) * 65536) + (List.getD x 4 0) : Nat) : Int), .int .u64 ((((((((List.getD x 11 0) * 65536) + (List.getD x 10 0)) * 65536) + (List.getD x 9 0)) * 65536) + (List.getD x 8 0) : Nat) : Int), .int .u64 ((((((((List.getD x 15 0) * 65536) + (List.getD x 14 0)) * 65536) + (List.getD x 13 0)) * 65536) + (List.getD x 12 0) : Nat) : Int)]], (.agg (b := (gs1 0).b) #[.int .u64 ((((((((List.getD x 3 0) * 65536) + (List.getD x 2 0)) * 65536) + (List.getD x 1 0)) * 65536) + (List.getD x 0 0) : Nat) : Int), .int .u64 ((((((((List.getD x 7 0) * 65536) + (List.getD x 6 0)) * 65536) + (List.getD x 5 0)) * 65536) + (List.getD x 4 0) : Nat) : Int), .int .u64 ((((((((List.getD x 11 0) * 65536) + (List.getD x 10 0)) * 65536) + (List.getD x 9 0)) * 65536) + (List.getD x 8 0) : Nat) : Int), .int .u64 ((((((((List.getD x 15 0) * 65536) + (List.getD x 14 0)) * 65536) + (List.getD x 13 0)) * 65536) + (List.getD x 12 0) : Nat) : Int)] 24 (0, 0) kr (H53.get 0 kr) kr .nil), ?_, H53.below⟩
  have e := uv_digits hx (fun i => List.getD x i 0) (fun _ => rfl)
  exact e
end Go.Proofs.YtmmloghbnpfedaaDoor

namespace Go.Proofs.YtmmloghbnpfedaaDoor
open Go Go.RowKit
set_option linter.unusedVariables false
set_option maxRecDepth 100000 in
set_option maxHeartbeats 2000000 in
theorem left_fn (x y : List Nat) (ba nx ca bb ny cb : Nat) (curA curB : Array Value) (hnx : nx = List.length x) (hny : ny = List.length y) (hA : Rw 1 curA ca nx (cellsD x)) (hB : Rw 1 curB cb ny (cellsD y)) (hx : Ok x) (hy : Ok y) (lx : List.length x ≤ 2000) (ly : List.length y ≤ 2000) (hM : 0 < vl y) (hy1 : 1 ≤ List.length y) : FnR Tryd.prog 88 #[.slice (some ⟨ba, 0, none⟩) nx ca, .slice (some ⟨bb, 0, none⟩) ny cb] (fun w => w.heap[ba]? = some (.cells curA 3 (0, 0)) ∧ w.heap[bb]? = some (.cells curB 3 (0, 0))) (RetS 3 1 (fun cur cap n l => (n = List.length l ∧ Rw 1 cur cap n (cellsD l) ∧ Ok l ∧ (vl l = vl x % vl y ∧ 1 ≤ List.length l ∧ List.length l ≤ List.length y)))) := by
  subst hnx hny
  refine FnR.intro (c := codeOf Tryd.f88) [.tmp 4] 58 Tryd.func88 kr kr kr fun w hpre => ?_
  have H0 := St.start w
  refine rS [.v] H0 kr fun gs1 w1 H1 => ?_
  clear H0
  refine rS [.nw (fun b => .slice (some ⟨b, 0, none⟩) 1 1) #[.int .i64 0] 3, .v] H1 kr fun gs2 w2 H2 => ?_
  clear H1
  refine g_seq kr ?_
  refine rS [.v, .v, .e (v := .int .i64 (IntKind.i64.wrap (16 * ((List.length x : Nat) : Int)))) (v' := .int .i64 ((16 * (List.length x) : Nat) : Int)) (int_eq (wrapMul_i64 (a := 16) (b := List.length x) (by omega))), .e (v := .int .i64 (IntKind.i64.wrap (((16 * (List.length x) : Nat) : Int) - 1))) (v' := .int .i64 (((16 * (List.length x) : Nat) : Int) - 1)) (int_eq (wrap_i64 (by omega) (by omega))), .v] H2 kr fun gs3 w3 H3 => ?_
  clear H2
  refine g_block 0 kr ?_
  have HL1 : St w.heap.size w w3 [((gs2 0).b, Obj.cells #[.int .i64 0] 3 (0, 0))] := H3.as kr
  clear H3
  have hv0 : vl [0] = vl x / 2 ^ (16 * List.length x) % vl y := by rw [Nat.div_eq_of_lt (by have := vl_lt hx; rw [show (65536 : Nat) = 2 ^ 16 from rfl, ← Nat.pow_mul] at this; exact this), Nat.zero_mod]; rfl
  refine g_loop kr (fun mz ρ ww => ∃ (b : Nat) (cap : Nat) (n : Nat) (cur : Array Value) (l : List Nat) (j : Nat), j = mz ∧ (n = List.length l) ∧ (Rw 1 cur cap n (cellsD l)) ∧ (Ok l) ∧ (vl l = vl x / 2 ^ j % vl y) ∧ (1 ≤ n) ∧ (n ≤ List.length y) ∧ (j ≤ 16 * List.length x) ∧ St w.heap.size w ww [(b, Obj.cells cur 3 (0, 0))] ∧ Is [(0, .slice (some ⟨ba, 0, none⟩) (List.length x) ca), (1, .slice (some ⟨bb, 0, none⟩) (List.length y) cb), (4, .slice none 0 0), (5, .slice (some ⟨b, 0, none⟩) n cap), (6, .int .i64 (((j : Nat) : Int) - 1))] ρ) (16 * List.length x) ⟨(gs2 0).b, 1, 1, #[.int .i64 0], [0], (16 * List.length x), rfl, rfl, (Rw.lit #[.int .i64 0] 1 rfl (by unfold maxLen; omega)), (by intro d hd; simp at hd; omega), hv0, (by omega), hy1, (by omega), HL1, (Is.of ⟨kr, kr, kr, kr, kr, trivial⟩)⟩ ?_
  clear HL1
  rintro _ _ w4 ⟨b, cap, n, cur, l, j, rfl, hn, hr, ho, hv, h1, h2, hj, H4, _, rfl⟩
  refine g_seq kr ?_
  refine g_sreg [0, 1] kr kr ?_
  refine rp [.v] H4 kr fun gs5 w5 H5 => ?_
  show WPs _ _ _ _ [1] _ _
  clear H4
  by_cases hc2 : (((j : Nat) : Int) - 1 : Int) ≥ 0
  · skip
    refine rp [.e (v := .bool (decide (0 ≤ ((j : Nat) : Int) - 1))) (v' := .bool true) (bool_eq (decide_eq_true (by omega)))] H5 kr fun gs6 w6 H6 => ?_
    show WPs _ _ _ _ [] _ _
    clear H5
    refine s_nil ?_
    refine g_cond_t kr kr ?_
    refine g_skip kr ?_
    show WP _ _ _ _ _ _
    refine g_seq kr ?_
    refine g_block 1 kr ?_
    refine g_now 6 (v := .int .i64 (((j : Nat) : Int) - 1)) (v' := .int .i64 ((j - 1 : Nat) : Int)) (int_eq (show (((j : Nat) : Int) - 1) = ((j - 1 : Nat) : Int) from by omega)) kr ?_
    refine g_now 12 (v := .int .i64 (((j : Nat) : Int) - 1)) (v' := .int .i64 ((j - 1 : Nat) : Int)) (int_eq (show (((j : Nat) : Int) - 1) = ((j - 1 : Nat) : Int) from by omega)) kr ?_
    have h01 : List.length [1] = 1 := rfl; have hv01 : vl [1] = 1 := rfl
    have hbit := bit_digit hx (j - 1)
    have hst := left_step (N := vl x) (M := vl y) (v := vl l) (j := j - 1) hM (by rw [show j - 1 + 1 = j by omega]; exact hv)
    have hdx := ok_getD hx ((j - 1) / 16); have hdv : List.getD x ((j - 1) / 16) 0 / 2 ^ ((j - 1) % 16) ≤ List.getD x ((j - 1) / 16) 0 := Nat.div_le_self _ _
    refine g_sreg [0, 1, 2, 3] kr kr ?_
    refine rp [.v, .v] H6 kr fun gs7 w7 H7 => ?_
    show WPs _ _ _ _ [2, 3] _ _
    clear H6
    refine s_callS H7 (some 18) 59 #[.slice (some ⟨b, 0, none⟩) n cap, .slice (some ⟨b, 0, none⟩) n cap] (fun w => w.heap[b]? = some (.cells cur 3 (0, 0)) ∧ w.heap[b]? = some (.cells cur 3 (0, 0))) 3 1 (fun curZ capZ nZ lZ => (nZ = List.length lZ ∧ Rw 1 curZ capZ nZ (cellsD lZ) ∧ Ok lZ ∧ (vl lZ = vl l + vl l ∧ List.length lZ ≤ max (List.length l) (List.length l) + 1 ∧ max (List.length l) (List.length l) ≤ List.length lZ))) (sum_fn l l b n cap b n cap cur cur hn hn hr hr ho ho (by omega) (by omega)) (⟨(H7.get 0 kr), (H7.get 0 kr)⟩) kr kr ?_
    intro b_1 cap_2 n_3 cur_4 l_5 w8 H8 hs_6; clear H7
    obtain ⟨hs_6n, hs_6r, hs_6o, hs_6s⟩ := hs_6
    refine rp [.v] H8 kr fun gs9 w9 H9 => ?_
    show WPs _ _ _ _ [] _ _
    clear H8
    refine s_nil ?_
    refine g_seq kr ?_
    refine g_sreg [0, 1, 2, 3, 4, 5, 6, 7, 8, 9, 10] kr kr ?_
    refine rp [.v, .v, .e (v := .int .i64 (IntKind.i64.wrap (((j - 1 : Nat) : Int).tdiv 16))) (v' := .int .i64 (((j - 1) / 16 : Nat) : Int)) (int_eq (quoN_i64 (a := j - 1) (b := 16) (by omega))), .o (ins := [((.tmp 19), .slice (some ⟨ba, 0, none⟩) (List.length x) ca), ((.tmp 21), .int .i64 (((j - 1) / 16 : Nat) : Int))]) (v := .pointer (some ⟨ba, 0 + ((j - 1) / 16) * 1, none⟩)) (fun ρ o w ho hi => idxS_run (kd := .i64) (t := 60) (e := 3) (size := 1) (bytes := 8) kr (x := (.tmp 19)) (y := (.tmp 21)) ba 0 (List.length x) ca ((j - 1) / 16) ho hi.1 hi.2.1 (by omega) w), .fs (off := 0 + ((j - 1) / 16) * 1) (v := .int .i64 ((List.getD x ((j - 1) / 16) 0 : Nat) : Int)) hpre.1 (lt_of_heap hpre.1) (hA.atD (by omega) rfl), .v, .e (v := .int .i64 (Int.tmod ((j - 1 : Nat) : Int) 16)) (v' := .int .i64 (((j - 1) % 16 : Nat) : Int)) (int_eq (remN (j - 1) 16)), .e (v := .int .u64 (IntKind.u64.wrap ((((j - 1) % 16 : Nat) : Int)))) (v' := .int .u64 (((j - 1) % 16 : Nat) : Int)) (int_eq (wrapN_u64 (a := (j - 1) % 16) (by omega))), .e (v := .int .i64 (Int.fdiv ((List.getD x ((j - 1) / 16) 0 : Nat) : Int) (2 ^ (min ((j - 1) % 16) 64)))) (v' := .int .i64 (((List.getD x ((j - 1) / 16) 0) / 2 ^ ((j - 1) % 16) : Nat) : Int)) (int_eq (shr_min (List.getD x ((j - 1) / 16) 0) ((j - 1) % 16) 64 (by omega))), .e (v := .int .i64 (Int.tmod (((List.getD x ((j - 1) / 16) 0) / 2 ^ ((j - 1) % 16) : Nat) : Int) 2)) (v' := .int .i64 ((((List.getD x ((j - 1) / 16) 0) / 2 ^ ((j - 1) % 16)) % 2 : Nat) : Int)) (int_eq (remN ((List.getD x ((j - 1) / 16) 0) / 2 ^ ((j - 1) % 16)) 2))] H9 kr fun gs10 w10 H10 => ?_
    show WPs _ _ _ _ [10] _ _
    clear H9
    by_cases hc3 : (((List.getD x ((j - 1) / 16) 0) / 2 ^ ((j - 1) % 16)) % 2 : Nat) = 1
    · skip
      refine rp [.e (v := .bool (((((List.getD x ((j - 1) / 16) 0) / 2 ^ ((j - 1) % 16)) % 2 : Nat) : Int) == 1)) (v' := .bool true) (bool_eq (beq_iff_eq.2 (by omega)))] H10 kr fun gs11 w11 H11 => ?_
      show WPs _ _ _ _ [] _ _
      clear H10
      refine s_nil ?_
      refine g_keep [0, 1, 4, 5, 6, 13, 29] fun ρ1 => ?_
      have HK4 := H11.keep
      clear H11
      refine g_cond_t kr kr ?_
      refine g_reg0 [0, 1, 2, 3] kr ?_
      refine rp [.v, .nw (fun b => .slice (some ⟨b, 0, none⟩) 1 1) #[.int .i64 1] 3] HK4 kr fun gs12 w12 H12 => ?_
      show WPs _ _ _ _ [2, 3] _ _
      clear HK4
      refine s_callS H12 (some 32) 59 #[.slice (some ⟨b_1, 0, none⟩) n_3 cap_2, .slice (some ⟨(gs12 1).b, 0, none⟩) 1 1] (fun w => w.heap[b_1]? = some (.cells cur_4 3 (0, 0)) ∧ w.heap[(gs12 1).b]? = some (.cells #[.int .i64 1] 3 (0, 0))) 3 1 (fun curZ capZ nZ lZ => (nZ = List.length lZ ∧ Rw 1 curZ capZ nZ (cellsD lZ) ∧ Ok lZ ∧ (vl lZ = vl l_5 + vl ([1]) ∧ List.length lZ ≤ max (List.length l_5) (List.length ([1])) + 1 ∧ max (List.length l_5) (List.length ([1])) ≤ List.length lZ))) (sum_fn l_5 ([1]) b_1 n_3 cap_2 ((gs12 1).b) 1 1 cur_4 #[.int .i64 1] hs_6n rfl hs_6r (Rw.lit #[.int .i64 1] 1 (by rfl) (by unfold maxLen; omega)) hs_6o (by intro d hd; simp at hd; omega) (by omega) (by simp)) (⟨(H12.get 0 kr), (H12.get 2 kr)⟩) kr kr ?_
      intro b_7 cap_8 n_9 cur_10 l_11 w13 H13 hs_12; clear H12
      obtain ⟨hs_12n, hs_12r, hs_12o, hs_12s⟩ := hs_12
      refine rp [.v] H13 kr fun gs14 w14 H14 => ?_
      show WPs _ _ _ _ [] _ _
      clear H13
      refine s_nil ?_
      show WP _ _ _ _ _ _
      refine g_seq kr ?_
      refine g_sreg [0, 1, 2, 3] kr kr ?_
      refine rp [.v, .v, .cp (pre := fun w => w.heap[b_7]? = some (.cells cur_10 3 (0, 0)) ∧ w.heap[bb]? = some (.cells curB 3 (0, 0))) (less_fn l_11 y b_7 n_9 cap_8 bb (List.length y) cb cur_10 curB hs_12n rfl hs_12r hB hs_12o hy (by omega) (by omega)) [(0, (b_7, Obj.cells cur_10 3 (0, 0)))] (fun w hb hd => ⟨hd.1, ((hb.block _ (lt_of_heap hpre.2)).trans hpre.2)⟩)] H14 kr fun gs15 w15 H15 => ?_
      show WPs _ _ _ _ [3] _ _
      clear H14
      rcases (Bool.eq_false_or_eq_true (ls l_11 y)).symm with hls | hls
      · skip
        refine s_now 35 (v := .bool (ls l_11 y)) (v' := .bool false) (bool_eq hls) kr ?_
        have hls2 := of_decide_eq_false hls
        refine rp [.v] H15 kr fun gs16 w16 H16 => ?_
        show WPs _ _ _ _ [] _ _
        clear H15
        refine s_nil ?_
        refine g_cond_t kr kr ?_
        refine g_reg0 [0, 1, 2, 3] kr ?_
        refine rp [.v, .v] H16 kr fun gs17 w17 H17 => ?_
        show WPs _ _ _ _ [2, 3] _ _
        clear H16
        refine s_callS H17 (some 39) 60 #[.slice (some ⟨b_7, 0, none⟩) n_9 cap_8, .slice (some ⟨bb, 0, none⟩) (List.length y) cb] (fun w => w.heap[b_7]? = some (.cells cur_10 3 (0, 0)) ∧ w.heap[bb]? = some (.cells curB 3 (0, 0))) 3 1 (fun curZ capZ nZ lZ => (nZ = List.length lZ ∧ Rw 1 curZ capZ nZ (cellsD lZ) ∧ Ok lZ ∧ (vl lZ = vl l_11 - vl y ∧ List.length lZ = List.length l_11))) (take_fn l_11 y b_7 n_9 cap_8 bb (List.length y) cb cur_10 curB hs_12n rfl hs_12r hB hs_12o hy (by omega) (by omega) (by omega)) (⟨(H17.get 0 kr), (H17.old hpre.2 (lt_of_heap hpre.2))⟩) kr kr ?_
        intro b_13 cap_14 n_15 cur_16 l_17 w18 H18 hs_18; clear H17
        obtain ⟨hs_18n, hs_18r, hs_18o, hs_18s⟩ := hs_18
        refine rp [.v] H18 kr fun gs19 w19 H19 => ?_
        show WPs _ _ _ _ [] _ _
        clear H18
        refine s_nil ?_
        show WP _ _ _ _ _ _
        refine g_block 2 kr ?_
        have HL5 : St w.heap.size w w19 [(b_13, Obj.cells cur_16 3 (0, 0)), (b_7, Obj.cells cur_10 3 (0, 0)), (b_1, Obj.cells cur_4 3 (0, 0)), (b, Obj.cells cur 3 (0, 0)), ((gs12 1).b, Obj.cells #[.int .i64 1] 3 (0, 0))] := H19.as kr
        clear H19
        have HD6 : St w.heap.size w w19 [(b_13, Obj.cells cur_16 3 (0, 0))] := HL5.sub (List.Sublist.cons_cons _ (List.Sublist.cons _ (List.Sublist.cons _ (List.Sublist.cons _ (List.Sublist.cons _ List.Sublist.slnil)))))
        refine g_loop kr (fun mz ρ ww => ∃ (b2 : Nat) (cap2 : Nat) (n2 : Nat) (cur2 : Array Value) (l2 : List Nat), n2 = mz ∧ (n2 = List.length l2) ∧ (Rw 1 cur2 cap2 n2 (cellsD l2)) ∧ (Ok l2) ∧ (vl l2 = vl x / 2 ^ (j - 1) % vl y) ∧ (1 ≤ n2) ∧ (n2 ≤ 6000) ∧ St w.heap.size w ww [(b2, Obj.cells cur2 3 (0, 0))] ∧ Is [(0, .slice (some ⟨ba, 0, none⟩) (List.length x) ca), (1, .slice (some ⟨bb, 0, none⟩) (List.length y) cb), (4, .slice none 0 0), (5, .slice (some ⟨b2, 0, none⟩) n2 cap2), (6, .int .i64 ((j - 1 : Nat) : Int)), (13, .bool true), (29, .bool true), (36, .bool true)] ρ) n_15 ⟨b_13, cap_14, n_15, cur_16, l_17, rfl, hs_18n, hs_18r, hs_18o, (by omega), (by omega), (by omega), HD6, (Is.of ⟨kr, kr, kr, kr, kr, kr, kr, kr, trivial⟩)⟩ ?_
        clear HD6
        rintro _ _ w20 ⟨b2, cap2, n2, cur2, l2, rfl, hn2, hr2, ho2, hV, h12, h22, H20, _, rfl⟩
        refine g_seq kr ?_
        refine g_sreg [0, 1, 2, 3, 4, 5, 6, 7, 8, 9, 10, 11] kr kr ?_
        refine rp [.v, .v] H20 kr fun gs21 w21 H21 => ?_
        show WPs _ _ _ _ [2, 3, 4, 5, 6, 7, 8, 9, 10, 11] _ _
        clear H20
        by_cases hc7 : (n2 : Nat) > 1
        · skip
          refine rp [.e (v := .bool (decide (1 < ((n2 : Nat) : Int)))) (v' := .bool true) (bool_eq (decide_eq_true (by omega))), .v, .v, .v, .v, .e (v := .int .i64 (IntKind.i64.wrap (((n2 : Nat) : Int) - 1))) (v' := .int .i64 ((n2 - 1 : Nat) : Int)) (int_eq (wrapSub_i64 (a := n2) (b := 1) (by omega))), .o (ins := [((.tmp 44), .slice (some ⟨b2, 0, none⟩) n2 cap2), ((.tmp 47), .int .i64 ((n2 - 1 : Nat) : Int))]) (v := .pointer (some ⟨b2, 0 + (n2 - 1) * 1, none⟩)) (fun ρ o w ho hi => idxS_run (kd := .i64) (t := 60) (e := 3) (size := 1) (bytes := 8) kr (x := (.tmp 44)) (y := (.tmp 47)) b2 0 n2 cap2 (n2 - 1) ho hi.1 hi.2.1 (by omega) w), .ls (C := cur2) (off := 0 + (n2 - 1) * 1) (v := .int .i64 ((List.getD l2 (n2 - 1) 0 : Nat) : Int)) 0 (hr2.atD (by omega) hn2)] H21 kr fun gs22 w22 H22 => ?_
          show WPs _ _ _ _ [10, 11] _ _
          clear H21
          by_cases hc8 : (List.getD l2 (n2 - 1) 0 : Nat) = 0
          · skip
            refine rp [.e (v := .bool (((List.getD l2 (n2 - 1) 0 : Nat) : Int) == 0)) (v' := .bool true) (bool_eq (beq_iff_eq.2 (by omega))), .v] H22 kr fun gs23 w23 H23 => ?_
            show WPs _ _ _ _ [] _ _
            clear H22
            refine s_nil ?_
            refine g_keep [0, 1, 4, 5, 6, 13, 29, 36, 51] fun ρ2 => ?_
            have HK9 := H23.keep
            clear H23
            refine g_cond_t kr kr ?_
            refine g_skip kr ?_
            show WP _ _ _ _ _ _
            refine g_block 3 kr ?_
            refine rL [.v, .v, .v, .e (v := .int .i64 (IntKind.i64.wrap (((n2 : Nat) : Int) - 1))) (v' := .int .i64 ((n2 - 1 : Nat) : Int)) (int_eq (wrapSub_i64 (a := n2) (b := 1) (by omega))), .o (ins := [((.tmp 52), .slice (some ⟨b2, 0, none⟩) n2 cap2), ((.tmp 55), .int .i64 ((n2 - 1 : Nat) : Int))]) (v := .slice (some ⟨b2, 0, none⟩) (n2 - 1) cap2) (fun ρ o w ho hi => cut_run (kd := .i64) (t := 60) (e := 3) (size := 1) (bytes := 8) kr (x := (.tmp 52)) (y := (.tmp 55)) b2 n2 cap2 (n2 - 1) ho hi.1 hi.2.1 (Nat.le_trans (by omega) hr2.le) w), .v] HK9 kr fun gs24 w24 H24 => ?_
            clear HK9
            have HL10 : St w.heap.size w w24 [(b2, Obj.cells cur2 3 (0, 0))] := H24.as kr
            clear H24
            show ∃ m, _ ∧ _
            exact ⟨_, (by omega), b2, cap2, (n2 - 1), cur2, (List.take (n2 - 1) l2), rfl, (by rw [List.length_take]; omega), (by have h := hr2.cut (n2 - 1) (by omega); rw [Nat.mul_one] at h; unfold cellsD at h ⊢; rw [cellsD_take] at h; exact h), (ok_take ho2 _), (by subst hn2; rw [vl_dropLast (by omega) (by omega)]; exact hV), (by omega), (by omega), HL10, (Is.of ⟨kr, kr, kr, kr, kr, kr, kr, kr, trivial⟩)⟩
          · skip
            refine rp [.e (v := .bool (((List.getD l2 (n2 - 1) 0 : Nat) : Int) == 0)) (v' := .bool false) (bool_eq (beq_eq_false_iff_ne.2 (by omega))), .v] H22 kr fun gs25 w25 H25 => ?_
            show WPs _ _ _ _ [] _ _
            clear H22
            refine s_nil ?_
            refine g_keep [0, 1, 4, 5, 6, 13, 29, 36, 51] fun ρ3 => ?_
            have HK11 := H25.keep
            clear H25
            refine g_cond_f kr kr ?_
            refine g_exit 2 kr ?_
            show WP _ _ _ _ _ _
            have hfin : n2 ≤ List.length y := by
                          rcases Nat.lt_or_ge 1 n2 with h | h
                          · subst hn2; exact vl_len hy h (by omega) (by rw [hV]; exact Nat.mod_lt _ hM)
                          · omega
            refine rL [.v, .e (v := .int .i64 (IntKind.i64.wrap (((j - 1 : Nat) : Int) - 1))) (v' := .int .i64 (((j - 1 : Nat) : Int) - 1)) (int_eq (wrap_i64 (by omega) (by omega))), .v] HK11 kr fun gs26 w26 H26 => ?_
            clear HK11
            have HL12 : St w.heap.size w w26 [(b2, Obj.cells cur2 3 (0, 0))] := H26.as kr
            clear H26
            show ∃ m, _ ∧ _
            exact ⟨_, (by omega), b2, cap2, n2, cur2, l2, (j - 1), rfl, hn2, hr2, ho2, hV, (by omega), hfin, (by omega), HL12, (Is.of ⟨kr, kr, kr, kr, kr, trivial⟩)⟩
        · skip
          refine rp [.e (v := .bool (decide (1 < ((n2 : Nat) : Int)))) (v' := .bool false) (bool_eq (decide_eq_false (by omega))), .v, .n, .n, .n, .n, .n, .n, .n, .v] H21 kr fun gs27 w27 H27 => ?_
          show WPs _ _ _ _ [] _ _
          clear H21
          refine s_nil ?_
          refine g_keep [0, 1, 4, 5, 6, 13, 29, 36, 51] fun ρ4 => ?_
          have HK13 := H27.keep
          clear H27
          refine g_cond_f kr kr ?_
          refine g_exit 2 kr ?_
          show WP _ _ _ _ _ _
          have hfin : n2 ≤ List.length y := by
                      rcases Nat.lt_or_ge 1 n2 with h | h
                      · subst hn2; exact vl_len hy h (by omega) (by rw [hV]; exact Nat.mod_lt _ hM)
                      · omega
          refine rL [.v, .e (v := .int .i64 (IntKind.i64.wrap (((j - 1 : Nat) : Int) - 1))) (v' := .int .i64 (((j - 1 : Nat) : Int) - 1)) (int_eq (wrap_i64 (by omega) (by omega))), .v] HK13 kr fun gs28 w28 H28 => ?_
          clear HK13
          have HL14 : St w.heap.size w w28 [(b2, Obj.cells cur2 3 (0, 0))] := H28.as kr
          clear H28
          show ∃ m, _ ∧ _
          exact ⟨_, (by omega), b2, cap2, n2, cur2, l2, (j - 1), rfl, hn2, hr2, ho2, hV, (by omega), hfin, (by omega), HL14, (Is.of ⟨kr, kr, kr, kr, kr, trivial⟩)⟩
      · skip
        refine s_now 35 (v := .bool (ls l_11 y)) (v' := .bool true) (bool_eq hls) kr ?_
        have hls2 := of_decide_eq_true hls
        refine rp [.v] H15 kr fun gs29 w29 H29 => ?_
        show WPs _ _ _ _ [] _ _
        clear H15
        refine s_nil ?_
        refine g_cond_f kr kr ?_
        refine g_skip kr ?_
        show WP _ _ _ _ _ _
        refine g_block 2 kr ?_
        have HL15 : St w.heap.size w w29 [(b_7, Obj.cells cur_10 3 (0, 0)), (b_1, Obj.cells cur_4 3 (0, 0)), (b, Obj.cells cur 3 (0, 0)), ((gs12 1).b, Obj.cells #[.int .i64 1] 3 (0, 0))] := H29.as kr
        clear H29
        have HD16 : St w.heap.size w w29 [(b_7, Obj.cells cur_10 3 (0, 0))] := HL15.sub (List.Sublist.cons_cons _ (List.Sublist.cons _ (List.Sublist.cons _ (List.Sublist.cons _ List.Sublist.slnil))))
        refine g_loop kr (fun mz ρ ww => ∃ (b2 : Nat) (cap2 : Nat) (n2 : Nat) (cur2 : Array Value) (l2 : List Nat), n2 = mz ∧ (n2 = List.length l2) ∧ (Rw 1 cur2 cap2 n2 (cellsD l2)) ∧ (Ok l2) ∧ (vl l2 = vl x / 2 ^ (j - 1) % vl y) ∧ (1 ≤ n2) ∧ (n2 ≤ 6000) ∧ St w.heap.size w ww [(b2, Obj.cells cur2 3 (0, 0))] ∧ Is [(0, .slice (some ⟨ba, 0, none⟩) (List.length x) ca), (1, .slice (some ⟨bb, 0, none⟩) (List.length y) cb), (4, .slice none 0 0), (5, .slice (some ⟨b2, 0, none⟩) n2 cap2), (6, .int .i64 ((j - 1 : Nat) : Int)), (13, .bool true), (29, .bool true), (36, .bool false)] ρ) n_9 ⟨b_7, cap_8, n_9, cur_10, l_11, rfl, hs_12n, hs_12r, hs_12o, (by omega), (by omega), (by omega), HD16, (Is.of ⟨kr, kr, kr, kr, kr, kr, kr, kr, trivial⟩)⟩ ?_
        clear HD16
        rintro _ _ w30 ⟨b2, cap2, n2, cur2, l2, rfl, hn2, hr2, ho2, hV, h12, h22, H30, _, rfl⟩
        refine g_seq kr ?_
        refine g_sreg [0, 1, 2, 3, 4, 5, 6, 7, 8, 9, 10, 11] kr kr ?_
        refine rp [.v, .v] H30 kr fun gs31 w31 H31 => ?_
        show WPs _ _ _ _ [2, 3, 4, 5, 6, 7, 8, 9, 10, 11] _ _
        clear H30
        by_cases hc17 : (n2 : Nat) > 1
        · skip
          refine rp [.e (v := .bool (decide (1 < ((n2 : Nat) : Int)))) (v' := .bool true) (bool_eq (decide_eq_true (by omega))), .v, .v, .v, .v, .e (v := .int .i64 (IntKind.i64.wrap (((n2 : Nat) : Int) - 1))) (v' := .int .i64 ((n2 - 1 : Nat) : Int)) (int_eq (wrapSub_i64 (a := n2) (b := 1) (by omega))), .o (ins := [((.tmp 44), .slice (some ⟨b2, 0, none⟩) n2 cap2), ((.tmp 47), .int .i64 ((n2 - 1 : Nat) : Int))]) (v := .pointer (some ⟨b2, 0 + (n2 - 1) * 1, none⟩)) (fun ρ o w ho hi => idxS_run (kd := .i64) (t := 60) (e := 3) (size := 1) (bytes := 8) kr (x := (.tmp 44)) (y := (.tmp 47)) b2 0 n2 cap2 (n2 - 1) ho hi.1 hi.2.1 (by omega) w), .ls (C := cur2) (off := 0 + (n2 - 1) * 1) (v := .int .i64 ((List.getD l2 (n2 - 1) 0 : Nat) : Int)) 0 (hr2.atD (by omega) hn2)] H31 kr fun gs32 w32 H32 => ?_
          show WPs _ _ _ _ [10, 11] _ _
          clear H31
          by_cases hc18 : (List.getD l2 (n2 - 1) 0 : Nat) = 0
          · skip
            refine rp [.e (v := .bool (((List.getD l2 (n2 - 1) 0 : Nat) : Int) == 0)) (v' := .bool true) (bool_eq (beq_iff_eq.2 (by omega))), .v] H32 kr fun gs33 w33 H33 => ?_
            show WPs _ _ _ _ [] _ _
            clear H32
            refine s_nil ?_
            refine g_keep [0, 1, 4, 5, 6, 13, 29, 36, 51] fun ρ5 => ?_
            have HK19 := H33.keep
            clear H33
            refine g_cond_t kr kr ?_
            refine g_skip kr ?_
            show WP _ _ _ _ _ _
            refine g_block 3 kr ?_
            refine rL [.v, .v, .v, .e (v := .int .i64 (IntKind.i64.wrap (((n2 : Nat) : Int) - 1))) (v' := .int .i64 ((n2 - 1 : Nat) : Int)) (int_eq (wrapSub_i64 (a := n2) (b := 1) (by omega))), .o (ins := [((.tmp 52), .slice (some ⟨b2, 0, none⟩) n2 cap2), ((.tmp 55), .int .i64 ((n2 - 1 : Nat) : Int))]) (v := .slice (some ⟨b2, 0, none⟩) (n2 - 1) cap2) (fun ρ o w ho hi => cut_run (kd := .i64) (t := 60) (e := 3) (size := 1) (bytes := 8) kr (x := (.tmp 52)) (y := (.tmp 55)) b2 n2 cap2 (n2 - 1) ho hi.1 hi.2.1 (Nat.le_trans (by omega) hr2.le) w), .v] HK19 kr fun gs34 w34 H34 => ?_
            clear HK19
            have HL20 : St w.heap.size w w34 [(b2, Obj.cells cur2 3 (0, 0))] := H34.as kr
            clear H34
            show ∃ m, _ ∧ _
            exact ⟨_, (by omega), b2, cap2, (n2 - 1), cur2, (List.take (n2 - 1) l2), rfl, (by rw [List.length_take]; omega), (by have h := hr2.cut (n2 - 1) (by omega); rw [Nat.mul_one] at h; unfold cellsD at h ⊢; rw [cellsD_take] at h; exact h), (ok_take ho2 _), (by subst hn2; rw [vl_dropLast (by omega) (by omega)]; exact hV), (by omega), (by omega), HL20, (Is.of ⟨kr, kr, kr, kr, kr, kr, kr, kr, trivial⟩)⟩
          · skip
            refine rp [.e (v := .bool (((List.getD l2 (n2 - 1) 0 : Nat) : Int) == 0)) (v' := .bool false) (bool_eq (beq_eq_false_iff_ne.2 (by omega))), .v] H32 kr fun gs35 w35 H35 => ?_
            show WPs _ _ _ _ [] _ _
            clear H32
            refine s_nil ?_
            refine g_keep [0, 1, 4, 5, 6, 13, 29, 36, 51] fun ρ6 => ?_
            have HK21 := H35.keep
            clear H35
            refine g_cond_f kr kr ?_
            refine g_exit 2 kr ?_
            show WP _ _ _ _ _ _
            have hfin : n2 ≤ List.length y := by
                          rcases Nat.lt_or_ge 1 n2 with h | h
                          · subst hn2; exact vl_len hy h (by omega) (by rw [hV]; exact Nat.mod_lt _ hM)
                          · omega
            refine rL [.v, .e (v := .int .i64 (IntKind.i64.wrap (((j - 1 : Nat) : Int) - 1))) (v' := .int .i64 (((j - 1 : Nat) : Int) - 1)) (int_eq (wrap_i64 (by omega) (by omega))), .v] HK21 kr fun gs36 w36 H36 => ?_
            clear HK21
            have HL22 : St w.heap.size w w36 [(b2, Obj.cells cur2 3 (0, 0))] := H36.as kr
            clear H36
            show ∃ m, _ ∧ _
            exact ⟨_, (by omega), b2, cap2, n2, cur2, l2, (j - 1), rfl, hn2, hr2, ho2, hV, (by omega), hfin, (by omega), HL22, (Is.of ⟨kr, kr, kr, kr, kr, trivial⟩)⟩
        · skip
          refine rp [.e (v := .bool (decide (1 < ((n2 : Nat) : Int)))) (v' := .bool false) (bool_eq (decide_eq_false (by omega))), .v, .n, .n, .n, .n, .n, .n, .n, .v] H31 kr fun gs37 w37 H37 => ?_
          show WPs _ _ _ _ [] _ _
          clear H31
          refine s_nil ?_
          refine g_keep [0, 1, 4, 5, 6, 13, 29, 36, 51] fun ρ7 => ?_
          have HK23 := H37.keep
          clear H37
          refine g_cond_f kr kr ?_
          refine g_exit 2 kr ?_
          show WP _ _ _ _ _ _
          have hfin : n2 ≤ List.length y := by
                      rcases Nat.lt_or_ge 1 n2 with h | h
                      · subst hn2; exact vl_len hy h (by omega) (by rw [hV]; exact Nat.mod_lt _ hM)
                      · omega
          refine rL [.v, .e (v := .int .i64 (IntKind.i64.wrap (((j - 1 : Nat) : Int) - 1))) (v' := .int .i64 (((j - 1 : Nat) : Int) - 1)) (int_eq (wrap_i64 (by omega) (by omega))), .v] HK23 kr fun gs38 w38 H38 => ?_
          clear HK23
          have HL24 : St w.heap.size w w38 [(b2, Obj.cells cur2 3 (0, 0))] := H38.as kr
          clear H38
          show ∃ m, _ ∧ _
          exact ⟨_, (by omega), b2, cap2, n2, cur2, l2, (j - 1), rfl, hn2, hr2, ho2, hV, (by omega), hfin, (by omega), HL24, (Is.of ⟨kr, kr, kr, kr, kr, trivial⟩)⟩
    · skip
      refine rp [.e (v := .bool (((((List.getD x ((j - 1) / 16) 0) / 2 ^ ((j - 1) % 16)) % 2 : Nat) : Int) == 1)) (v' := .bool false) (bool_eq (beq_eq_false_iff_ne.2 (by omega)))] H10 kr fun gs39 w39 H39 => ?_
      show WPs _ _ _ _ [] _ _
      clear H10
      refine s_nil ?_
      refine g_keep [0, 1, 4, 5, 6, 13, 29] fun ρ8 => ?_
      have HK25 := H39.keep
      clear H39
      refine g_cond_f kr kr ?_
      refine g_skip kr ?_
      show WP _ _ _ _ _ _
      refine g_seq kr ?_
      refine g_sreg [0, 1, 2, 3] kr kr ?_
      refine rp [.v, .v, .cp (pre := fun w => w.heap[b_1]? = some (.cells cur_4 3 (0, 0)) ∧ w.heap[bb]? = some (.cells curB 3 (0, 0))) (less_fn l_5 y b_1 n_3 cap_2 bb (List.length y) cb cur_4 curB hs_6n rfl hs_6r hB hs_6o hy (by omega) (by omega)) [(0, (b_1, Obj.cells cur_4 3 (0, 0)))] (fun w hb hd => ⟨hd.1, ((hb.block _ (lt_of_heap hpre.2)).trans hpre.2)⟩)] HK25 kr fun gs40 w40 H40 => ?_
      show WPs _ _ _ _ [3] _ _
      clear HK25
      rcases (Bool.eq_false_or_eq_true (ls l_5 y)).symm with hls | hls
      · skip
        refine s_now 35 (v := .bool (ls l_5 y)) (v' := .bool false) (bool_eq hls) kr ?_
        have hls2 := of_decide_eq_false hls
        refine rp [.v] H40 kr fun gs41 w41 H41 => ?_
        show WPs _ _ _ _ [] _ _
        clear H40
        refine s_nil ?_
        refine g_cond_t kr kr ?_
        refine g_reg0 [0, 1, 2, 3] kr ?_
        refine rp [.v, .v] H41 kr fun gs42 w42 H42 => ?_
        show WPs _ _ _ _ [2, 3] _ _
        clear H41
        refine s_callS H42 (some 39) 60 #[.slice (some ⟨b_1, 0, none⟩) n_3 cap_2, .slice (some ⟨bb, 0, none⟩) (List.length y) cb] (fun w => w.heap[b_1]? = some (.cells cur_4 3 (0, 0)) ∧ w.heap[bb]? = some (.cells curB 3 (0, 0))) 3 1 (fun curZ capZ nZ lZ => (nZ = List.length lZ ∧ Rw 1 curZ capZ nZ (cellsD lZ) ∧ Ok lZ ∧ (vl lZ = vl l_5 - vl y ∧ List.length lZ = List.length l_5))) (take_fn l_5 y b_1 n_3 cap_2 bb (List.length y) cb cur_4 curB hs_6n rfl hs_6r hB hs_6o hy (by omega) (by omega) (by omega)) (⟨(H42.get 0 kr), (H42.old hpre.2 (lt_of_heap hpre.2))⟩) kr kr ?_
        intro b_19 cap_20 n_21 cur_22 l_23 w43 H43 hs_24; clear H42
        obtain ⟨hs_24n, hs_24r, hs_24o, hs_24s⟩ := hs_24
        refine rp [.v] H43 kr fun gs44 w44 H44 => ?_
        show WPs _ _ _ _ [] _ _
        clear H43
        refine s_nil ?_
        show WP _ _ _ _ _ _
        refine g_block 2 kr ?_
        have HL26 : St w.heap.size w w44 [(b_19, Obj.cells cur_22 3 (0, 0)), (b_1, Obj.cells cur_4 3 (0, 0)), (b, Obj.cells cur 3 (0, 0))] := H44.as kr
        clear H44
        have HD27 : St w.heap.size w w44 [(b_19, Obj.cells cur_22 3 (0, 0))] := HL26.sub (List.Sublist.cons_cons _ (List.Sublist.cons _ (List.Sublist.cons _ List.Sublist.slnil)))
        refine g_loop kr (fun mz ρ ww => ∃ (b2 : Nat) (cap2 : Nat) (n2 : Nat) (cur2 : Array Value) (l2 : List Nat), n2 = mz ∧ (n2 = List.length l2) ∧ (Rw 1 cur2 cap2 n2 (cellsD l2)) ∧ (Ok l2) ∧ (vl l2 = vl x / 2 ^ (j - 1) % vl y) ∧ (1 ≤ n2) ∧ (n2 ≤ 6000) ∧ St w.heap.size w ww [(b2, Obj.cells cur2 3 (0, 0))] ∧ Is [(0, .slice (some ⟨ba, 0, none⟩) (List.length x) ca), (1, .slice (some ⟨bb, 0, none⟩) (List.length y) cb), (4, .slice none 0 0), (5, .slice (some ⟨b2, 0, none⟩) n2 cap2), (6, .int .i64 ((j - 1 : Nat) : Int)), (13, .bool true), (29, .bool false), (36, .bool true)] ρ) n_21 ⟨b_19, cap_20, n_21, cur_22, l_23, rfl, hs_24n, hs_24r, hs_24o, (by omega), (by omega), (by omega), HD27, (Is.of ⟨kr, kr, kr, kr, kr, kr, kr, kr, trivial⟩)⟩ ?_
        clear HD27
        rintro _ _ w45 ⟨b2, cap2, n2, cur2, l2, rfl, hn2, hr2, ho2, hV, h12, h22, H45, _, rfl⟩
        refine g_seq kr ?_
        refine g_sreg [0, 1, 2, 3, 4, 5, 6, 7, 8, 9, 10, 11] kr kr ?_
        refine rp [.v, .v] H45 kr fun gs46 w46 H46 => ?_
        show WPs _ _ _ _ [2, 3, 4, 5, 6, 7, 8, 9, 10, 11] _ _
        clear H45
        by_cases hc28 : (n2 : Nat) > 1
        · skip
          refine rp [.e (v := .bool (decide (1 < ((n2 : Nat) : Int)))) (v' := .bool true) (bool_eq (decide_eq_true (by omega))), .v, .v, .v, .v, .e (v := .int .i64 (IntKind.i64.wrap (((n2 : Nat) : Int) - 1))) (v' := .int .i64 ((n2 - 1 : Nat) : Int)) (int_eq (wrapSub_i64 (a := n2) (b := 1) (by omega))), .o (ins := [((.tmp 44), .slice (some ⟨b2, 0, none⟩) n2 cap2), ((.tmp 47), .int .i64 ((n2 - 1 : Nat) : Int))]) (v := .pointer (some ⟨b2, 0 + (n2 - 1) * 1, none⟩)) (fun ρ o w ho hi => idxS_run (kd := .i64) (t := 60) (e := 3) (size := 1) (bytes := 8) kr (x := (.tmp 44)) (y := (.tmp 47)) b2 0 n2 cap2 (n2 - 1) ho hi.1 hi.2.1 (by omega) w), .ls (C := cur2) (off := 0 + (n2 - 1) * 1) (v := .int .i64 ((List.getD l2 (n2 - 1) 0 : Nat) : Int)) 0 (hr2.atD (by omega) hn2)] H46 kr fun gs47 w47 H47 => ?_
          show WPs _ _ _ _ [10, 11] _ _
          clear H46
          by_cases hc29 : (List.getD l2 (n2 - 1) 0 : Nat) = 0
          · skip
            refine rp [.e (v := .bool (((List.getD l2 (n2 - 1) 0 : Nat) : Int) == 0)) (v' := .bool true) (bool_eq (beq_iff_eq.2 (by omega))), .v] H47 kr fun gs48 w48 H48 => ?_
            show WPs _ _ _ _ [] _ _
            clear H47
            refine s_nil ?_
            refine g_keep [0, 1, 4, 5, 6, 13, 29, 36, 51] fun ρ9 => ?_
            have HK30 := H48.keep
            clear H48
            refine g_cond_t kr kr ?_
            refine g_skip kr ?_
            show WP _ _ _ _ _ _
            refine g_block 3 kr ?_
            refine rL [.v, .v, .v, .e (v := .int .i64 (IntKind.i64.wrap (((n2 : Nat) : Int) - 1))) (v' := .int .i64 ((n2 - 1 : Nat) : Int)) (int_eq (wrapSub_i64 (a := n2) (b := 1) (by omega))), .o (ins := [((.tmp 52), .slice (some ⟨b2, 0, none⟩) n2 cap2), ((.tmp 55), .int .i64 ((n2 - 1 : Nat) : Int))]) (v := .slice (some ⟨b2, 0, none⟩) (n2 - 1) cap2) (fun ρ o w ho hi => cut_run (kd := .i64) (t := 60) (e := 3) (size := 1) (bytes := 8) kr (x := (.tmp 52)) (y := (.tmp 55)) b2 n2 cap2 (n2 - 1) ho hi.1 hi.2.1 (Nat.le_trans (by omega) hr2.le) w), .v] HK30 kr fun gs49 w49 H49 => ?_
            clear HK30
            have HL31 : St w.heap.size w w49 [(b2, Obj.cells cur2 3 (0, 0))] := H49.as kr
            clear H49
            show ∃ m, _ ∧ _
            exact ⟨_, (by omega), b2, cap2, (n2 - 1), cur2, (List.take (n2 - 1) l2), rfl, (by rw [List.length_take]; omega), (by have h := hr2.cut (n2 - 1) (by omega); rw [Nat.mul_one] at h; unfold cellsD at h ⊢; rw [cellsD_take] at h; exact h), (ok_take ho2 _), (by subst hn2; rw [vl_dropLast (by omega) (by omega)]; exact hV), (by omega), (by omega), HL31, (Is.of ⟨kr, kr, kr, kr, kr, kr, kr, kr, trivial⟩)⟩
          · skip
            refine rp [.e (v := .bool (((List.getD l2 (n2 - 1) 0 : Nat) : Int) == 0)) (v' := .bool false) (bool_eq (beq_eq_false_iff_ne.2 (by omega))), .v] H47 kr fun gs50 w50 H50 => ?_
            show WPs _ _ _ _ [] _ _
            clear H47
            refine s_nil ?_
            refine g_keep [0, 1, 4, 5, 6, 13, 29, 36, 51] fun ρ10 => ?_
            have HK32 := H50.keep
            clear H50
            refine g_cond_f kr kr ?_
            refine g_exit 2 kr ?_
            show WP _ _ _ _ _ _
            have hfin : n2 ≤ List.length y := by
                          rcases Nat.lt_or_ge 1 n2 with h | h
                          · subst hn2; exact vl_len hy h (by omega) (by rw [hV]; exact Nat.mod_lt _ hM)
                          · omega
            refine rL [.v, .e (v := .int .i64 (IntKind.i64.wrap (((j - 1 : Nat) : Int) - 1))) (v' := .int .i64 (((j - 1 : Nat) : Int) - 1)) (int_eq (wrap_i64 (by omega) (by omega))), .v] HK32 kr fun gs51 w51 H51 => ?_
            clear HK32
            have HL33 : St w.heap.size w w51 [(b2, Obj.cells cur2 3 (0, 0))] := H51.as kr
            clear H51
            show ∃ m, _ ∧ _
            exact ⟨_, (by omega), b2, cap2, n2, cur2, l2, (j - 1), rfl, hn2, hr2, ho2, hV, (by omega), hfin, (by omega), HL33, (Is.of ⟨kr, kr, kr, kr, kr, trivial⟩)⟩
        · skip
          refine rp [.e (v := .bool (decide (1 < ((n2 : Nat) : Int)))) (v' := .bool false) (bool_eq (decide_eq_false (by omega))), .v, .n, .n, .n, .n, .n, .n, .n, .v] H46 kr fun gs52 w52 H52 => ?_
          show WPs _ _ _ _ [] _ _
          clear H46
          refine s_nil ?_
          refine g_keep [0, 1, 4, 5, 6, 13, 29, 36, 51] fun ρ11 => ?_
          have HK34 := H52.keep
          clear H52
          refine g_cond_f kr kr ?_
          refine g_exit 2 kr ?_
          show WP _ _ _ _ _ _
          have hfin : n2 ≤ List.length y := by
                      rcases Nat.lt_or_ge 1 n2 with h | h
                      · subst hn2; exact vl_len hy h (by omega) (by rw [hV]; exact Nat.mod_lt _ hM)
                      · omega
          refine rL [.v, .e (v := .int .i64 (IntKind.i64.wrap (((j - 1 : Nat) : Int) - 1))) (v' := .int .i64 (((j - 1 : Nat) : Int) - 1)) (int_eq (wrap_i64 (by omega) (by omega))), .v] HK34 kr fun gs53 w53 H53 => ?_
          clear HK34
          have HL35 : St w.heap.size w w53 [(b2, Obj.cells cur2 3 (0, 0))] := H53.as kr
          clear H53
          show ∃ m, _ ∧ _
          exact ⟨_, (by omega), b2, cap2, n2, cur2, l2, (j - 1), rfl, hn2, hr2, ho2, hV, (by omega), hfin, (by omega), HL35, (Is.of ⟨kr, kr, kr, kr, kr, trivial⟩)⟩
      · skip
        refine s_now 35 (v := .bool (ls l_5 y)) (v' := .bool true) (bool_eq hls) kr ?_
        have hls2 := of_decide_eq_true hls
        refine rp [.v] H40 kr fun gs54 w54 H54 => ?_
        show WPs _ _ _ _ [] _ _
        clear H40
        refine s_nil ?_
        refine g_cond_f kr kr ?_
        refine g_skip kr ?_
        show WP _ _ _ _ _ _
        refine g_block 2 kr ?_
        have HL36 : St w.heap.size w w54 [(b_1, Obj.cells cur_4 3 (0, 0)), (b, Obj.cells cur 3 (0, 0))] := H54.as kr
        clear H54
        have HD37 : St w.heap.size w w54 [(b_1, Obj.cells cur_4 3 (0, 0))] := HL36.sub (List.Sublist.cons_cons _ (List.Sublist.cons _ List.Sublist.slnil))
        refine g_loop kr (fun mz ρ ww => ∃ (b2 : Nat) (cap2 : Nat) (n2 : Nat) (cur2 : Array Value) (l2 : List Nat), n2 = mz ∧ (n2 = List.length l2) ∧ (Rw 1 cur2 cap2 n2 (cellsD l2)) ∧ (Ok l2) ∧ (vl l2 = vl x / 2 ^ (j - 1) % vl y) ∧ (1 ≤ n2) ∧ (n2 ≤ 6000) ∧ St w.heap.size w ww [(b2, Obj.cells cur2 3 (0, 0))] ∧ Is [(0, .slice (some ⟨ba, 0, none⟩) (List.length x) ca), (1, .slice (some ⟨bb, 0, none⟩) (List.length y) cb), (4, .slice none 0 0), (5, .slice (some ⟨b2, 0, none⟩) n2 cap2), (6, .int .i64 ((j - 1 : Nat) : Int)), (13, .bool true), (29, .bool false), (36, .bool false)] ρ) n_3 ⟨b_1, cap_2, n_3, cur_4, l_5, rfl, hs_6n, hs_6r, hs_6o, (by omega), (by omega), (by omega), HD37, (Is.of ⟨kr, kr, kr, kr, kr, kr, kr, kr, trivial⟩)⟩ ?_
        clear HD37
        rintro _ _ w55 ⟨b2, cap2, n2, cur2, l2, rfl, hn2, hr2, ho2, hV, h12, h22, H55, _, rfl⟩
        refine g_seq kr ?_
        refine g_sreg [0, 1, 2, 3, 4, 5, 6, 7, 8, 9, 10, 11] kr kr ?_
        refine rp [.v, .v] H55 kr fun gs56 w56 H56 => ?_
        show WPs _ _ _ _ [2, 3, 4, 5, 6, 7, 8, 9, 10, 11] _ _
        clear H55
        by_cases hc38 : (n2 : Nat) > 1
        · skip
          refine rp [.e (v := .bool (decide (1 < ((n2 : Nat) : Int)))) (v' := .bool true) (bool_eq (decide_eq_true (by omega))), .v, .v, .v, .v, .e (v := .int .i64 (IntKind.i64.wrap (((n2 : Nat) : Int) - 1))) (v' := .int .i64 ((n2 - 1 : Nat) : Int)) (int_eq (wrapSub_i64 (a := n2) (b := 1) (by omega))), .o (ins := [((.tmp 44), .slice (some ⟨b2, 0, none⟩) n2 cap2), ((.tmp 47), .int .i64 ((n2 - 1 : Nat) : Int))]) (v := .pointer (some ⟨b2, 0 + (n2 - 1) * 1, none⟩)) (fun ρ o w ho hi => idxS_run (kd := .i64) (t := 60) (e := 3) (size := 1) (bytes := 8) kr (x := (.tmp 44)) (y := (.tmp 47)) b2 0 n2 cap2 (n2 - 1) ho hi.1 hi.2.1 (by omega) w), .ls (C := cur2) (off := 0 + (n2 - 1) * 1) (v := .int .i64 ((List.getD l2 (n2 - 1) 0 : Nat) : Int)) 0 (hr2.atD (by omega) hn2)] H56 kr fun gs57 w57 H57 => ?_
          show WPs _ _ _ _ [10, 11] _ _
          clear H56
          by_cases hc39 : (List.getD l2 (n2 - 1) 0 : Nat) = 0
          · skip
            refine rp [.e (v := .bool (((List.getD l2 (n2 - 1) 0 : Nat) : Int) == 0)) (v' := .bool true) (bool_eq (beq_iff_eq.2 (by omega))), .v] H57 kr fun gs58 w58 H58 => ?_
            show WPs _ _ _ _ [] _ _
            clear H57
            refine s_nil ?_
            refine g_cond_t kr kr ?_
            refine g_skip kr ?_
            show WP _ _ _ _ _ _
            refine g_block 3 kr ?_
            refine rL [.v, .v, .v, .e (v := .int .i64 (IntKind.i64.wrap (((n2 : Nat) : Int) - 1))) (v' := .int .i64 ((n2 - 1 : Nat) : Int)) (int_eq (wrapSub_i64 (a := n2) (b := 1) (by omega))), .o (ins := [((.tmp 52), .slice (some ⟨b2, 0, none⟩) n2 cap2), ((.tmp 55), .int .i64 ((n2 - 1 : Nat) : Int))]) (v := .slice (some ⟨b2, 0, none⟩) (n2 - 1) cap2) (fun ρ o w ho hi => cut_run (kd := .i64) (t := 60) (e := 3) (size := 1) (bytes := 8) kr (x := (.tmp 52)) (y := (.tmp 55)) b2 n2 cap2 (n2 - 1) ho hi.1 hi.2.1 (Nat.le_trans (by omega) hr2.le) w), .v] H58 kr fun gs59 w59 H59 => ?_
            clear H58
            have HL40 : St w.heap.size w w59 [(b2, Obj.cells cur2 3 (0, 0))] := H59.as kr
            clear H59
            show ∃ m, _ ∧ _
            exact ⟨_, (by omega), b2, cap2, (n2 - 1), cur2, (List.take (n2 - 1) l2), rfl, (by rw [List.length_take]; omega), (by have h := hr2.cut (n2 - 1) (by omega); rw [Nat.mul_one] at h; unfold cellsD at h ⊢; rw [cellsD_take] at h; exact h), (ok_take ho2 _), (by subst hn2; rw [vl_dropLast (by omega) (by omega)]; exact hV), (by omega), (by omega), HL40, (Is.of ⟨kr, kr, kr, kr, kr, kr, kr, kr, trivial⟩)⟩
          · skip
            refine rp [.e (v := .bool (((List.getD l2 (n2 - 1) 0 : Nat) : Int) == 0)) (v' := .bool false) (bool_eq (beq_eq_false_iff_ne.2 (by omega))), .v] H57 kr fun gs60 w60 H60 => ?_
            show WPs _ _ _ _ [] _ _
            clear H57
            refine s_nil ?_
            refine g_cond_f kr kr ?_
            refine g_exit 2 kr ?_
            show WP _ _ _ _ _ _
            have hfin : n2 ≤ List.length y := by
                          rcases Nat.lt_or_ge 1 n2 with h | h
                          · subst hn2; exact vl_len hy h (by omega) (by rw [hV]; exact Nat.mod_lt _ hM)
                          · omega
            refine rL [.v, .e (v := .int .i64 (IntKind.i64.wrap (((j - 1 : Nat) : Int) - 1))) (v' := .int .i64 (((j - 1 : Nat) : Int) - 1)) (int_eq (wrap_i64 (by omega) (by omega))), .v] H60 kr fun gs61 w61 H61 => ?_
            clear H60
            have HL41 : St w.heap.size w w61 [(b2, Obj.cells cur2 3 (0, 0))] := H61.as kr
            clear H61
            show ∃ m, _ ∧ _
            exact ⟨_, (by omega), b2, cap2, n2, cur2, l2, (j - 1), rfl, hn2, hr2, ho2, hV, (by omega), hfin, (by omega), HL41, (Is.of ⟨kr, kr, kr, kr, kr, trivial⟩)⟩
        · skip
          refine rp [.e (v := .bool (decide (1 < ((n2 : Nat) : Int)))) (v' := .bool false) (bool_eq (decide_eq_false (by omega))), .v, .n, .n, .n, .n, .n, .n, .n, .v] H56 kr fun gs62 w62 H62 => ?_
          show WPs _ _ _ _ [] _ _
          clear H56
          refine s_nil ?_
          refine g_cond_f kr kr ?_
          refine g_exit 2 kr ?_
          show WP _ _ _ _ _ _
          have hfin : n2 ≤ List.length y := by
                      rcases Nat.lt_or_ge 1 n2 with h | h
                      · subst hn2; exact vl_len hy h (by omega) (by rw [hV]; exact Nat.mod_lt _ hM)
                      · omega
          refine rL [.v, .e (v := .int .i64 (IntKind.i64.wrap (((j - 1 : Nat) : Int) - 1))) (v' := .int .i64 (((j - 1 : Nat) : Int) - 1)) (int_eq (wrap_i64 (by omega) (by omega))), .v] H62 kr fun gs63 w63 H63 => ?_
          clear H62
          have HL42 : St w.heap.size w w63 [(b2, Obj.cells cur2 3 (0, 0))] := H63.as kr
          clear H63
          show ∃ m, _ ∧ _
          exact ⟨_, (by omega), b2, cap2, n2, cur2, l2, (j - 1), rfl, hn2, hr2, ho2, hV, (by omega), hfin, (by omega), HL42, (Is.of ⟨kr, kr, kr, kr, kr, trivial⟩)⟩
  · skip
    refine rp [.e (v := .bool (decide (0 ≤ ((j : Nat) : Int) - 1))) (v' := .bool false) (bool_eq (decide_eq_false (by omega)))] H5 kr fun gs64 w64 H64 => ?_
    show WPs _ _ _ _ [] _ _
    clear H5
    refine s_nil ?_
    refine g_cond_f kr kr ?_
    refine g_exit 0 kr ?_
    show WP _ _ _ _ _ _
    refine rS [.v, .v] H64 kr fun gs65 w65 H65 => ?_
    clear H64
    refine g_ret kr ?_
    show ∃ vs, Res _ _ _ _ vs ∧ _
    refine ⟨[.slice (some ⟨b, 0, none⟩) n cap], (.tmp (.slice (some ⟨b, 0, none⟩) n cap) kr .nil), H65.below, ?_⟩
    exact ⟨b, cap, _, _, l, rfl, H65.ge 0 (o := .cells cur 3 (0, 0)) kr, H65.get 0 kr, hn, hr, ho, by rw [hv, show j = 0 by omega, Nat.pow_zero, Nat.div_one], by omega, by omega⟩
end Go.Proofs.YtmmloghbnpfedaaDoor

namespace Go.Proofs.YtmmloghbnpfedaaDoor
open Go Go.RowKit
set_option linter.unusedVariables false
set_option maxRecDepth 100000 in
set_option maxHeartbeats 2000000 in
theorem modulus0_fn  : Fn Tryd.prog 36 #[.int .i64 0] (uv PR) := by
  refine Fn.intro (c := codeOf Tryd.f36) [.cell 2 24] 7 Tryd.func36 kr kr kr fun w => ?_
  have H0 := St.start w
  refine rS [.a] H0 kr fun gs1 w1 H1 => ?_
  clear H0
  refine g_seq kr ?_
  refine rS [.v, .v] H1 kr fun gs2 w2 H2 => ?_
  clear H1
  refine g_cond_t kr kr ?_
  refine rS [.v, .s 0] H2 kr fun gs3 w3 H3 => ?_
  clear H2
  refine g_ret kr ?_
  show ∃ vs, Res _ _ _ _ vs ∧ _
  refine ⟨[.agg #[.int .u64 18446744069414583343, .int .u64 18446744073709551615, .int .u64 18446744073709551615, .int .u64 18446744073709551615]], (.agg (b := (gs1 0).b) #[.int .u64 18446744069414583343, .int .u64 18446744073709551615, .int .u64 18446744073709551615, .int .u64 18446744073709551615] 24 (0, 0) kr (H3.get 0 kr) kr .nil), ?_, H3.below⟩
  kernel_rfl
set_option maxRecDepth 100000 in
set_option maxHeartbeats 2000000 in
theorem modulus1_fn  : Fn Tryd.prog 36 #[.int .i64 1] (uv NR) := by
  refine Fn.intro (c := codeOf Tryd.f36) [.cell 2 24] 7 Tryd.func36 kr kr kr fun w => ?_
  have H0 := St.start w
  refine rS [.a] H0 kr fun gs1 w1 H1 => ?_
  clear H0
  refine g_seq kr ?_
  refine rS [.v, .v] H1 kr fun gs2 w2 H2 => ?_
  clear H1
  refine g_cond_f kr kr ?_
  refine g_skip kr ?_
  show WP _ _ _ _ _ _
  refine rS [.v, .s 0] H2 kr fun gs3 w3 H3 => ?_
  clear H2
  refine g_ret kr ?_
  show ∃ vs, Res _ _ _ _ vs ∧ _
  refine ⟨[.agg #[.int .u64 13822214165235122497, .int .u64 13451932020343611451, .int .u64 18446744073709551614, .int .u64 18446744073709551615]], (.agg (b := (gs1 0).b) #[.int .u64 13822214165235122497, .int .u64 13451932020343611451, .int .u64 18446744073709551614, .int .u64 18446744073709551615] 24 (0, 0) kr (H3.get 0 kr) kr .nil), ?_, H3.below⟩
  kernel_rfl
set_option maxRecDepth 100000 in
set_option maxHeartbeats 2000000 in
theorem left020_fn (x : List Nat) (ba nx ca : Nat) (curA : Array Value) (hnx : nx = List.length x) (hA : Rw 1 curA ca nx (cellsD x)) (lx : List.length x ≤ 2000) (hx : Ok x) : FnP Tryd.prog 57 #[.slice (some ⟨ba, 0, none⟩) nx ca, .int .i64 0] (fun w => w.heap[ba]? = some (.cells curA 3 (0, 0))) (uv (vl x % PR)) := by
  subst hnx
  have hp : PR < big ∧ big < 2 * PR := pr_ok
  have hq : NR < big ∧ big < 2 * NR := nr_ok
  have hbig : 2 < big := by unfold big; omega
  refine FnP.intro (c := codeOf Tryd.f57) [.cell 4 24] 11 Tryd.func57 kr kr kr fun w hpre => ?_
  have H0 := St.start w
  refine rS [.a] H0 kr fun gs1 w1 H1 => ?_
  clear H0
  refine g_sreg [0, 1, 2, 3, 4, 5, 6] kr kr ?_
  refine rp [.v, .v, .c modulus0_fn] H1 kr fun gs2 w2 H2 => ?_
  show WPs _ _ _ _ [3, 4, 5, 6] _ _
  clear H1
  refine s_callS H2 (some 8) 35 #[uv PR] (fun _ => True) 3 1 (fun curZ capZ nZ lZ => (nZ = List.length lZ ∧ Rw 1 curZ capZ nZ (cellsD lZ) ∧ Ok lZ ∧ (lZ = dgs PR 16 ∧ vl lZ = PR ∧ List.length lZ = 16))) (of_fn PR pr_ok.1) trivial kr kr ?_
  intro b_1 cap_2 n_3 cur_4 l_5 w3 H3 hs_6; clear H2
  obtain ⟨hs_6n, hs_6r, hs_6o, hs_6s⟩ := hs_6
  obtain ⟨hs_6a, hs_6b, hs_6c⟩ := hs_6s
  refine s_callS H3 (some 9) 88 #[.slice (some ⟨ba, 0, none⟩) (List.length x) ca, .slice (some ⟨b_1, 0, none⟩) n_3 cap_2] (fun w => w.heap[ba]? = some (.cells curA 3 (0, 0)) ∧ w.heap[b_1]? = some (.cells cur_4 3 (0, 0))) 3 1 (fun curZ capZ nZ lZ => (nZ = List.length lZ ∧ Rw 1 curZ capZ nZ (cellsD lZ) ∧ Ok lZ ∧ (vl lZ = vl x % vl l_5 ∧ 1 ≤ List.length lZ ∧ List.length lZ ≤ List.length l_5))) (left_fn x l_5 ba (List.length x) ca b_1 n_3 cap_2 curA cur_4 rfl hs_6n hA hs_6r hx hs_6o (by omega) (by omega) (by omega) (by omega)) (⟨(H3.old hpre (lt_of_heap hpre)), (H3.get 0 kr)⟩) kr kr ?_
  intro b_7 cap_8 n_9 cur_10 l_11 w4 H4 hs_12; clear H3
  obtain ⟨hs_12n, hs_12r, hs_12o, hs_12s⟩ := hs_12
  refine s_callP H4 (some 10) 77 #[.slice (some ⟨b_7, 0, none⟩) n_9 cap_8] (fun w => w.heap[b_7]? = some (.cells cur_10 3 (0, 0))) (uv (vl x % PR)) (by have hnum := to_fn l_11 b_7 n_9 cap_8 cur_10 hs_12n hs_12r (by omega) hs_12o; have heq : (vl l_11 % big) = (vl x % PR) := (by have hlt := Nat.mod_lt (vl x) (show 0 < PR by omega); rw [show vl l_11 = vl x % PR by rw [← hs_6b]; exact hs_12s.1]; exact Nat.mod_eq_of_lt (by omega)); rw [heq] at hnum; exact hnum) (H4.get 0 kr) (fun w => by kernel_rfl) kr ?_
  intro w5 H5; clear H4
  refine rp [.s 2] H5 kr fun gs6 w6 H6 => ?_
  show WPs _ _ _ _ [] _ _
  clear H5
  refine s_nil ?_
  refine g_ret kr ?_
  show ∃ vs, Res _ _ _ _ vs ∧ _
  refine ⟨[uv (vl x % PR)], (.agg (b := (gs1 0).b) (Value.cells (uv (vl x % PR))) 24 (0, 0) kr (H6.get 2 kr) kr .nil), ?_, H6.below⟩
  rfl
set_option maxRecDepth 100000 in
set_option maxHeartbeats 2000000 in
theorem radd0_fn (A B : Nat) (hA : A < big) (hB : B < big) : Fn Tryd.prog 68 #[uv A, uv B, .int .i64 0] (uv (fAdd A B PR)) := by
  have hp : PR < big ∧ big < 2 * PR := pr_ok
  have hq : NR < big ∧ big < 2 * NR := nr_ok
  have hbig : 2 < big := by unfold big; omega
  refine Fn.intro (c := codeOf Tryd.f68) [.cell 6 24] 14 Tryd.func68 kr kr kr fun w => ?_
  have H0 := St.start w
  refine rS [.b, .b, .a] H0 kr fun gs1 w1 H1 => ?_
  clear H0
  have HL1 : St w.heap.size w w1 [((gs1 0).b, Obj.cells (Value.cells (uv A)) 24 (0, 0)), ((gs1 1).b, Obj.cells (Value.cells (uv B)) 24 (0, 0)), ((gs1 2).b, Obj.cells #[.int .u64 0, .int .u64 0, .int .u64 0, .int .u64 0] 24 (0, 0))] := H1.as kr
  clear H1
  refine D2.g_sdraw [0, 1, 2, 3, 4, 5, 6, 7] [((some 7), fun _ => uv A), ((some 8), fun x => .slice (some ⟨x.b, 0, none⟩) x.n x.cap), ((some 9), fun _ => uv B), ((some 10), fun x => .slice (some ⟨x.b, 0, none⟩) x.n x.cap), ((some 11), fun x => .slice (some ⟨x.b, 0, none⟩) x.n x.cap), ((some 12), fun _ => .int .i64 0), ((some 13), fun _ => uv (fAdd A B PR)), (none, fun _ => undef)] (D2.Pre w.heap.size w (fun L g => [(true, ((gs1 0).b, Obj.cells (Value.cells (uv A)) 24 (0, 0))), (true, ((gs1 1).b, Obj.cells (Value.cells (uv B)) 24 (0, 0))), (true, (bif L 7 then ((gs1 2).b, Obj.cells (Value.cells (uv (fAdd A B PR))) 24 (0, 0)) else ((gs1 2).b, Obj.cells #[.int .u64 0, .int .u64 0, .int .u64 0, .int .u64 0] 24 (0, 0)))), (L 1, ((g 1).b, Obj.cells ((g 1).cur) 3 (0, 0))), (L 3, ((g 3).b, Obj.cells ((g 3).cur) 3 (0, 0))), (L 4, ((g 4).b, Obj.cells ((g 4).cur) 3 (0, 0)))]) (fun L g => (L 1 = true → ((g 1).n = List.length ((g 1).l) ∧ Rw 1 (g 1).cur (g 1).cap (g 1).n (cellsD ((g 1).l)) ∧ Ok ((g 1).l) ∧ ((g 1).l = dgs A 16 ∧ vl ((g 1).l) = A ∧ List.length ((g 1).l) = 16))) ∧ (L 3 = true → ((g 3).n = List.length ((g 3).l) ∧ Rw 1 (g 3).cur (g 3).cap (g 3).n (cellsD ((g 3).l)) ∧ Ok ((g 3).l) ∧ ((g 3).l = dgs B 16 ∧ vl ((g 3).l) = B ∧ List.length ((g 3).l) = 16))) ∧ (L 4 = true → ((g 4).n = List.length ((g 4).l) ∧ Rw 1 (g 4).cur (g 4).cap (g 4).n (cellsD ((g 4).l)) ∧ Ok ((g 4).l) ∧ (vl ((g 4).l) = vl ((g 1).l) + vl ((g 3).l) ∧ List.length ((g 4).l) ≤ max (List.length ((g 1).l)) (List.length ((g 3).l)) + 1 ∧ max (List.length ((g 1).l)) (List.length ((g 3).l)) ≤ List.length ((g 4).l)))) ∧ True)) kr kr kr kr ⟨D2.StE.of HL1.drew _ kr, ⟨(fun h => nomatch h), (fun h => nomatch h), (fun h => nomatch h), trivial⟩⟩ ⟨?_, ?_, ?_, ?_, ?_, ?_, ?_, ?_, trivial⟩ ?_
  · exact D2.gv_load 24 (.tmp 3) 0 (fun g => (gs1 0).b) (Value.cells (uv A)) 24 (0, 0) (fun _ _ _ h => h) (fun g => by kernel_rfl) (fun g => by kernel_rfl) (fun L g hN => kr) kr
  · exact D2.gv_callS 35 (fun g => #[uv A]) (fun g => fun _ => True) 3 1 (fun g curZ capZ nZ lZ => (nZ = List.length lZ ∧ Rw 1 curZ capZ nZ (cellsD lZ) ∧ Ok lZ ∧ (lZ = dgs A 16 ∧ vl lZ = A ∧ List.length lZ = 16))) 3 (fun L g hN hF => by exact of_fn A hA) (fun L g w hN hE hF => by exact trivial) (fun g w => by kernel_rfl) (fun L g x hN => kr) (fun L g x hN hF hS => ⟨fun _ => hS, hF.2.1, (fun hx => nomatch (Eq.trans (Eq.symm (show L 4 = true from hx)) (hN.post 4 kr))), trivial⟩)
  · exact D2.gv_load 24 (.tmp 4) 1 (fun g => (gs1 1).b) (Value.cells (uv B)) 24 (0, 0) (fun _ _ _ h => h) (fun g => by kernel_rfl) (fun g => by kernel_rfl) (fun L g hN => kr) kr
  · exact D2.gv_callS 35 (fun g => #[uv B]) (fun g => fun _ => True) 3 1 (fun g curZ capZ nZ lZ => (nZ = List.length lZ ∧ Rw 1 curZ capZ nZ (cellsD lZ) ∧ Ok lZ ∧ (lZ = dgs B 16 ∧ vl lZ = B ∧ List.length lZ = 16))) 4 (fun L g hN hF => by exact of_fn B hB) (fun L g w hN hE hF => by exact trivial) (fun g w => by kernel_rfl) (fun L g x hN => kr) (fun L g x hN hF hS => ⟨hF.1, fun _ => hS, (fun hx => nomatch (Eq.trans (Eq.symm (show L 4 = true from hx)) (hN.post 4 kr))), trivial⟩)
  · exact D2.gv_callS 59 (fun g => #[.slice (some ⟨(g 1).b, 0, none⟩) ((g 1).n) ((g 1).cap), .slice (some ⟨(g 3).b, 0, none⟩) ((g 3).n) ((g 3).cap)]) (fun g => fun w => w.heap[(g 1).b]? = some (.cells (g 1).cur 3 (0, 0)) ∧ w.heap[(g 3).b]? = some (.cells (g 3).cur 3 (0, 0))) 3 1 (fun g curZ capZ nZ lZ => (nZ = List.length lZ ∧ Rw 1 curZ capZ nZ (cellsD lZ) ∧ Ok lZ ∧ (vl lZ = vl ((g 1).l) + vl ((g 3).l) ∧ List.length lZ ≤ max (List.length ((g 1).l)) (List.length ((g 3).l)) + 1 ∧ max (List.length ((g 1).l)) (List.length ((g 3).l)) ≤ List.length lZ))) 5 (fun L g hN hF => by have hf1 := (hF.1 (hN.bef 1 kr)); have hf3 := (hF.2.1 (hN.bef 3 kr)); exact sum_fn ((g 1).l) ((g 3).l) ((g 1).b) ((g 1).n) ((g 1).cap) ((g 3).b) ((g 3).n) ((g 3).cap) ((g 1).cur) ((g 3).cur) hf1.1 hf3.1 hf1.2.1 hf3.2.1 hf1.2.2.1 hf3.2.2.1 (by have := hf1.2.2.2; omega) (by have := hf3.2.2.2; omega)) (fun L g w hN hE hF => by have hf1 := (hF.1 (hN.bef 1 kr)); have hf3 := (hF.2.1 (hN.bef 3 kr)); exact ⟨(hE.get 3 (by have hL1 : L 1 = true := (hN.bef 1 kr); exact D2.ent_get' (p := L 1) (e := ((g 1).b, Obj.cells ((g 1).cur) 3 (0, 0))) kr (by exact hL1) (by simp only [hL1, cond_true, cond_false] <;> rfl))), (hE.get 4 (by have hL3 : L 3 = true := (hN.bef 3 kr); exact D2.ent_get' (p := L 3) (e := ((g 3).b, Obj.cells ((g 3).cur) 3 (0, 0))) kr (by exact hL3) (by simp only [hL3, cond_true, cond_false] <;> rfl)))⟩) (fun g w => by kernel_rfl) (fun L g x hN => kr) (fun L g x hN hF hS => ⟨hF.1, hF.2.1, fun _ => hS, trivial⟩)
  · exact D2.gv_val (fun _ _ _ h => h) (fun g w => by kernel_rfl)
  · exact D2.gv_callP 57 (fun g => #[.slice (some ⟨(g 4).b, 0, none⟩) ((g 4).n) ((g 4).cap), .int .i64 0]) (fun g => fun w => w.heap[(g 4).b]? = some (.cells (g 4).cur 3 (0, 0))) (fun _ _ _ h => h) (fun L g hN hF => by have hf4 := (hF.2.2.1 (hN.bef 4 kr)); have hf1 := (hF.1 (hN.2.2.yes 1 4 kr (hN.bef 4 kr))); have hf3 := (hF.2.1 (hN.2.2.yes 3 4 kr (hN.bef 4 kr))); exact (by have hnum := left020_fn ((g 4).l) ((g 4).b) ((g 4).n) ((g 4).cap) ((g 4).cur) hf4.1 hf4.2.1 (by have := hf4.2.2.2; omega) hf4.2.2.1; have heq : (vl ((g 4).l) % PR) = (fAdd A B PR) := (by have e1 := hf1.2.2.2; have e3 := hf3.2.2.2; have e4 := hf4.2.2.2; unfold fAdd; rw [show vl ((g 4).l) = A + B by omega]); rw [heq] at hnum; exact hnum)) (fun L g w hN hE hF => by have hf4 := (hF.2.2.1 (hN.bef 4 kr)); have hf1 := (hF.1 (hN.2.2.yes 1 4 kr (hN.bef 4 kr))); have hf3 := (hF.2.1 (hN.2.2.yes 3 4 kr (hN.bef 4 kr))); exact (hE.get 5 (by have hL4 : L 4 = true := (hN.bef 4 kr); exact D2.ent_get' (p := L 4) (e := ((g 4).b, Obj.cells ((g 4).cur) 3 (0, 0))) kr (by exact hL4) (by simp only [hL4, cond_true, cond_false] <;> rfl)))) (fun g w => by kernel_rfl)
  · exact D2.gv_store 2 24 (.tmp 6) (.tmp 13) (fun g => (gs1 2).b) (fun g => 0) #[.int .u64 0, .int .u64 0, .int .u64 0, .int .u64 0] (Value.cells (uv (fAdd A B PR))) 24 (uv (fAdd A B PR)) (fun g => by kernel_rfl) (fun g => by kernel_rfl) (fun g => by kernel_rfl) kr kr (fun g => (of_decide_eq_true kr)) (fun g => kr) (fun L g hN => ⟨(by have hL7 : L 7 = false := hN.1; exact D2.ent_get' (p := true) (e := (bif L 7 then ((gs1 2).b, Obj.cells (Value.cells (uv (fAdd A B PR))) 24 (0, 0)) else ((gs1 2).b, Obj.cells #[.int .u64 0, .int .u64 0, .int .u64 0, .int .u64 0] 24 (0, 0)))) kr (by rfl) (by simp only [hL7, cond_true, cond_false] <;> rfl)), kr⟩) (fun L g hN hF => hF)
  intro L0 G2 w2 hall HL; clear HL1
  have H2 : St w.heap.size w w2 [((gs1 0).b, Obj.cells (Value.cells (uv A)) 24 (0, 0)), ((gs1 1).b, Obj.cells (Value.cells (uv B)) 24 (0, 0)), ((gs1 2).b, Obj.cells (Value.cells (uv (fAdd A B PR))) 24 (0, 0)), ((G2 1).b, Obj.cells ((G2 1).cur) 3 (0, 0)), ((G2 3).b, Obj.cells ((G2 3).cur) 3 (0, 0)), ((G2 4).b, Obj.cells ((G2 4).cur) 3 (0, 0))] := by have e1 := hall 1 (Nat.le_of_ble_eq_true kr); have e3 := hall 3 (Nat.le_of_ble_eq_true kr); have e4 := hall 4 (Nat.le_of_ble_eq_true kr); have e7 := hall 7 (Nat.le_of_ble_eq_true kr); have hS := D2.StE.st HL.1; simp only [e1, e3, e4, e7, cond_true, D2.pres] at hS; exact hS
  have hf1_2 : ((G2 1).n = List.length ((G2 1).l) ∧ Rw 1 (G2 1).cur (G2 1).cap (G2 1).n (cellsD ((G2 1).l)) ∧ Ok ((G2 1).l) ∧ ((G2 1).l = dgs A 16 ∧ vl ((G2 1).l) = A ∧ List.length ((G2 1).l) = 16)) := HL.2.1 (hall 1 (Nat.le_of_ble_eq_true kr))
  have hf3_2 : ((G2 3).n = List.length ((G2 3).l) ∧ Rw 1 (G2 3).cur (G2 3).cap (G2 3).n (cellsD ((G2 3).l)) ∧ Ok ((G2 3).l) ∧ ((G2 3).l = dgs B 16 ∧ vl ((G2 3).l) = B ∧ List.length ((G2 3).l) = 16)) := HL.2.2.1 (hall 3 (Nat.le_of_ble_eq_true kr))
  have hf4_2 : ((G2 4).n = List.length ((G2 4).l) ∧ Rw 1 (G2 4).cur (G2 4).cap (G2 4).n (cellsD ((G2 4).l)) ∧ Ok ((G2 4).l) ∧ (vl ((G2 4).l) = vl ((G2 1).l) + vl ((G2 3).l) ∧ List.length ((G2 4).l) ≤ max (List.length ((G2 1).l)) (List.length ((G2 3).l)) + 1 ∧ max (List.length ((G2 1).l)) (List.length ((G2 3).l)) ≤ List.length ((G2 4).l))) := HL.2.2.2.1 (hall 4 (Nat.le_of_ble_eq_true kr))
  clear HL hall
  refine g_ret kr ?_
  show ∃ vs, Res _ _ _ _ vs ∧ _
  refine ⟨[uv (fAdd A B PR)], (.agg (b := (gs1 2).b) (Value.cells (uv (fAdd A B PR))) 24 (0, 0) kr (H2.get 2 kr) kr .nil), ?_, H2.below⟩
  rfl
set_option maxRecDepth 100000 in
set_option maxHeartbeats 2000000 in
theorem rmul0_fn (A B : Nat) (hA : A < big) (hB : B < big) : Fn Tryd.prog 23 #[uv A, uv B, .int .i64 0] (uv (fMul A B PR)) := by
  have hp : PR < big ∧ big < 2 * PR := pr_ok
  have hq : NR < big ∧ big < 2 * NR := nr_ok
  have hbig : 2 < big := by unfold big; omega
  refine Fn.intro (c := codeOf Tryd.f23) [.cell 6 24] 14 Tryd.func23 kr kr kr fun w => ?_
  have H0 := St.start w
  refine rS [.b, .b, .a] H0 kr fun gs1 w1 H1 => ?_
  clear H0
  have HL1 : St w.heap.size w w1 [((gs1 0).b, Obj.cells (Value.cells (uv A)) 24 (0, 0)), ((gs1 1).b, Obj.cells (Value.cells (uv B)) 24 (0, 0)), ((gs1 2).b, Obj.cells #[.int .u64 0, .int .u64 0, .int .u64 0, .int .u64 0] 24 (0, 0))] := H1.as kr
  clear H1
  refine D2.g_sdraw [0, 1, 2, 3, 4, 5, 6, 7] [((some 7), fun _ => uv A), ((some 8), fun x => .slice (some ⟨x.b, 0, none⟩) x.n x.cap), ((some 9), fun _ => uv B), ((some 10), fun x => .slice (some ⟨x.b, 0, none⟩) x.n x.cap), ((some 11), fun x => .slice (some ⟨x.b, 0, none⟩) x.n x.cap), ((some 12), fun _ => .int .i64 0), ((some 13), fun _ => uv (fMul A B PR)), (none, fun _ => undef)] (D2.Pre w.heap.size w (fun L g => [(true, ((gs1 0).b, Obj.cells (Value.cells (uv A)) 24 (0, 0))), (true, ((gs1 1).b, Obj.cells (Value.cells (uv B)) 24 (0, 0))), (true, (bif L 7 then ((gs1 2).b, Obj.cells (Value.cells (uv (fMul A B PR))) 24 (0, 0)) else ((gs1 2).b, Obj.cells #[.int .u64 0, .int .u64 0, .int .u64 0, .int .u64 0] 24 (0, 0)))), (L 1, ((g 1).b, Obj.cells ((g 1).cur) 3 (0, 0))), (L 3, ((g 3).b, Obj.cells ((g 3).cur) 3 (0, 0))), (L 4, ((g 4).b, Obj.cells ((g 4).cur) 3 (0, 0)))]) (fun L g => (L 1 = true → ((g 1).n = List.length ((g 1).l) ∧ Rw 1 (g 1).cur (g 1).cap (g 1).n (cellsD ((g 1).l)) ∧ Ok ((g 1).l) ∧ ((g 1).l = dgs A 16 ∧ vl ((g 1).l) = A ∧ List.length ((g 1).l) = 16))) ∧ (L 3 = true → ((g 3).n = List.length ((g 3).l) ∧ Rw 1 (g 3).cur (g 3).cap (g 3).n (cellsD ((g 3).l)) ∧ Ok ((g 3).l) ∧ ((g 3).l = dgs B 16 ∧ vl ((g 3).l) = B ∧ List.length ((g 3).l) = 16))) ∧ (L 4 = true → ((g 4).n = List.length ((g 4).l) ∧ Rw 1 (g 4).cur (g 4).cap (g 4).n (cellsD ((g 4).l)) ∧ Ok ((g 4).l) ∧ (vl ((g 4).l) = vl ((g 1).l) * vl ((g 3).l) ∧ List.length ((g 4).l) = List.length ((g 1).l) + List.length ((g 3).l) + 1))) ∧ True)) kr kr kr kr ⟨D2.StE.of HL1.drew _ kr, ⟨(fun h => nomatch h), (fun h => nomatch h), (fun h => nomatch h), trivial⟩⟩ ⟨?_, ?_, ?_, ?_, ?_, ?_, ?_, ?_, trivial⟩ ?_
  · exact D2.gv_load 24 (.tmp 3) 0 (fun g => (gs1 0).b) (Value.cells (uv A)) 24 (0, 0) (fun _ _ _ h => h) (fun g => by kernel_rfl) (fun g => by kernel_rfl) (fun L g hN => kr) kr
  · exact D2.gv_callS 35 (fun g => #[uv A]) (fun g => fun _ => True) 3 1 (fun g curZ capZ nZ lZ => (nZ = List.length lZ ∧ Rw 1 curZ capZ nZ (cellsD lZ) ∧ Ok lZ ∧ (lZ = dgs A 16 ∧ vl lZ = A ∧ List.length lZ = 16))) 3 (fun L g hN hF => by exact of_fn A hA) (fun L g w hN hE hF => by exact trivial) (fun g w => by kernel_rfl) (fun L g x hN => kr) (fun L g x hN hF hS => ⟨fun _ => hS, hF.2.1, (fun hx => nomatch (Eq.trans (Eq.symm (show L 4 = true from hx)) (hN.post 4 kr))), trivial⟩)
  · exact D2.gv_load 24 (.tmp 4) 1 (fun g => (gs1 1).b) (Value.cells (uv B)) 24 (0, 0) (fun _ _ _ h => h) (fun g => by kernel_rfl) (fun g => by kernel_rfl) (fun L g hN => kr) kr
  · exact D2.gv_callS 35 (fun g => #[uv B]) (fun g => fun _ => True) 3 1 (fun g curZ capZ nZ lZ => (nZ = List.length lZ ∧ Rw 1 curZ capZ nZ (cellsD lZ) ∧ Ok lZ ∧ (lZ = dgs B 16 ∧ vl lZ = B ∧ List.length lZ = 16))) 4 (fun L g hN hF => by exact of_fn B hB) (fun L g w hN hE hF => by exact trivial) (fun g w => by kernel_rfl) (fun L g x hN => kr) (fun L g x hN hF hS => ⟨hF.1, fun _ => hS, (fun hx => nomatch (Eq.trans (Eq.symm (show L 4 = true from hx)) (hN.post 4 kr))), trivial⟩)
  · exact D2.gv_callS 58 (fun g => #[.slice (some ⟨(g 1).b, 0, none⟩) ((g 1).n) ((g 1).cap), .slice (some ⟨(g 3).b, 0, none⟩) ((g 3).n) ((g 3).cap)]) (fun g => fun w => w.heap[(g 1).b]? = some (.cells (g 1).cur 3 (0, 0)) ∧ w.heap[(g 3).b]? = some (.cells (g 3).cur 3 (0, 0))) 3 1 (fun g curZ capZ nZ lZ => (nZ = List.length lZ ∧ Rw 1 curZ capZ nZ (cellsD lZ) ∧ Ok lZ ∧ (vl lZ = vl ((g 1).l) * vl ((g 3).l) ∧ List.length lZ = List.length ((g 1).l) + List.length ((g 3).l) + 1))) 5 (fun L g hN hF => by have hf1 := (hF.1 (hN.bef 1 kr)); have hf3 := (hF.2.1 (hN.bef 3 kr)); exact times_fn ((g 1).l) ((g 3).l) ((g 1).b) ((g 1).n) ((g 1).cap) ((g 3).b) ((g 3).n) ((g 3).cap) ((g 1).cur) ((g 3).cur) hf1.1 hf3.1 hf1.2.1 hf3.2.1 hf1.2.2.1 hf3.2.2.1 (by have := hf1.2.2.2; omega) (by have := hf3.2.2.2; omega)) (fun L g w hN hE hF => by have hf1 := (hF.1 (hN.bef 1 kr)); have hf3 := (hF.2.1 (hN.bef 3 kr)); exact ⟨(hE.get 3 (by have hL1 : L 1 = true := (hN.bef 1 kr); exact D2.ent_get' (p := L 1) (e := ((g 1).b, Obj.cells ((g 1).cur) 3 (0, 0))) kr (by exact hL1) (by simp only [hL1, cond_true, cond_false] <;> rfl))), (hE.get 4 (by have hL3 : L 3 = true := (hN.bef 3 kr); exact D2.ent_get' (p := L 3) (e := ((g 3).b, Obj.cells ((g 3).cur) 3 (0, 0))) kr (by exact hL3) (by simp only [hL3, cond_true, cond_false] <;> rfl)))⟩) (fun g w => by kernel_rfl) (fun L g x hN => kr) (fun L g x hN hF hS => ⟨hF.1, hF.2.1, fun _ => hS, trivial⟩)
  · exact D2.gv_val (fun _ _ _ h => h) (fun g w => by kernel_rfl)
  · exact D2.gv_callP 57 (fun g => #[.slice (some ⟨(g 4).b, 0, none⟩) ((g 4).n) ((g 4).cap), .int .i64 0]) (fun g => fun w => w.heap[(g 4).b]? = some (.cells (g 4).cur 3 (0, 0))) (fun _ _ _ h => h) (fun L g hN hF => by have hf4 := (hF.2.2.1 (hN.bef 4 kr)); have hf1 := (hF.1 (hN.2.2.yes 1 4 kr (hN.bef 4 kr))); have hf3 := (hF.2.1 (hN.2.2.yes 3 4 kr (hN.bef 4 kr))); exact (by have hnum := left020_fn ((g 4).l) ((g 4).b) ((g 4).n) ((g 4).cap) ((g 4).cur) hf4.1 hf4.2.1 (by have := hf4.2.2.2; omega) hf4.2.2.1; have heq : (vl ((g 4).l) % PR) = (fMul A B PR) := (by have e1 := hf1.2.2.2; have e3 := hf3.2.2.2; have e4 := hf4.2.2.2; unfold fMul; rw [e4.1, e1.2.1, e3.2.1]); rw [heq] at hnum; exact hnum)) (fun L g w hN hE hF => by have hf4 := (hF.2.2.1 (hN.bef 4 kr)); have hf1 := (hF.1 (hN.2.2.yes 1 4 kr (hN.bef 4 kr))); have hf3 := (hF.2.1 (hN.2.2.yes 3 4 kr (hN.bef 4 kr))); exact (hE.get 5 (by have hL4 : L 4 = true := (hN.bef 4 kr); exact D2.ent_get' (p := L 4) (e := ((g 4).b, Obj.cells ((g 4).cur) 3 (0, 0))) kr (by exact hL4) (by simp only [hL4, cond_true, cond_false] <;> rfl)))) (fun g w => by kernel_rfl)
  · exact D2.gv_store 2 24 (.tmp 6) (.tmp 13) (fun g => (gs1 2).b) (fun g => 0) #[.int .u64 0, .int .u64 0, .int .u64 0, .int .u64 0] (Value.cells (uv (fMul A B PR))) 24 (uv (fMul A B PR)) (fun g => by kernel_rfl) (fun g => by kernel_rfl) (fun g => by kernel_rfl) kr kr (fun g => (of_decide_eq_true kr)) (fun g => kr) (fun L g hN => ⟨(by have hL7 : L 7 = false := hN.1; exact D2.ent_get' (p := true) (e := (bif L 7 then ((gs1 2).b, Obj.cells (Value.cells (uv (fMul A B PR))) 24 (0, 0)) else ((gs1 2).b, Obj.cells #[.int .u64 0, .int .u64 0, .int .u64 0, .int .u64 0] 24 (0, 0)))) kr (by rfl) (by simp only [hL7, cond_true, cond_false] <;> rfl)), kr⟩) (fun L g hN hF => hF)
  intro L0 G2 w2 hall HL; clear HL1
  have H2 : St w.heap.size w w2 [((gs1 0).b, Obj.cells (Value.cells (uv A)) 24 (0, 0)), ((gs1 1).b, Obj.cells (Value.cells (uv B)) 24 (0, 0)), ((gs1 2).b, Obj.cells (Value.cells (uv (fMul A B PR))) 24 (0, 0)), ((G2 1).b, Obj.cells ((G2 1).cur) 3 (0, 0)), ((G2 3).b, Obj.cells ((G2 3).cur) 3 (0, 0)), ((G2 4).b, Obj.cells ((G2 4).cur) 3 (0, 0))] := by have e1 := hall 1 (Nat.le_of_ble_eq_true kr); have e3 := hall 3 (Nat.le_of_ble_eq_true kr); have e4 := hall 4 (Nat.le_of_ble_eq_true kr); have e7 := hall 7 (Nat.le_of_ble_eq_true kr); have hS := D2.StE.st HL.1; simp only [e1, e3, e4, e7, cond_true, D2.pres] at hS; exact hS
  have hf1_2 : ((G2 1).n = List.length ((G2 1).l) ∧ Rw 1 (G2 1).cur (G2 1).cap (G2 1).n (cellsD ((G2 1).l)) ∧ Ok ((G2 1).l) ∧ ((G2 1).l = dgs A 16 ∧ vl ((G2 1).l) = A ∧ List.length ((G2 1).l) = 16)) := HL.2.1 (hall 1 (Nat.le_of_ble_eq_true kr))
  have hf3_2 : ((G2 3).n = List.length ((G2 3).l) ∧ Rw 1 (G2 3).cur (G2 3).cap (G2 3).n (cellsD ((G2 3).l)) ∧ Ok ((G2 3).l) ∧ ((G2 3).l = dgs B 16 ∧ vl ((G2 3).l) = B ∧ List.length ((G2 3).l) = 16)) := HL.2.2.1 (hall 3 (Nat.le_of_ble_eq_true kr))
  have hf4_2 : ((G2 4).n = List.length ((G2 4).l) ∧ Rw 1 (G2 4).cur (G2 4).cap (G2 4).n (cellsD ((G2 4).l)) ∧ Ok ((G2 4).l) ∧ (vl ((G2 4).l) = vl ((G2 1).l) * vl ((G2 3).l) ∧ List.length ((G2 4).l) = List.length ((G2 1).l) + List.length ((G2 3).l) + 1)) := HL.2.2.2.1 (hall 4 (Nat.le_of_ble_eq_true kr))
  clear HL hall
  refine g_ret kr ?_
  show ∃ vs, Res _ _ _ _ vs ∧ _
  refine ⟨[uv (fMul A B PR)], (.agg (b := (gs1 2).b) (Value.cells (uv (fMul A B PR))) 24 (0, 0) kr (H2.get 2 kr) kr .nil), ?_, H2.below⟩
  rfl
end Go.Proofs.YtmmloghbnpfedaaDoor

namespace Go.Proofs.YtmmloghbnpfedaaDoor
open Go Go.RowKit
set_option linter.unusedVariables false
@[reducible] def wu0 (n : Nat) : Int := w0 n
@[reducible] def wu1 (n : Nat) : Int := w1 n
@[reducible] def wu2 (n : Nat) : Int := w2 n
@[reducible] def wu3 (n : Nat) : Int := w3 n
def pv (p : Ec.Pd) : Value := .agg #[.int .u64 (w0 p.X), .int .u64 (w1 p.X), .int .u64 (w2 p.X), .int .u64 (w3 p.X), .int .u64 (w0 p.Y), .int .u64 (w1 p.Y), .int .u64 (w2 p.Y), .int .u64 (w3 p.Y), .bool p.b]
def wv (p : Ec.Wp) : Value := .agg #[.int .u64 (w0 p.X), .int .u64 (w1 p.X), .int .u64 (w2 p.X), .int .u64 (w3 p.X), .int .u64 (w0 p.Y), .int .u64 (w1 p.Y), .int .u64 (w2 p.Y), .int .u64 (w3 p.Y), .bool p.b, .int .u64 (w0 p.Z), .int .u64 (w1 p.Z), .int .u64 (w2 p.Z), .int .u64 (w3 p.Z)]
theorem pd_eq {p q : Ec.Pd} : (decide (p.X = q.X) && (decide (p.Y = q.Y) && (p.b == q.b))) = decide (p = q) := by
  obtain ⟨X, Y, b⟩ := p
  obtain ⟨X', Y', b'⟩ := q
  rw [Bool.eq_iff_iff]
  simp only [Bool.and_eq_true, decide_eq_true_iff, beq_iff_eq]
  exact ⟨fun ⟨a, b, c⟩ => by subst a b c; rfl, fun h => by injection h with a b c; exact ⟨a, b, c⟩⟩
theorem eqP (p q : Ec.Pd) (hp : p.Ok) (hq : q.Ok) (w : World) : (Op.equalIn 10000 26 (.agg (Value.cells (pv p))) (.agg (Value.cells (pv q)))).run Tryd.prog w = .ok (decide (p = q)) w := by
  rw [run_equalIn_struct w 9999 26 _ _ kr kr,
    show (Tryd.prog.fieldsOf 26).toList = [{ name := "X", type := 24, offset := 0, embedded := false, tag := "", pkgPath := "", byteOffset := 0 }, { name := "Y", type := 24, offset := 4, embedded := false, tag := "", pkgPath := "", byteOffset := 32 }, { name := "Zero", type := 4, offset := 8, embedded := false, tag := "", pkgPath := "", byteOffset := 64 }] by kernel_rfl]
  have px : ∀ p, (part 24 (Value.cells (pv p)) 0).run Tryd.prog w = .ok (uv p.X) w := fun p => by kernel_rfl
  have py : ∀ p, (part 24 (Value.cells (pv p)) 4).run Tryd.prog w = .ok (uv p.Y) w := fun p => by kernel_rfl
  have pb : ∀ p, (part 4 (Value.cells (pv p)) 8).run Tryd.prog w = .ok (.bool p.b) w := fun p => by kernel_rfl
  have ex : (Op.equalIn 9999 24 (uv p.X) (uv q.X)).run Tryd.prog w = .ok (decide (p.X = q.X)) w := by
    rw [← uv_words hp.X hq.X]; exact eqU_any 9997 _ _ _ _ _ _ _ _ w
  have ey : (Op.equalIn 9999 24 (uv p.Y) (uv q.Y)).run Tryd.prog w = .ok (decide (p.Y = q.Y)) w := by
    rw [← uv_words hp.Y hq.Y]; exact eqU_any 9997 _ _ _ _ _ _ _ _ w
  have eb : (Op.equalIn 9999 4 (.bool p.b) (.bool q.b)).run Tryd.prog w = .ok (p.b == q.b) w := run_equalIn_bool w 9998 4 _ _ Tryd.underlying4
  have n1 : ("X" : String) ≠ "_" := by decide
  have n2 : ("Y" : String) ≠ "_" := by decide
  have n3 : ("Zero" : String) ≠ "_" := by decide
  rw [← pd_eq]
  simp only [Op.eqFields, if_pos n1, if_pos n2, if_pos n3, Sem.run_bind, px, Result.andThen_ok, ex]
  cases decide (p.X = q.X)
  · simp
  · simp only [py, Bool.not_true, Bool.false_eq_true, if_false, Result.andThen_ok, ey, Sem.run_ite, Sem.run_bind, Bool.true_and]
    cases decide (p.Y = q.Y)
    · simp
    · simp only [pb, Bool.not_true, Bool.false_eq_true, if_false, Result.andThen_ok, eb, Bool.true_and]
      cases (p.b == q.b) <;> simp
theorem eqP_run {ρ : Env} (p q : Ec.Pd) (hp : p.Ok) (hq : q.Ok) {x y : Operand} {o : Oper} (w : World) (ho : o.op = .binOp .eql 26 x y 26) (hx : ev ρ x = .agg (Value.cells (pv p))) (hy : ev ρ y = .agg (Value.cells (pv q))) :
    (execOp (ev ρ) o).run Tryd.prog w = .ok (.value (.bool (decide (p = q)))) w := by
  have h := eqP p q hp hq w
  generalize Value.cells (pv p) = X at h hx
  generalize Value.cells (pv q) = Y at h hy
  unfold execOp
  simp only [ho, hx, hy, Sem.run_bind, Sem.run_pure, Result.andThen_ok, run_eqGuard_agg w _ _ _ _ _ _ (show Tryd.prog.eqGuardType Tryd.prog.depth 26 = false by kernel_rfl), run_eql_struct, h]
section
variable {P : Program} {N : Nat} {ops : Array Oper} {i : Nat} {r : List Nat} {K : Env → World → Prop} {ρ : Env} {w : World} {B : Nat} {w0 : World} {l : List (Nat × Obj)}
/-- A call that hands over the address of a block of its own. -/
def RetP (T : TypeId) (C : Array Value) : Nat → Value → World → Prop := fun B v w' => ∃ b, v = .pointer (some ⟨b, 0, none⟩) ∧ B ≤ b ∧ w'.heap[b]? = some (.cells C T (0, 0))
theorem s_callN (HS : St B w0 w l) (d : Option Nat) (f : Nat) (args : Array Value) (pre : World → Prop) (T : TypeId) (C : Array Value) (hc : FnR P f args pre (RetP T C)) (hp : pre w)
    (h : opv P ops i ρ w = some (d, true, .ok (.enter f args) w)) (hd : dOK d N = true)
    (kk : ∀ b w', St B w0 w' ((b, .cells C T (0, 0)) :: l) → WPs P N ops K r (updO ρ d (.pointer (some ⟨b, 0, none⟩))) w') : WPs P N ops K (i :: r) ρ w := by
  obtain ⟨o, ho, rfl, hw, hr⟩ := opv_some h
  refine WPo.run ho hw fun a ha => ?_
  rw [hr, Oper.upon_enter]
  refine (hc w hp).mono ?_
  rintro e w' ⟨v, rfl, hb, b, rfl, hle, hh⟩
  exact ⟨_, ha.put _ (dOK_lt hd) _, kk b w' (HS.add hb hle hh)⟩
end
namespace D2
section
variable {P : Program} {ops : Array Oper} {R : (Nat → Gh) → Env} {i : Nat} {d : Option Nat}
variable {E : (Nat → Bool) → (Nat → Gh) → List Ent} {F : (Nat → Bool) → (Nat → Gh) → Prop} {B : Nat} {w0 : World}
end
end D2
end Go.Proofs.YtmmloghbnpfedaaDoor
