/-
  The contract of Less.
-/
import Derived.Test.YtiollplcmmlcgaaSumM
namespace Go.Proofs.Ytiollplcmmlcgaa
open Go.ChangeShapes Go.WideShapes Go.ChangeAt Go.RowKit
set_option linter.unusedVariables false

def ls (x y : List Nat) : Bool := decide (vl x < vl y)

theorem vl_ext : ∀ (x y : List Nat), (∀ t, dAt x t = dAt y t) → vl x = vl y
  | [], [], _ => rfl
  | [], b :: y, h => by
    have h0 := h 0
    have ih := vl_ext [] y (fun t => by have := h (t + 1); simpa [dAt] using this)
    simp [dAt] at h0
    simp only [vl] at ih ⊢
    omega
  | a :: x, [], h => by
    have h0 := h 0
    have ih := vl_ext x [] (fun t => by have := h (t + 1); simpa [dAt] using this)
    simp [dAt] at h0
    simp only [vl] at ih ⊢
    omega
  | a :: x, b :: y, h => by
    have h0 := h 0
    have ih := vl_ext x y (fun t => by have := h (t + 1); simpa [dAt] using this)
    simp [dAt] at h0
    simp only [vl]
    omega
theorem dAt_drop (l : List Nat) (k t : Nat) : dAt (l.drop k) t = dAt l (k + t) := by unfold dAt; simp [List.getD, List.getElem?_drop]
theorem vl_at (l : List Nat) (j : Nat) : vl l = vl (l.take j) + 65536 ^ j * l.getD j 0 + 65536 ^ (j + 1) * vl (l.drop (j + 1)) := by
  rw [vl_split l (j + 1), vl_take']
theorem lt_of_digit {x y : List Nat} (hx : Ok x) (hy : Ok y) (j : Nat) (ht : ∀ t, j < t → dAt x t = dAt y t) (h : dAt x j < dAt y j) : vl x < vl y := by
  have e : vl (x.drop (j + 1)) = vl (y.drop (j + 1)) := vl_ext _ _ (fun t => by rw [dAt_drop, dAt_drop]; exact ht _ (by omega))
  have hl := vl_lt (ok_take hx j)
  have h3 : 65536 ^ (x.take j).length ≤ 65536 ^ j := Nat.pow_le_pow_right (by omega) (List.length_take_le _ _)
  have hd : x.getD j 0 + 1 ≤ y.getD j 0 := by unfold dAt at h; omega
  have hm : 65536 ^ j * (x.getD j 0 + 1) ≤ 65536 ^ j * y.getD j 0 := Nat.mul_le_mul_left _ hd
  rw [Nat.mul_add, Nat.mul_one] at hm
  rw [vl_at x j, vl_at y j, e]
  omega
theorem ls_digit {x y : List Nat} (hx : Ok x) (hy : Ok y) (j : Nat) (ht : ∀ t, j < t → dAt x t = dAt y t) (h : dAt x j ≠ dAt y j) : decide (dAt x j < dAt y j) = ls x y := by
  unfold ls
  rcases Int.lt_or_gt_of_ne h with k | k
  · have := lt_of_digit hx hy j ht k
    simp [k, this]
  · have := lt_of_digit hy hx j (fun t h => (ht t h).symm) k
    have k' : ¬ dAt x j < dAt y j := by omega
    have this' : ¬ vl x < vl y := by omega
    simp [k', this']
theorem ls_none {x y : List Nat} (ht : ∀ t, dAt x t = dAt y t) : ls x y = false := by
  unfold ls; rw [vl_ext x y ht]; simp

/-- All digits from j on are alike. -/
def Same (x y : List Nat) (j : Int) : Prop := ∀ t : Nat, j < t → dAt x t = dAt y t
theorem Same.start (x y : List Nat) (n : Int) (h1 : (x.length : Int) ≤ n) (h2 : (y.length : Int) ≤ n) : Same x y (n - 1) := fun t ht => by
  unfold dAt; simp [List.getD, List.getElem?_eq_none (show x.length ≤ t by omega), List.getElem?_eq_none (show y.length ≤ t by omega)]
theorem Same.down {x y : List Nat} {j : Nat} (h : Same x y j) (e : dAt x j = dAt y j) : Same x y ((j : Int) - 1) := fun t ht => by
  rcases Nat.lt_or_ge j t with k | k
  · exact h t (by omega)
  · rw [show t = j by omega]; exact e

set_option maxHeartbeats 4000000 in
set_option maxRecDepth 100000 in
theorem less_any (va vb : Value) (x y : List Nat) (hx : Ok x) (hy : Ok y) (lx : x.length ≤ 1000) (ly : y.length ≤ 1000) (w : World) (ha : Dig w va x) (hb : Dig w vb y) :
    Calls Try.prog 14 #[va, vb] w fun e w' => e = .returned (.bool (ls x y)) ∧ w = w' := by
  obtain ⟨aa, ca, ea, -⟩ := id ha
  obtain ⟨ab, cb, eb, -⟩ := id hb
  have Ha := Lib.hid ha
  have Hb := Lib.hid hb
  clear ha hb
  subst ea eb
  have key : ∀ n : Int, x.length ≤ n → y.length ≤ n → n ≤ 1000 → True := fun _ _ _ _ => trivial
  by_cases hxy : x.length < y.length
  all_goals
    go_enter Try.func14, Try.ntmps14
    go_wp2
    go_loop [6] (fun i => ∃ j : Int, -1 ≤ j ∧ j ≤ 1000 ∧ i = .int .i64 j ∧ Same x y j) (fun i => (1 + intOf i).toNat)
    case atStart => exact ⟨_, by omega, by omega, rfl, Same.start x y _ (by omega) (by omega)⟩
    case round =>
      obtain ⟨j, j0, j1, rfl, S⟩ := hrel
      by_cases hj : 0 ≤ j
      · obtain ⟨k, rfl⟩ := Int.eq_ofNat_of_zero_le hj
        have cA := digit_nat _ x k (by omega) _ Ha.out
        have cB := digit_nat _ y k (by omega) _ Hb.out
        by_cases hd : dAt x k = dAt y k
        · have hne : (dAt x k != dAt y k) = false := by simp [hd]
          have D := S.down hd
          have Hd := Lib.hid hd
          clear hd
          go_wp2_with fail
          refine cA.mono ?_
          rintro e w' ⟨rfl, rfl⟩
          go_wp2_with fail
          refine cB.mono ?_
          rintro e w' ⟨rfl, rfl⟩
          go_wp2
          go_round
          case rel => exact ⟨(k : Int) - 1, by omega, by omega, by go_num, D⟩
          case measure => simp [intOf]; omega
        · have hne : (dAt x k != dAt y k) = true := by simp [hd]
          have D := ls_digit hx hy k (fun t h => S t (by omega)) hd
          have Hd := Lib.hid D
          clear hd D
          go_wp2_with fail
          refine cA.mono ?_
          rintro e w' ⟨rfl, rfl⟩
          go_wp2_with fail
          refine cB.mono ?_
          rintro e w' ⟨rfl, rfl⟩
          go_wp2_with fail
          refine cA.mono ?_
          rintro e w' ⟨rfl, rfl⟩
          go_wp2_with fail
          refine cB.mono ?_
          rintro e w' ⟨rfl, rfl⟩
          go_wp2
          go_ret
          exact ⟨by rw [← Hd.out]; rfl, rfl⟩
      · have D := ls_none (fun t => S t (by omega))
        have Hd := Lib.hid D
        clear D
        go_wp2
        go_ret
        exact ⟨by rw [Hd.out]; rfl, rfl⟩
end Go.Proofs.Ytiollplcmmlcgaa
