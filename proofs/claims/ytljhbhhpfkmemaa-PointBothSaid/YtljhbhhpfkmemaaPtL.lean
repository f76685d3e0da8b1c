/-
  Points: what the calls' values are.
-/
import Derived.Test.YtljhbhhpfkmemaaPtV
import Derived.Test.YtljhbhhpfkmemaaFermat
namespace Go.Proofs.Ytljhbhhpfkmemaa
open Go Go.RowKit Go.Proofs.Zm
set_option linter.unusedVariables false
theorem sub0 {y : Nat} (h : y < PR) : fSub 0 y PR = (PR - y) % PR := by rw [turned_eq, Nat.mod_eq_of_lt h]
theorem turn_pt (P : Ec.Pt Ec.Fp) : Ec.Pd.mk (Ec.ofPt P).X (fSub 0 (Ec.ofPt P).Y PR) (Ec.ofPt P).b = Ec.ofPt P.neg := by
  cases P with
  | zero =>
    show Ec.Pd.mk 0 (fSub 0 0 PR) true = Ec.Pd.mk 0 0 true
    rw [show fSub 0 0 PR = 0 by decide +kernel]
  | pt x y =>
    show Ec.Pd.mk x.v (fSub 0 y.v PR) false = Ec.Pd.mk x.v ((PR - y.v) % PR) false
    rw [sub0 y.lt]
theorem turned_1 {P : Ec.Pt Ec.Fp} (h : Ec.Pd.b (Ec.ofPt P) = true) : Ec.ofPt P = Ec.ofPt P.neg := by
  cases P with
  | zero => rfl
  | pt x y => cases h
theorem turned_2 {P : Ec.Pt Ec.Fp} (h : Ec.Pd.b (Ec.ofPt P) = false) : Ec.Pd.mk (Ec.ofPt P).X (fSub 0 (Ec.ofPt P).Y PR) false = Ec.ofPt P.neg := by rw [← turn_pt, h]
/-! ### Shares -/
def zeroC : List Value := [.int .u64 0, .int .u64 0, .int .u64 0, .int .u64 0, .int .u64 0, .int .u64 0, .int .u64 0, .int .u64 0, .bool false, .int .u64 0, .int .u64 0, .int .u64 0, .int .u64 0]
def slotC (p : Ec.Wp) (k i : Nat) : List Value := bif Nat.ble i k then (Value.cells (wv (Ec.mults p i))).toList else zeroC
/-- A share with its first k + 1 multiples. -/
def shv (n : Nat) (p : Ec.Wp) (k : Nat) : Value := .agg ([Value.int .u64 (w0 n), .int .u64 (w1 n), .int .u64 (w2 n), .int .u64 (w3 n)] ++ (slotC p k 0 ++ (slotC p k 1 ++ (slotC p k 2 ++ (slotC p k 3 ++ (slotC p k 4 ++ (slotC p k 5 ++ (slotC p k 6 ++ (slotC p k 7 ++ (slotC p k 8 ++ (slotC p k 9 ++ (slotC p k 10 ++ (slotC p k 11 ++ (slotC p k 12 ++ (slotC p k 13 ++ (slotC p k 14 ++ slotC p k 15)))))))))))))))).toArray
def shw (n q : Nat) : Nat := n / 2 ^ (64 * q) % 18446744073709551616
theorem shw_at (n : Nat) (p : Ec.Wp) {q off : Nat} (ho : off = 0 + q * 1) (hq : q < 4) : (Value.cells (shv n p 15))[off]? = some (.int .u64 ((shw n q : Nat) : Int)) := by
  subst ho
  unfold shw
  have h : q = 0 ∨ q = 1 ∨ q = 2 ∨ q = 3 := by omega
  rcases h with rfl | rfl | rfl | rfl
  · show some (Value.int .u64 (w0 n)) = _; unfold w0; rw [show 2 ^ (64 * 0) = 1 from rfl, Nat.div_one]
  · show some (Value.int .u64 (w1 n)) = _; unfold w1; rfl
  · show some (Value.int .u64 (w2 n)) = _; unfold w2; rfl
  · show some (Value.int .u64 (w3 n)) = _; unfold w3; rfl
theorem shm_at (n : Nat) (p : Ec.Wp) {q off : Nat} (ho : off = 4 + q * 13) (hq : q < 16) : (Value.cells (shv n p 15)).extract off (off + 13) = Value.cells (wv (Ec.mults p q)) := by
  subst ho
  have h : q = 0 ∨ q = 1 ∨ q = 2 ∨ q = 3 ∨ q = 4 ∨ q = 5 ∨ q = 6 ∨ q = 7 ∨ q = 8 ∨ q = 9 ∨ q = 10 ∨ q = 11 ∨ q = 12 ∨ q = 13 ∨ q = 14 ∨ q = 15 := by omega
  rcases h with rfl | rfl | rfl | rfl | rfl | rfl | rfl | rfl | rfl | rfl | rfl | rfl | rfl | rfl | rfl | rfl <;> (show _ = _; kernel_rfl)
theorem sh_size (n : Nat) (p : Ec.Wp) : (Value.cells (shv n p 15)).size = 212 := by kernel_rfl
theorem dig_bits (n d : Nat) : shw n (d * 4 / 64) / 2 ^ (d * 4 % 64) % 16 = n / 16 ^ d % 16 := by
  unfold shw
  have h16 : (16 : Nat) ^ d = 2 ^ (64 * (d * 4 / 64)) * 2 ^ (d * 4 % 64) := by
    rw [← Nat.pow_add, show (16 : Nat) = 2 ^ 4 from rfl, ← Nat.pow_mul]; congr 1; omega
  rw [h16, ← Nat.div_div_eq_div_mul]
  generalize n / 2 ^ (64 * (d * 4 / 64)) = X
  have hm : d * 4 % 64 ≤ 60 := by omega
  generalize d * 4 % 64 = m at hm
  have e : 18446744073709551616 = 2 ^ m * 2 ^ (64 - m) := by rw [← Nat.pow_add, show m + (64 - m) = 64 by omega]
  rw [e, Nat.mod_mul_right_div_self, Nat.mod_mod_of_dvd]
  exact ⟨2 ^ (60 - m), by rw [show (16 : Nat) = 2 ^ 4 from rfl, ← Nat.pow_add]; congr 1; omega⟩
theorem tog_next {n : Nat} {p : Ec.Wp} {j : Nat} (h1 : 1 ≤ j) (h2 : j ≤ 64) : Ec.plusW (Ec.dblW (Ec.dblW (Ec.dblW (Ec.dblW (Ec.tog n p (64 - j)))))) (Ec.mults p (n / 16 ^ (j - 1) % 16)) = Ec.tog n p (64 - (j - 1)) := by
  rw [show 64 - (j - 1) = (64 - j) + 1 by omega]
  show _ = Ec.plusW (Ec.quad _) (Ec.mults p (n / 16 ^ (63 - (64 - j)) % 16))
  rw [show 63 - (64 - j) = j - 1 by omega]; rfl
theorem tog2_next {n m : Nat} {p q : Ec.Wp} {j : Nat} (h1 : 1 ≤ j) (h2 : j ≤ 64) : Ec.plusW (Ec.plusW (Ec.dblW (Ec.dblW (Ec.dblW (Ec.dblW (Ec.tog2 n p m q (64 - j)))))) (Ec.mults p (n / 16 ^ (j - 1) % 16))) (Ec.mults q (m / 16 ^ (j - 1) % 16)) = Ec.tog2 n p m q (64 - (j - 1)) := by
  rw [show 64 - (j - 1) = (64 - j) + 1 by omega]
  show _ = Ec.plusW (Ec.plusW (Ec.quad _) (Ec.mults p (n / 16 ^ (63 - (64 - j)) % 16))) (Ec.mults q (m / 16 ^ (63 - (64 - j)) % 16))
  rw [show 63 - (64 - j) = j - 1 by omega]; rfl
/-! ### Roots -/
theorem rt_ltP (A : Nat) : rt A < PR := by
  unfold rt; split
  · exact Ec.suP _ _
  · exact fpw_ltM _ _
theorem rs_P {A : Nat} (h : A < PR) : rs A 0 PR = A := by unfold rs; rw [Nat.mul_zero, Nat.add_zero, Nat.mod_eq_of_lt h]
theorem sq_of {x y : Ec.Fp} (h : y * y = x * x * x + Ec.seven) : Ec.sqN x.v = fMul y.v y.v PR := by
  refine (Ec.mk_inj (Ec.sqN_lt _) (Ec.mlP _ _)).1 ?_
  rw [Ec.mk_sqN, Ec.mk_ml, mk_v, mk_v]; exact h.symm
theorem root_yes_pt {x y : Ec.Fp} (h : y * y = x * x * x + Ec.seven) : fMul (fpw (Ec.sqN x.v) QR PR) (fpw (Ec.sqN x.v) QR PR) PR = rs (Ec.sqN x.v) 0 PR := by
  rw [sq_of h]; exact root_square _
theorem rt_or {x y : Ec.Fp} (h : y * y = x * x * x + Ec.seven) : rt (Ec.sqN x.v) = y.v ∨ rt (Ec.sqN x.v) = PR - y.v := by
  have h1 := rt_sq y.v
  rw [← sq_of h] at h1
  have hr := rt_ltP (Ec.sqN x.v)
  generalize rt (Ec.sqN x.v) = r at *
  have h2 : (mk r : Ec.Fp) * mk r = y * y := by rw [← Ec.mk_ml, h1, sq_of h, Ec.mk_ml, mk_v]
  have y0 := Ec.noy h
  have h3 : (mk r : Ec.Fp) = y ∨ (mk r : Ec.Fp) = -y := by
    by_cases q : (mk r : Ec.Fp) = y
    · exact Or.inl q
    · right
      have a1 : (mk r - y) * (mk r + y) = (0 : Ec.Fp) := by grind
      have a2 : (mk r - y : Ec.Fp) ≠ 0 := by grind
      grind
  rcases h3 with q | q
  · left
    have := congrArg Zm.v q
    rw [show (mk r : Ec.Fp).v = r % PR from rfl, Nat.mod_eq_of_lt hr] at this; exact this
  · right
    have := congrArg Zm.v q
    rw [show (mk r : Ec.Fp).v = r % PR from rfl, Nat.mod_eq_of_lt hr, show (-y).v = (PR - y.v) % PR from rfl] at this
    rw [this, Nat.mod_eq_of_lt]
    have : y.v ≠ 0 := fun e => y0 (Zm.ext (by rw [e]; rfl))
    have := y.lt
    omega
theorem y_pos {x y : Ec.Fp} (h : y * y = x * x * x + Ec.seven) : y.v ≠ 0 := fun e => Ec.noy h (Zm.ext (by rw [e]; rfl))
theorem lift_even {x y : Ec.Fp} (h : y * y = x * x * x + Ec.seven) (he : y.v % 2 = 0) : rt (Ec.sqN x.v) = y.v := by
  have h1 := rt_even (Ec.sqN x.v)
  have h2 := pr_odd
  have h3 := y.lt
  rcases rt_or h with q | q <;> omega
theorem lift_odd {x y : Ec.Fp} (h : y * y = x * x * x + Ec.seven) (he : y.v % 2 = 1) : fSub 0 (rt (Ec.sqN x.v)) PR = y.v := by
  have h1 := rt_even (Ec.sqN x.v)
  have h2 := pr_odd
  have h3 := y.lt
  have h4 := y_pos h
  rw [sub0 (rt_ltP _)]
  rcases rt_or h with q | q
  · omega
  · rw [q, Nat.mod_eq_of_lt] <;> omega
theorem rt_pos {x : Nat} (hs : fMul (fpw (Ec.sqN x) QR PR) (fpw (Ec.sqN x) QR PR) PR = rs (Ec.sqN x) 0 PR) : rt (Ec.sqN x) ≠ 0 := fun e => by
  have h := rt_square hs
  rw [rs_P (Ec.sqN_lt _), e] at h
  have h1 : (mk (fMul 0 0 PR) : Ec.Fp) = mk (Ec.sqN x) := by rw [h]
  rw [Ec.mk_ml, Ec.mk_sqN] at h1
  exact Ec.noy h1 rfl
theorem odd_eq {x : Nat} (hs : fMul (fpw (Ec.sqN x) QR PR) (fpw (Ec.sqN x) QR PR) PR = rs (Ec.sqN x) 0 PR) : fSub 0 (rt (Ec.sqN x)) PR = PR - rt (Ec.sqN x) := by
  have h1 := rt_pos hs
  have h2 := rt_ltP (Ec.sqN x)
  rw [sub0 h2, Nat.mod_eq_of_lt (by omega)]
theorem odd_odd {x : Nat} (hs : fMul (fpw (Ec.sqN x) QR PR) (fpw (Ec.sqN x) QR PR) PR = rs (Ec.sqN x) 0 PR) : fSub 0 (rt (Ec.sqN x)) PR % 2 = 1 := by
  have h1 := rt_pos hs
  have h2 := rt_ltP (Ec.sqN x)
  have h3 := rt_even (Ec.sqN x)
  have h4 := pr_odd
  rw [odd_eq hs]; omega
theorem even_on {x : Nat} (hx : x < PR) (hs : fMul (fpw (Ec.sqN x) QR PR) (fpw (Ec.sqN x) QR PR) PR = rs (Ec.sqN x) 0 PR) : Ec.onB (Ec.Pd.mk x (rt (Ec.sqN x)) false) = true := by
  rw [Ec.onB_e rfl hx (rt_ltP _), decide_eq_true_iff]
  show fMul (rt (Ec.sqN x)) (rt (Ec.sqN x)) PR = Ec.sqN x
  rw [rt_square hs, rs_P (Ec.sqN_lt _)]
theorem odd_on {x : Nat} (hx : x < PR) (hs : fMul (fpw (Ec.sqN x) QR PR) (fpw (Ec.sqN x) QR PR) PR = rs (Ec.sqN x) 0 PR) : Ec.onB (Ec.Pd.mk x (fSub 0 (rt (Ec.sqN x)) PR) false) = true := by
  rw [Ec.onB_e rfl hx (Ec.suP _ _), decide_eq_true_iff]
  show fMul (fSub 0 (rt (Ec.sqN x)) PR) (fSub 0 (rt (Ec.sqN x)) PR) PR = Ec.sqN x
  have h := rt_square hs
  rw [rs_P (Ec.sqN_lt _)] at h
  refine (Ec.mk_inj (Ec.mlP _ _) (Ec.sqN_lt _)).1 ?_
  rw [← h, Ec.mk_ml, Ec.mk_ml, Ec.mk_su]
  show ((0 : Ec.Fp) - _) * ((0 : Ec.Fp) - _) = _
  grind
theorem w0_odd {r : Nat} (h : r % 2 = 1) : bits .and .u64 (w0 r) 1 = 1 := by
  have e := Go.u64_and (w0 r) 1 (wd0 r).1 (wd0 r).2 (by decide) (by decide)
  rw [e]
  have : (w0 r).toNat &&& (1 : Int).toNat = (w0 r).toNat % 2 := Nat.and_two_pow_sub_one_eq_mod (w0 r).toNat 1
  rw [this]
  unfold w0
  omega
theorem onB_none : Ec.onB (Ec.Pd.mk 0 0 false) = false := by decide +kernel
/-! ### Sums, told by multiplying back -/
theorem adds_X {A B : Nat} {k x1 x2 x3 : Ec.Fp} (hA : mk A = k * mk B) (hx : x3 = k * k - x1 - x2) :
    fMul x3.v (fMul B B PR) PR = fSub (fSub (fMul A A PR) (fMul x1.v (fMul B B PR) PR) PR) (fMul x2.v (fMul B B PR) PR) PR := by
  refine (Ec.mk_inj (Ec.mlP _ _) (Ec.suP _ _)).1 ?_
  simp only [Ec.mk_su, Ec.mk_ml, mk_v, hA, hx]
  grind
theorem adds_Y {A B : Nat} {k x1 x3 y1 y3 : Ec.Fp} (hA : mk A = k * mk B) (hy : y3 = k * (x1 - x3) - y1) :
    fMul y3.v B PR = fSub (fMul A (fSub x1.v x3.v PR) PR) (fMul y1.v B PR) PR := by
  refine (Ec.mk_inj (Ec.mlP _ _) (Ec.suP _ _)).1 ?_
  simp only [Ec.mk_su, Ec.mk_ml, mk_v, hA, hy]
  grind
theorem add_else {x1 y1 x2 y2 x3 y3 : Ec.Fp} (h : Ec.Pt.add (.pt x1 y1) (.pt x2 y2) = .pt x3 y3) :
    ¬ (x2 = x1 ∧ y2 = -y1) ∧ x3 = Ec.slope x1 y1 x2 y2 * Ec.slope x1 y1 x2 y2 - x1 - x2 ∧ y3 = Ec.slope x1 y1 x2 y2 * (x1 - x3) - y1 := by
  by_cases hn : x2 = x1 ∧ y2 = -y1
  · have : Ec.Pt.add (.pt x1 y1) (.pt x2 y2) = Ec.Pt.zero := if_pos hn
    rw [this] at h; cases h
  · have e : Ec.Pt.add (.pt x1 y1) (.pt x2 y2) = .pt (Ec.slope x1 y1 x2 y2 * Ec.slope x1 y1 x2 y2 - x1 - x2) (Ec.slope x1 y1 x2 y2 * (x1 - (Ec.slope x1 y1 x2 y2 * Ec.slope x1 y1 x2 y2 - x1 - x2)) - y1) := if_neg hn
    rw [e] at h
    injection h with h1 h2
    exact ⟨hn, h1.symm, by rw [← h2, h1]⟩
theorem tan_A {x1 y1 : Ec.Fp} (hn : ¬ (x1 = x1 ∧ y1 = -y1)) : (mk (fAdd (fAdd (fMul x1.v x1.v PR) (fMul x1.v x1.v PR) PR) (fMul x1.v x1.v PR) PR) : Ec.Fp) = Ec.slope x1 y1 x1 y1 * mk (fAdd y1.v y1.v PR) := by
  have hyy : y1 + y1 ≠ 0 := fun q => hn ⟨rfl, by grind⟩
  simp only [Ec.mk_ad, Ec.mk_ml, mk_v]
  exact (Ec.slope_eq rfl hyy).symm
theorem chord_A {x1 y1 x2 y2 : Ec.Fp} (h : x1 ≠ x2) : (mk (fSub y2.v y1.v PR) : Ec.Fp) = Ec.slope x1 y1 x2 y2 * mk (fSub x2.v x1.v PR) := by
  simp only [Ec.mk_su, mk_v]
  exact (Ec.slope_ne h).symm
/-- Of one first number, and not turned: the same. -/
theorem same_x {x y1 y2 : Ec.Fp} (h1 : y1 * y1 = x * x * x + Ec.seven) (h2 : y2 * y2 = x * x * x + Ec.seven) (hn : ¬ (x = x ∧ y2 = -y1)) : y2 = y1 := by
  have h3 : y2 + y1 ≠ 0 := fun q => hn ⟨rfl, by grind⟩
  have : (y2 - y1) * (y2 + y1) = 0 := by grind
  grind
theorem pt_inj {x1 y1 x2 y2 : Ec.Fp} (h : Ec.ofPt (.pt x1 y1) = Ec.ofPt (.pt x2 y2)) : x1 = x2 ∧ y1 = y2 := by
  have := Ec.ofPt_inj h
  injection this with a b; exact ⟨a, b⟩
theorem not_neg {x1 y1 x2 y2 x3 y3 : Ec.Fp} (h : Ec.Pt.add (.pt x1 y1) (.pt x2 y2) = .pt x3 y3) : Ec.ofPt (.pt x2 y2) ≠ Ec.ofPt (Ec.Pt.neg (.pt x1 y1)) := fun q => (add_else h).1 (pt_inj q)
theorem tan_A2 {x1 y1 x2 y2 x3 y3 : Ec.Fp} (h : Ec.Pt.add (.pt x1 y1) (.pt x2 y2) = .pt x3 y3) (he : Ec.ofPt (.pt x1 y1) = Ec.ofPt (.pt x2 y2)) :
    (mk (fAdd (fAdd (fMul x1.v x1.v PR) (fMul x1.v x1.v PR) PR) (fMul x1.v x1.v PR) PR) : Ec.Fp) = Ec.slope x1 y1 x2 y2 * mk (fAdd y1.v y1.v PR) := by
  have hn := (add_else h).1
  obtain ⟨rfl, rfl⟩ := pt_inj he
  exact tan_A hn
theorem chord_A2 {x1 y1 x2 y2 x3 y3 : Ec.Fp} (h1 : Ec.Pt.On Ec.seven (.pt x1 y1)) (h2 : Ec.Pt.On Ec.seven (.pt x2 y2)) (h : Ec.Pt.add (.pt x1 y1) (.pt x2 y2) = .pt x3 y3) (he : Ec.ofPt (.pt x1 y1) ≠ Ec.ofPt (.pt x2 y2)) :
    (mk (fSub y2.v y1.v PR) : Ec.Fp) = Ec.slope x1 y1 x2 y2 * mk (fSub x2.v x1.v PR) := by
  have hn := (add_else h).1
  refine chord_A fun q => ?_
  subst q
  have := same_x h1 h2 hn
  subst this
  exact he rfl
theorem tog2_end {n m : Nat} {P Q : Ec.Pt Ec.Fp} (hn : n < big) (hm : m < big) (hP : P.On Ec.seven) (hQ : Q.On Ec.seven) : Ec.Stands (Ec.tog2 n (Ec.widenW (Ec.ofPt P)) m (Ec.widenW (Ec.ofPt Q)) 64) ((Ec.mulP P n).add (Ec.mulP Q m)) := by
  have := Ec.tog2_rep hn hm (Ec.widen_rep P) (Ec.widen_rep Q) hP hQ 64 (Nat.le_refl _)
  rwa [Nat.sub_self, Nat.pow_zero, Nat.div_one, Nat.div_one] at this
end Go.Proofs.Ytljhbhhpfkmemaa
