/-
  Division by guessing: plain arithmetic (Knuth, The Art of Computer Programming 2, 4.3.1).
-/
import Derived.Test.YthomanpefekaaaaMath
namespace Go.Proofs.Ythomanpefekaaaa
set_option linter.unusedVariables false

theorem kx1 {u e q yn ym r K : Nat} (h : q * yn + r = u) (hc : r * K + e < q * ym) : u * K + e < q * yn * K + q * ym := by subst h; rw [Nat.add_mul]; omega
theorem kx2 {u e q yn ym r K : Nat} (h : q * yn + r = u) (hc : q * ym ≤ r * K + e) : q * yn * K + q * ym ≤ u * K + e := by subst h; rw [Nat.add_mul]; omega
theorem kx3 {t y q K m : Nat} (h : y * q + t % y = t) : t * K + m = (t % y * K + m) + y * (q * K) := by
  have e : t * K = (y * q + t % y) * K := by rw [h]
  rw [e, Nat.add_mul, Nat.mul_assoc]; omega
theorem kx4 {R next : Nat} (hn : next < 18446744073709551616) : R % 340282366920938463463374607431768211456 * 18446744073709551616 + next < 6277101735386680763835789423207666416102355444464034512896 := by omega
theorem kx5 {T K L a b : Nat} (hT : T = a * K + L) (hL : L < K) (h : b * K + 0 ≤ T) : b ≤ a := by
  rcases Nat.lt_or_ge a b with h2 | h2
  · have := Nat.mul_le_mul_right K (Nat.succ_le_of_lt h2)
    rw [Nat.succ_mul] at this; omega
  · exact h2

/-! ### words of 64 bits out of halves: what math/bits.Div64 does, for a divisor whose highest bit is 1 -/
/-- The guess of a half: T = u 2^32 + e, y = yn 2^32 + ym. -/
theorem half_start {u yn ym y : Nat} (hy : y = yn * 4294967296 + ym) (hym : ym < 4294967296) (hn : 2147483648 ≤ yn) (hu : u < y) :
    u / yn ≤ 4294967297 ∧ u / yn * yn + u % yn = u ∧ u % yn < yn := by
  refine ⟨?_, by rw [Nat.mul_comm]; exact Nat.div_add_mod u yn, Nat.mod_lt _ (by omega)⟩
  have h : u < 4294967298 * yn := by omega
  have := (Nat.div_lt_iff_lt_mul (show 0 < yn by omega)).2 h
  omega
/-- What the loop keeps: q is not too low, r is what u leaves. -/
structure HalfI (u e yn ym y q r : Nat) : Prop where
  ge : (u * 4294967296 + e) / y ≤ q
  le : q ≤ 4294967297
  eq : q * yn + r = u
theorem half_i {u e yn ym y : Nat} (hy : y = yn * 4294967296 + ym) (hym : ym < 4294967296) (hn : 2147483648 ≤ yn) (hu : u < y) (he : e < 4294967296) : HalfI u e yn ym y (u / yn) (u % yn) := by
  obtain ⟨h1, h2, h3⟩ := half_start hy hym hn hu
  refine ⟨?_, h1, h2⟩
  -- q y ≤ T, so q yn ≤ u
  apply (Nat.le_div_iff_mul_le (by omega)).2
  have hd := Nat.div_mul_le_self (u * 4294967296 + e) y
  generalize (u * 4294967296 + e) / y = q at *
  rw [hy, Nat.mul_add q, ← Nat.mul_assoc q] at hd
  rcases Nat.lt_or_ge u (q * yn) with h | h
  · exfalso
    have : (u + 1) * 4294967296 ≤ q * yn * 4294967296 := Nat.mul_le_mul_right 4294967296 (Nat.succ_le_of_lt h)
    omega
  · exact h
/-- A guess that is too high: the next one is not too low. -/
theorem HalfI.high {u e yn ym y q r : Nat} (h : HalfI u e yn ym y q r) (hy : y = yn * 4294967296 + ym) (hym : ym < 4294967296) (hn : 2147483648 ≤ yn) (hu : u < y) (he : e < 4294967296) (hr : r < 4294967296)
    (hc : 4294967296 ≤ q ∨ r * 4294967296 + e < q * ym) : 1 ≤ q ∧ HalfI u e yn ym y (q - 1) (r + yn) := by
  have hlt : (u * 4294967296 + e) / y < q := by
    rcases hc with hc | hc
    · have : u * 4294967296 + e < 4294967296 * y := by omega
      have := (Nat.div_lt_iff_lt_mul (show 0 < y by omega)).2 this
      omega
    · apply (Nat.div_lt_iff_lt_mul (show 0 < y by omega)).2
      rw [hy, Nat.mul_add q, ← Nat.mul_assoc q]
      exact kx1 h.eq hc
  have h1 : 1 ≤ q := Nat.lt_of_le_of_lt (Nat.zero_le _) hlt
  refine ⟨h1, Nat.le_sub_one_of_lt hlt, by have := h.le; omega, ?_⟩
  have := h.eq
  obtain ⟨p, rfl⟩ : ∃ p, q = p + 1 := ⟨q - 1, by omega⟩
  rw [Nat.add_mul, Nat.one_mul] at this
  rw [Nat.add_sub_cancel]; omega
/-- A guess that is not too high is right. -/
theorem HalfI.right {u e yn ym y q r : Nat} (h : HalfI u e yn ym y q r) (hy : y = yn * 4294967296 + ym) (hym : ym < 4294967296) (hn : 2147483648 ≤ yn) (hu : u < y) (he : e < 4294967296)
    (hc : (q < 4294967296 ∧ q * ym ≤ r * 4294967296 + e) ∨ (4294967296 ≤ r ∧ q ≤ 4294967296)) : q = (u * 4294967296 + e) / y := by
  have hle : q * y ≤ u * 4294967296 + e := by
    have h1 : q * ym ≤ r * 4294967296 + e := by
      rcases hc with hc | hc
      · exact hc.2
      · have : q * ym ≤ 4294967296 * ym := Nat.mul_le_mul_right _ hc.2
        omega
    rw [hy, Nat.mul_add q, ← Nat.mul_assoc q]
    exact kx2 h.eq h1
  have := (Nat.le_div_iff_mul_le (show 0 < y by omega)).2 hle
  have := h.ge
  omega
/-- Both halves together. -/
theorem halves {hi lo y q1 q0 : Nat} (hy : 0 < y) (h1 : q1 = (hi * 4294967296 + lo / 4294967296) / y) (h0 : q0 = ((hi * 4294967296 + lo / 4294967296) % y * 4294967296 + lo % 4294967296) / y) :
    q1 * 4294967296 + q0 = (hi * 18446744073709551616 + lo) / y := by
  have hT : hi * 18446744073709551616 + lo = (hi * 4294967296 + lo / 4294967296) * 4294967296 + lo % 4294967296 := by omega
  have hd := Nat.div_add_mod (hi * 4294967296 + lo / 4294967296) y
  rw [← h1] at hd
  rw [hT]
  have h2 := kx3 (K := 4294967296) (m := lo % 4294967296) hd
  rw [h2, Nat.add_mul_div_left _ _ hy]
  subst h0
  exact Nat.add_comm _ _

/-! ### a word more of a number, divided by a divisor of four words whose highest bit is 1 -/
/-- How often d goes into rest 2^64 + next, by the first words. -/
def gss (R D : Nat) : Nat := if D / 6277101735386680763835789423207666416102355444464034512896 ≤ R / 6277101735386680763835789423207666416102355444464034512896 then 18446744073709551615 else R / 340282366920938463463374607431768211456 / (D / 6277101735386680763835789423207666416102355444464034512896)
theorem gss_ok {R D next : Nat} (hD : D < big) (h2 : big ≤ 2 * D) (hR : R < D) (hn : next < 18446744073709551616) :
    (R * 18446744073709551616 + next) / D ≤ gss R D ∧ gss R D ≤ (R * 18446744073709551616 + next) / D + 2 ∧ gss R D < 18446744073709551616 := by
  unfold big at *
  have hT : R * 18446744073709551616 + next < 18446744073709551616 * D := by omega
  have hq : (R * 18446744073709551616 + next) / D < 18446744073709551616 := (Nat.div_lt_iff_lt_mul (by omega)).2 hT
  have hqd := Nat.div_mul_le_self (R * 18446744073709551616 + next) D
  -- the first words
  generalize hd3 : D / 6277101735386680763835789423207666416102355444464034512896 = d3
  generalize hT2 : R / 340282366920938463463374607431768211456 = T2
  have hdD : D = d3 * 6277101735386680763835789423207666416102355444464034512896 + D % 6277101735386680763835789423207666416102355444464034512896 := by omega
  have hTT : R * 18446744073709551616 + next = T2 * 6277101735386680763835789423207666416102355444464034512896 + (R % 340282366920938463463374607431768211456 * 18446744073709551616 + next) := by omega
  have hr3 : R / 6277101735386680763835789423207666416102355444464034512896 = T2 / 18446744073709551616 := by omega
  have hd3l : 9223372036854775808 ≤ d3 := by omega
  have hd3h : d3 < 18446744073709551616 := by omega
  unfold gss
  rw [hd3, hT2]
  generalize hl : D % 6277101735386680763835789423207666416102355444464034512896 = dl at *
  have hdl : dl < 6277101735386680763835789423207666416102355444464034512896 := by omega
  -- not too high: whenever g d3 ≤ T2 and g < 2^64
  have notHigh : ∀ g, g * d3 ≤ T2 → g < 18446744073709551616 → g ≤ (R * 18446744073709551616 + next) / D + 2 := by
    intro g hg hg2
    rcases Nat.lt_or_ge g 2 with h | h
    · exact Nat.le_trans (Nat.le_of_lt h) (Nat.le_add_left 2 _)
    · obtain ⟨p, rfl⟩ : ∃ p, g = p + 2 := ⟨g - 2, by omega⟩
      have : p ≤ (R * 18446744073709551616 + next) / D := by
        apply (Nat.le_div_iff_mul_le (by omega)).2
        rw [hTT, hdD, Nat.mul_add p, ← Nat.mul_assoc p]
        rw [Nat.add_mul p 2] at hg
        have h3 : p * dl ≤ p * 6277101735386680763835789423207666416102355444464034512896 := Nat.mul_le_mul_left _ (by omega)
        omega
      omega
  split
  · rename_i hge
    refine ⟨by omega, notHigh _ ?_ (by omega), by omega⟩
    have : 18446744073709551615 * d3 ≤ 18446744073709551616 * d3 := Nat.mul_le_mul_right _ (by omega)
    omega
  · rename_i hlt
    have hlt' : T2 / 18446744073709551616 < d3 := by omega
    have hg : T2 / d3 < 18446744073709551616 := (Nat.div_lt_iff_lt_mul (by omega)).2 (by omega)
    refine ⟨?_, notHigh _ (Nat.div_mul_le_self _ _) hg, hg⟩
    apply (Nat.le_div_iff_mul_le (by omega)).2
    generalize (R * 18446744073709551616 + next) / D = q at *
    rw [hTT, hdD, Nat.mul_add q, ← Nat.mul_assoc q] at hqd
    exact kx5 (K := 6277101735386680763835789423207666416102355444464034512896) (L := R % 340282366920938463463374607431768211456 * 18446744073709551616 + next) (a := T2) (b := q * d3) rfl (kx4 hn) (Nat.le_trans (Nat.add_le_add_left (Nat.zero_le _) _) hqd)
end Go.Proofs.Ythomanpefekaaaa
