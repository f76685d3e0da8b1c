/-
  What turns a number; which numbers have roots: by Fermat's theorem.
-/
import Derived.Test.YtljhbhhpfkmemaaCerts
import Derived.Test.YtljhbhhpfkmemaaLawM
import Derived.Laws.BitsAllLaws
namespace Go.Proofs.Ytljhbhhpfkmemaa
set_option linter.unusedVariables false
theorem two_df {M : Nat} (h : MOK M) : df M 2 = M - 2 := by
  unfold df MOK at *
  unfold big at *
  rw [show M + 115792089237316195423570985008687907853269984665640564039457584007913129639936 - 2 = (M - 2) + 115792089237316195423570985008687907853269984665640564039457584007913129639936 by omega, Nat.add_mod_right, Nat.mod_eq_of_lt (by omega)]
theorem ndvd {A M : Nat} (hz : rs A 0 M ≠ 0) : ¬ M ∣ A := fun h => hz (by rw [rs_zero]; exact Nat.mod_eq_zero_of_dvd h)
theorem inv_one {M : Nat} (h : MOK M) (hp : Pr M) {A : Nat} (hz : rs A 0 M ≠ 0) : fMul A (finv A M) M = 1 := by
  unfold fMul finv
  rw [fpw_eq, two_df h, Nat.mul_mod_mod, Nat.mul_comm, ← Nat.pow_succ, show (M - 2).succ = M - 1 by unfold MOK big at h; omega]
  exact fermat hp (ndvd hz)
theorem inv_nz {M : Nat} (h : MOK M) (hp : Pr M) {A : Nat} (hz : rs A 0 M ≠ 0) : rs (finv A M) 0 M ≠ 0 := fun h0 => by
  have h1 := inv_one h hp hz
  rw [rs_zero] at h0
  unfold fMul at h1
  rw [Nat.mul_mod, h0, Nat.mul_zero, Nat.zero_mod] at h1
  cases h1
theorem inv_back {M : Nat} (h : MOK M) (hp : Pr M) {A : Nat} (hz : rs A 0 M ≠ 0) : finv (finv A M) M = rs A 0 M := by
  have h1 := inv_one h hp hz
  have h2 := inv_one h hp (inv_nz h hp hz)
  have hlt : finv (finv A M) M < M := by unfold finv; rw [fpw_eq]; exact Nat.mod_lt _ (by unfold MOK big at h; omega)
  generalize finv (finv A M) M = y at *
  generalize finv A M = x at *
  unfold fMul at h1 h2
  have e : A * (x * y) % M = (A * x) * y % M := by rw [Nat.mul_assoc]
  rw [Nat.mul_mod, h2, Nat.mul_one, Nat.mod_mod] at e
  rw [rs_zero, e, Nat.mul_mod, h1, Nat.one_mul, Nat.mod_mod, Nat.mod_eq_of_lt hlt]
theorem inv_lt {M : Nat} (h : MOK M) (A : Nat) : finv A M < M := by unfold finv; rw [fpw_eq]; exact Nat.mod_lt _ (by unfold MOK big at h; omega)
theorem cm_refl (A : Nat) : cm A A = 0 := by unfold cm; rw [if_pos rfl]

/-! ### Roots: of any prime that leaves 3, divided by 4 -/
section
variable {p H Q : Nat}
theorem g_root2 (hQ : Q * 2 = H + 1) (A : Nat) : (A ^ Q % p) * (A ^ Q % p) % p = A ^ H % p * A % p := by
  rw [← Nat.mul_mod, Nat.mod_mul_mod, ← Nat.pow_add, ← Nat.pow_succ]
  congr 2; omega
theorem g_cases (hp : Pr p) (hH : p - 1 = H * 2) {A : Nat} (hz : ¬ p ∣ A) : A ^ H % p = 1 ∨ A ^ H % p = p - 1 := by
  have h1 := hp.1
  have hf := fermat hp hz
  rw [hH, Nat.pow_mul, Nat.pow_two, Nat.mul_mod] at hf
  have hlt : A ^ H % p < p := Nat.mod_lt _ (by omega)
  generalize A ^ H % p = e at *
  have h0 : e ≠ 0 := fun h => by subst h; rw [Nat.mul_zero, Nat.zero_mod] at hf; cases hf
  have hd : p ∣ (e - 1) * (e + 1) := by
    have : (e - 1) * (e + 1) = e * e - 1 := by
      obtain ⟨k, rfl⟩ : ∃ k, e = k + 1 := ⟨e - 1, by omega⟩
      have e5 : (k + 1) * (k + 1) = k * (k + 1 + 1) + 1 := by simp only [Nat.mul_add, Nat.add_mul]; omega
      rw [Nat.add_sub_cancel, e5, Nat.add_sub_cancel]
    rw [this]
    have h3 := Nat.sub_mod_eq_zero_of_mod_eq (m := e * e) (n := 1) (k := p) (hf.trans (Nat.mod_eq_of_lt h1).symm)
    exact Nat.dvd_of_mod_eq_zero h3
  rcases hp.mul hd with h | h
  · left
    by_cases h1 : e - 1 = 0
    · omega
    · have := Nat.le_of_dvd (by omega) h; omega
  · right
    have := Nat.le_of_dvd (by omega) h; omega
theorem g_sq {a b : Nat} (hab : a + b = p) : a * a % p = b * b % p := by
  have e : a * a + b * p = b * b + a * p := by rw [← hab, Nat.mul_add, Nat.mul_add, Nat.mul_comm b a]; omega
  have := congrArg (· % p) e
  simpa only [Nat.add_mul_mod_self_right] using this
theorem g_turned (hodd : H % 2 = 1) {a b : Nat} (hab : a + b = p) : (a ^ H % p + b ^ H % p) % p = 0 := by
  obtain ⟨k, hk⟩ : ∃ k, H = 2 * k + 1 := ⟨H / 2, by omega⟩
  have hpow : ∀ x, x ^ H % p = (x * x % p) ^ k * x % p := fun x => by
    rw [hk, Nat.pow_succ, Nat.pow_mul, Nat.pow_two, Nat.mul_mod, Nat.pow_mod, ← Nat.mul_mod]
  rw [hpow a, hpow b, ← g_sq hab, ← Nat.add_mod, ← Nat.mul_add, hab, Nat.mul_mod_left]
theorem g_no (h2 : 2 < p) (hodd : p % 2 = 1) {a : Nat} (ha : a < p) (hz : a ≠ 0) : (p - 1) * a % p ≠ a := fun he => by
  have e2 : (p - 1) * a + a = p * a := by rw [Nat.sub_mul, Nat.one_mul, Nat.sub_add_cancel (Nat.le_mul_of_pos_left a (by omega))]
  have e3 := congrArg (· % p) e2
  simp only [Nat.mul_mod_right] at e3
  rw [Nat.add_mod, he, Nat.mod_eq_of_lt ha] at e3
  by_cases hlt : a + a < p
  · rw [Nat.mod_eq_of_lt hlt] at e3; omega
  · rw [Nat.mod_eq_sub_mod (by omega), Nat.mod_eq_of_lt (by omega)] at e3; omega
theorem g_square (hp : Pr p) (hH : p - 1 = H * 2) {A : Nat} (hz : ¬ p ∣ A) : (A * A % p) ^ H % p = 1 := by
  have hf := fermat hp hz
  rw [← Nat.pow_mod, ← Nat.pow_two, ← Nat.pow_mul, Nat.mul_comm, ← hH]
  exact hf
end
theorem pr_odd : PR % 2 = 1 := by decide +kernel
theorem pr_pos : 2 < PR := by decide +kernel
/-- Half of what is below the prime. -/
def HR : Nat := 57896044618658097711785492504343953926634992332820282019728792003954417335831
theorem pr_half : PR - 1 = HR * 2 := by decide +kernel
theorem qr_half : QR * 2 = HR + 1 := by decide +kernel
theorem hr_odd : HR % 2 = 1 := by decide +kernel
/-- Is A a square? 1 or -1. -/
def sgn (A : Nat) : Nat := veil A (A ^ HR % PR)
theorem sgn_eq (A : Nat) : sgn A = A ^ HR % PR := veil_eq _ _
theorem root2 (A : Nat) : fMul (fpw A QR PR) (fpw A QR PR) PR = sgn A * A % PR := by
  unfold fMul
  rw [fpw_eq, sgn_eq, g_root2 qr_half]
theorem sgn_cases {A : Nat} (hz : rs A 0 PR ≠ 0) : sgn A = 1 ∨ sgn A = PR - 1 := by
  rw [sgn_eq]; exact g_cases pr_prime pr_half (ndvd hz)
theorem turned_eq (A : Nat) : fSub 0 A PR = (PR - A % PR) % PR := by unfold fSub; rw [Nat.zero_mod, Nat.zero_add]
theorem sgn_mod (x : Nat) : sgn (x % PR) = sgn x := by rw [sgn_eq, sgn_eq, ← Nat.pow_mod]
theorem modlt (A : Nat) : A % PR < PR := Nat.mod_lt _ (Nat.lt_trans (by decide) pr_pos)
theorem sgn_turned (A : Nat) : (sgn A + sgn (fSub 0 A PR)) % PR = 0 := by
  rw [turned_eq, sgn_mod, ← sgn_mod A, sgn_eq, sgn_eq]
  exact g_turned hr_odd (Nat.add_sub_cancel' (Nat.le_of_lt (modlt A)))
theorem sgn_lt (A : Nat) : sgn A < PR := by rw [sgn_eq]; exact modlt _
theorem flip1 {p e : Nat} (h2 : 2 < p) (he : e < p) (h : (1 + e) % p = 0) : e = p - 1 := by
  by_cases hlt : 1 + e < p
  · rw [Nat.mod_eq_of_lt hlt] at h; omega
  · omega
theorem flip2 {p e : Nat} (h2 : 2 < p) (he : e < p) (h : (p - 1 + e) % p = 0) : e = 1 := by
  by_cases h0 : e = 0
  · subst h0; rw [Nat.add_zero, Nat.mod_eq_of_lt (by omega)] at h; omega
  · rw [Nat.mod_eq_sub_mod (by omega), Nat.mod_eq_of_lt (by omega)] at h; omega
theorem sgn_flip (A : Nat) : (sgn A = 1 → sgn (fSub 0 A PR) = PR - 1) ∧ (sgn A = PR - 1 → sgn (fSub 0 A PR) = 1) := by
  have h := sgn_turned A
  refine ⟨fun h1 => ?_, fun h1 => ?_⟩
  · rw [h1] at h; exact flip1 pr_pos (sgn_lt _) h
  · rw [h1] at h; exact flip2 pr_pos (sgn_lt _) h
/-- A root is found just if the sign is 1. -/
theorem root_yes {A : Nat} (h : sgn A = 1) : fMul (fpw A QR PR) (fpw A QR PR) PR = rs A 0 PR := by rw [root2, h, Nat.one_mul, rs_zero]
theorem root_no {A : Nat} (hz : rs A 0 PR ≠ 0) (h : sgn A = PR - 1) : fMul (fpw A QR PR) (fpw A QR PR) PR ≠ rs A 0 PR := fun he => by
  rw [root2, h, rs_zero, ← Nat.mul_mod_mod] at he
  rw [rs_zero] at hz
  exact g_no pr_pos pr_odd (modlt A) hz he
theorem root_zero {A : Nat} (hz : rs A 0 PR = 0) : fMul (fpw A QR PR) (fpw A QR PR) PR = rs A 0 PR := by
  rw [root2, hz, Nat.mul_mod]
  rw [rs_zero] at hz
  rw [hz, Nat.mul_zero, Nat.zero_mod]
theorem turned_zero {A : Nat} (hz : rs A 0 PR = 0) : rs (fSub 0 A PR) 0 PR = 0 := by
  rw [rs_zero] at *; rw [turned_eq, hz, Nat.sub_zero, Nat.mod_self, Nat.zero_mod]
theorem turned_nz {A : Nat} (hz : rs A 0 PR ≠ 0) : rs (fSub 0 A PR) 0 PR ≠ 0 := by
  rw [rs_zero] at *
  rw [turned_eq, Nat.mod_mod]
  have ha := modlt A
  rw [Nat.mod_eq_of_lt (by omega)]; omega
/-- A square has a root. -/
theorem root_square (A : Nat) : fMul (fpw (fMul A A PR) QR PR) (fpw (fMul A A PR) QR PR) PR = rs (fMul A A PR) 0 PR := by
  by_cases hz : rs A 0 PR = 0
  · refine root_zero ?_
    rw [rs_zero] at *
    unfold fMul
    rw [Nat.mod_mod, Nat.mul_mod, hz, Nat.mul_zero, Nat.zero_mod]
  · refine root_yes ?_
    rw [sgn_eq]
    exact g_square pr_prime pr_half (ndvd hz)
theorem fpw_ltM (A n : Nat) : fpw A n PR < PR := by rw [fpw_eq]; exact modlt _
theorem rt_square {A : Nat} (hs : fMul (fpw A QR PR) (fpw A QR PR) PR = rs A 0 PR) : fMul (rt A) (rt A) PR = rs A 0 PR := by
  unfold rt
  split
  · rw [← hs]
    have hr := fpw_ltM A QR
    generalize fpw A QR PR = r at *
    rw [turned_eq]
    unfold fMul
    rw [← Nat.mul_mod, Nat.mod_eq_of_lt hr]
    exact (g_sq (Nat.add_sub_cancel' (Nat.le_of_lt hr))).symm
  · exact hs
theorem rt_sq (A : Nat) : fMul (rt (fMul A A PR)) (rt (fMul A A PR)) PR = fMul A A PR := by
  rw [rt_square (root_square A), rs_zero]
  unfold fMul
  exact Nat.mod_mod _ _
theorem rt_even (A : Nat) : rt A % 2 = 0 := by
  unfold rt
  have hr := fpw_ltM A QR
  have ho := pr_odd
  generalize fpw A QR PR = r at *
  have hb : bt r 0 = r.testBit 0 := bt_nat (by decide)
  rw [hb, Nat.testBit_zero]
  by_cases h : r % 2 = 1
  · rw [decide_eq_true h, if_pos rfl, turned_eq, Nat.mod_eq_of_lt hr]
    generalize PR = q at *
    have h5 : (q - r) % q = q - r := Nat.mod_eq_of_lt (by omega)
    rw [h5]
    omega
  · rw [decide_eq_false h, if_neg (by decide)]; omega
theorem w0_even {r : Nat} (h : r % 2 = 0) : bits .and .u64 (w0 r) 1 = 0 := by
  have e := Go.u64_and (w0 r) 1 (wd0 r).1 (wd0 r).2 (by decide) (by decide)
  rw [e]
  have : (w0 r).toNat &&& (1 : Int).toNat = (w0 r).toNat % 2 := Nat.and_two_pow_sub_one_eq_mod (w0 r).toNat 1
  rw [this]
  unfold w0
  omega
end Go.Proofs.Ytljhbhhpfkmemaa
