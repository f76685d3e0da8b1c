/-
  Numbers modulo a prime: what is plain.
-/
import Derived.Test.YtljhbhhpfkmemaaMath
import Derived.Test.YtljhbhhpfkmemaaMul
namespace Go.Proofs.Ytljhbhhpfkmemaa
set_option linter.unusedVariables false
def PR : Nat := 115792089237316195423570985008687907853269984665640564039457584007908834671663
def NR : Nat := 115792089237316195423570985008687907852837564279074904382605163141518161494337
/-- A modulus a little below 2^256. -/
def MOK (M : Nat) : Prop := M < big ∧ big < 2 * M
theorem pr_ok : MOK PR := by unfold MOK PR big; omega
theorem nr_ok : MOK NR := by unfold MOK NR big; omega
/-- What L and 2^256 H leave. -/
def rs (L H M : Nat) : Nat := (L + big * H) % M
theorem rs_lt {L H M : Nat} (h : MOK M) : rs L H M < big := Nat.lt_trans (Nat.mod_lt _ (by unfold MOK big at h; omega)) h.1
theorem rs_ltM {L H M : Nat} (h : MOK M) : rs L H M < M := Nat.mod_lt _ (by unfold MOK big at h; omega)
theorem sm_lt (A B : Nat) : sm A B < big := Nat.mod_lt _ (by decide)
theorem df_lt (A B : Nat) : df A B < big := Nat.mod_lt _ (by decide)
theorem pl_lt (A B : Nat) : pl A B < big := Nat.mod_lt _ (by decide)
theorem ph_lt {A B : Nat} (hA : A < big) (hB : B < big) : ph A B < big := by
  unfold ph
  exact Nat.div_lt_of_lt_mul (Nat.mul_lt_mul'' hA hB)
theorem mul_split (A B : Nat) : A * B = pl A B + big * ph A B := by unfold pl ph; exact (Nat.mod_add_div _ _).symm
/-- One round of the folding. -/
theorem fold_next {l h M : Nat} (hM : MOK M) (hl : l < big) (hh : h < big) (h0 : h ≠ 0) :
    ∃ h', (h' = if ov l (pl h (df 0 M)) then sm (ph h (df 0 M)) 1 else ph h (df 0 M)) ∧ h' < big ∧
      sm l (pl h (df 0 M)) + big * h' + h * M = l + big * h := by
  have hs : df 0 M = big - M := by unfold df; unfold MOK at hM; rw [Nat.zero_add, Nat.mod_eq_of_lt]; omega
  have hk := mul_split h (df 0 M)
  have hph : ph h (df 0 M) + 1 < big := by
    have : ph h (df 0 M) < big - M := by
      rw [hs]; unfold ph
      refine Nat.div_lt_of_lt_mul ?_
      exact Nat.mul_lt_mul_of_pos_right hh (by unfold MOK at hM; omega)
    unfold MOK at hM; omega
  have hp := pl_lt h (df 0 M)
  have hmul : h * (big - M) + h * M = big * h := by rw [← Nat.mul_add, Nat.sub_add_cancel (Nat.le_of_lt hM.1), Nat.mul_comm]
  rw [← hs] at hmul
  refine ⟨_, rfl, ?_, ?_⟩
  · split
    · exact sm_lt _ _
    · omega
  · generalize df 0 M = s at *
    generalize pl h s = p at *
    generalize ph h s = q at *
    generalize h * s = hs2 at *
    unfold ov sm
    by_cases ho : big ≤ l + p
    · rw [decide_eq_true ho]
      simp only [if_true]
      rw [Nat.mod_eq_of_lt hph]
      have : (l + p) % big = l + p - big := by rw [Nat.mod_eq_sub_mod ho, Nat.mod_eq_of_lt (by omega)]
      rw [this, Nat.mul_add, Nat.mul_one]
      omega
    · rw [decide_eq_false ho]
      simp only [Bool.false_eq_true, if_false]
      rw [Nat.mod_eq_of_lt (by omega)]
      omega
theorem fold_mod {l h l' h' M L H : Nat} (he : l' + big * h' + h * M = l + big * h) (hm : (l + big * h) % M = rs L H M) : (l' + big * h') % M = rs L H M := by
  rw [← hm, ← he, Nat.add_mul_mod_self_right]
theorem fold_less {l h l' h' M : Nat} (hM : MOK M) (h0 : h ≠ 0) (he : l' + big * h' + h * M = l + big * h) : l' + big * h' < l + big * h := by
  have : 0 < h * M := Nat.mul_pos (by omega) (by unfold MOK big at hM; omega)
  omega
theorem fold_end1 {l M L H : Nat} (hM : MOK M) (hl : l < big) (hm : (l + big * 0) % M = rs L H M) (hc : M ≤ l) : df l M = rs L H M := by
  rw [← hm]; unfold df MOK at *
  have h1 : (l + big - M) % big = l - M := by
    have : l + big - M = (l - M) + big := by omega
    rw [this, Nat.add_mod_right, Nat.mod_eq_of_lt (by omega)]
  rw [h1, Nat.mul_zero, Nat.add_zero, Nat.mod_eq_sub_mod hc, Nat.mod_eq_of_lt (by omega)]
theorem fold_end2 {l M L H : Nat} (hm : (l + big * 0) % M = rs L H M) (hc : ¬ M ≤ l) : l = rs L H M := by
  rw [← hm, Nat.mul_zero, Nat.add_zero, Nat.mod_eq_of_lt (by omega)]

/-- What is reckoned, modulo M. -/
def fAdd (A B M : Nat) : Nat := (A + B) % M
def fMul (A B M : Nat) : Nat := A * B % M
def fSub (A B M : Nat) : Nat := (A % M + (M - B % M)) % M
def fRed (L H M : Nat) : Nat := rs L H M
theorem fAdd_of {A B M : Nat} (hA : A < big) (hB : B < big) : rs (sm A B) (if ov A B then 1 else 0) M = fAdd A B M := by
  unfold rs fAdd sm ov
  by_cases ho : big ≤ A + B
  · rw [decide_eq_true ho]
    simp only [if_true, Nat.mul_one]
    have : (A + B) % big = A + B - big := by rw [Nat.mod_eq_sub_mod ho, Nat.mod_eq_of_lt (by omega)]
    rw [this, Nat.sub_add_cancel ho]
  · rw [decide_eq_false ho]
    simp only [Bool.false_eq_true, if_false, Nat.mul_zero, Nat.add_zero]
    rw [Nat.mod_eq_of_lt (show A + B < big by omega)]
theorem fMul_of (A B M : Nat) : rs (pl A B) (ph A B) M = fMul A B M := by unfold rs fMul; rw [← mul_split]
theorem fSub_of1 {A B M : Nat} (hM : MOK M) (h : lo (rs A 0 M) (rs B 0 M) = true) : sm (df (rs A 0 M) (rs B 0 M)) M = fSub A B M := by
  have ha := rs_ltM (L := A) (H := 0) hM
  have hb := rs_ltM (L := B) (H := 0) hM
  unfold lo at h
  have h := of_decide_eq_true h
  have e1 : rs A 0 M = A % M := by unfold rs; rw [Nat.mul_zero, Nat.add_zero]
  have e2 : rs B 0 M = B % M := by unfold rs; rw [Nat.mul_zero, Nat.add_zero]
  rw [e1] at ha h ⊢; rw [e2] at hb h ⊢
  unfold fSub sm df
  unfold MOK at hM
  rw [Nat.mod_eq_of_lt (show A % M + big - B % M < big by omega)]
  have : A % M + big - B % M + M = (A % M + (M - B % M)) + big := by omega
  rw [this, Nat.add_mod_right, Nat.mod_eq_of_lt (show A % M + (M - B % M) < big by omega), Nat.mod_eq_of_lt (show A % M + (M - B % M) < M by omega)]
theorem fSub_of2 {A B M : Nat} (hM : MOK M) (h : lo (rs A 0 M) (rs B 0 M) = false) : df (rs A 0 M) (rs B 0 M) = fSub A B M := by
  have ha := rs_ltM (L := A) (H := 0) hM
  have hb := rs_ltM (L := B) (H := 0) hM
  unfold lo at h
  have h := of_decide_eq_false h
  have e1 : rs A 0 M = A % M := by unfold rs; rw [Nat.mul_zero, Nat.add_zero]
  have e2 : rs B 0 M = B % M := by unfold rs; rw [Nat.mul_zero, Nat.add_zero]
  rw [e1] at ha h ⊢; rw [e2] at hb h ⊢
  unfold fSub df
  unfold MOK at hM
  have t1 : A % M + big - B % M = (A % M - B % M) + big := by omega
  have t2 : A % M + (M - B % M) = (A % M - B % M) + M := by omega
  rw [t1, t2, Nat.add_mod_right, Nat.add_mod_right, Nat.mod_eq_of_lt (show A % M - B % M < big by omega), Nat.mod_eq_of_lt (show A % M - B % M < M by omega)]
theorem fAdd_lt {A B M : Nat} (h : MOK M) : fAdd A B M < big := Nat.lt_trans (Nat.mod_lt _ (by unfold MOK big at h; omega)) h.1
theorem fMul_lt {A B M : Nat} (h : MOK M) : fMul A B M < big := Nat.lt_trans (Nat.mod_lt _ (by unfold MOK big at h; omega)) h.1
theorem fSub_lt {A B M : Nat} (h : MOK M) : fSub A B M < big := Nat.lt_trans (Nat.mod_lt _ (by unfold MOK big at h; omega)) h.1
/-- x, behind a test that no one can reckon while A is a letter. -/
def veil (A x : Nat) : Nat := bif Nat.beq A A then x else 0
theorem veil_eq (A x : Nat) : veil A x = x := by unfold veil; rw [Nat.beq_refl]; rfl
/-- A power. -/
def fpw (A n M : Nat) : Nat := veil A (A ^ n % M)
theorem fpw_eq (A n M : Nat) : fpw A n M = A ^ n % M := veil_eq _ _
theorem fpw_lt {A n M : Nat} (h : MOK M) : fpw A n M < big := by rw [fpw_eq]; exact Nat.lt_trans (Nat.mod_lt _ (by unfold MOK big at h; omega)) h.1
theorem fpw_zero {A M : Nat} (h : MOK M) : fpw A 0 M = 1 := by rw [fpw_eq, Nat.pow_zero, Nat.mod_eq_of_lt (by unfold MOK big at h; omega)]
theorem fpw_start {A n l M : Nat} (h : MOK M) (hl : n < 2 ^ l) : 1 = fpw A (n / 2 ^ l) M := by rw [Nat.div_eq_of_lt hl, fpw_zero h]
theorem rs_mul (X Y M : Nat) : rs (pl X Y) (ph X Y) M = X * Y % M := fMul_of X Y M
theorem half_bit (n k : Nat) (hk : 1 ≤ k) : n / 2 ^ (k - 1) = 2 * (n / 2 ^ k) + (if n.testBit (k - 1) then 1 else 0) := by
  obtain ⟨j, rfl⟩ : ∃ j, k = j + 1 := ⟨k - 1, by omega⟩
  rw [Nat.add_sub_cancel, Nat.pow_succ, ← Nat.div_div_eq_div_mul, Nat.testBit_eq_decide_div_mod_eq]
  generalize n / 2 ^ j = q
  by_cases h : q % 2 = 1
  · rw [decide_eq_true h]; simp only [if_true]; omega
  · rw [decide_eq_false h]; simp only [Bool.false_eq_true, if_false]; omega
theorem fpw_double {A n k M : Nat} (hk : 1 ≤ k) (hb : n.testBit (k - 1) = false) : rs (pl (fpw A (n / 2 ^ k) M) (fpw A (n / 2 ^ k) M)) (ph (fpw A (n / 2 ^ k) M) (fpw A (n / 2 ^ k) M)) M = fpw A (n / 2 ^ (k - 1)) M := by
  rw [rs_mul, half_bit n k hk, hb]
  simp only [fpw_eq]
  simp only [Bool.false_eq_true, if_false, Nat.add_zero]
  rw [← Nat.mul_mod, ← Nat.pow_add, show n / 2 ^ k + n / 2 ^ k = 2 * (n / 2 ^ k) by omega]
theorem fpw_odd {A n k M : Nat} (hk : 1 ≤ k) (hb : n.testBit (k - 1) = true) :
    rs (pl (rs (pl (fpw A (n / 2 ^ k) M) (fpw A (n / 2 ^ k) M)) (ph (fpw A (n / 2 ^ k) M) (fpw A (n / 2 ^ k) M)) M) A) (ph (rs (pl (fpw A (n / 2 ^ k) M) (fpw A (n / 2 ^ k) M)) (ph (fpw A (n / 2 ^ k) M) (fpw A (n / 2 ^ k) M)) M) A) M = fpw A (n / 2 ^ (k - 1)) M := by
  rw [rs_mul, rs_mul, half_bit n k hk, hb]
  simp only [fpw_eq]
  simp only [if_true]
  rw [← Nat.mul_mod, ← Nat.pow_add, show n / 2 ^ k + n / 2 ^ k = 2 * (n / 2 ^ k) by omega, Nat.pow_succ, Nat.mul_mod, Nat.mod_mod, ← Nat.mul_mod]
end Go.Proofs.Ytljhbhhpfkmemaa
