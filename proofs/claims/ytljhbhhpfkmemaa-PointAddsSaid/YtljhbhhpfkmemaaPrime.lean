/-
  Primes, without a library: Fermat's theorem, and Pocklington's test.
-/
import Derived.KernelRfl
namespace Go.Proofs.Ytljhbhhpfkmemaa
set_option linter.unusedVariables false

def Pr (p : Nat) : Prop := 1 < p ∧ ∀ d, d ∣ p → d = 1 ∨ d = p

theorem Pr.coprime {p a : Nat} (hp : Pr p) (h : ¬ p ∣ a) : Nat.Coprime p a := by
  rcases hp.2 (Nat.gcd p a) (Nat.gcd_dvd_left p a) with h1 | h1
  · exact h1
  · exact absurd (h1 ▸ Nat.gcd_dvd_right p a) h
theorem Pr.mul {p a b : Nat} (hp : Pr p) (h : p ∣ a * b) : p ∣ a ∨ p ∣ b := by
  by_cases ha : p ∣ a
  · exact .inl ha
  · exact .inr ((hp.coprime ha).dvd_of_dvd_mul_left h)
theorem Pr.pow {p a : Nat} (hp : Pr p) : ∀ {n : Nat}, p ∣ a ^ n → p ∣ a
  | 0, h => by
    rw [Nat.pow_zero, Nat.dvd_one] at h
    have := hp.1; omega
  | n + 1, h => by
    rw [Nat.pow_succ] at h
    rcases hp.mul h with h | h
    · exact Pr.pow hp h
    · exact h

/-! ### A least divisor -/
theorem least {n : Nat} : ∀ k, (∃ d, 1 < d ∧ d ≤ k ∧ d ∣ n) → ∃ r, 1 < r ∧ r ∣ n ∧ ∀ d, 1 < d → d ∣ n → r ≤ d
  | 0, ⟨d, h1, h2, _⟩ => by omega
  | k + 1, ⟨d, h1, h2, h3⟩ => by
    by_cases h : ∃ d, 1 < d ∧ d ≤ k ∧ d ∣ n
    · exact least k h
    · have hd : d = k + 1 := by
        rcases Nat.lt_or_ge k d with h' | h'
        · omega
        · exact absurd ⟨d, h1, h', h3⟩ h
      refine ⟨d, h1, h3, fun e he hen => ?_⟩
      rcases Nat.lt_or_ge e d with h' | h'
      · exact absurd ⟨e, he, by omega, hen⟩ h
      · exact h'
theorem least_prime {n : Nat} (hn : 1 < n) : ∃ r, Pr r ∧ r ∣ n ∧ ∀ d, 1 < d → d ∣ n → r ≤ d := by
  obtain ⟨r, h1, h2, h3⟩ := least n ⟨n, hn, Nat.le_refl _, Nat.dvd_refl _⟩
  refine ⟨r, ⟨h1, fun d hd => ?_⟩, h2, h3⟩
  have hpos : 0 < d := Nat.pos_of_dvd_of_pos hd (by omega)
  have hle : d ≤ r := Nat.le_of_dvd (by omega) hd
  by_cases h : d = 1
  · exact .inl h
  · exact .inr (Nat.le_antisymm hle (h3 d (by omega) (Nat.dvd_trans hd h2)))
/-- A number without a divisor up to its root is a prime. -/
theorem Pr.of_root {n : Nat} (hn : 1 < n) (h : ∀ r, Pr r → r ∣ n → n < r * r) : Pr n := by
  obtain ⟨r, hr, hrn, hmin⟩ := least_prime hn
  refine ⟨hn, fun d hd => ?_⟩
  by_cases h1 : d = 1
  · exact .inl h1
  by_cases h2 : d = n
  · exact .inr h2
  obtain ⟨e, he⟩ := hd
  have hdpos : 0 < d := Nat.pos_of_ne_zero fun h => by subst h; omega
  have hepos : 0 < e := Nat.pos_of_ne_zero fun h => by subst h; omega
  have he1 : e ≠ 1 := fun h => h2 (by rw [he, h, Nat.mul_one])
  have a := hmin d (by omega) ⟨e, he⟩
  have b := hmin e (by omega) ⟨d, by rw [he, Nat.mul_comm]⟩
  have c := h r hr hrn
  have : r * r ≤ d * e := Nat.mul_le_mul a b
  omega

/-! ### Fermat -/
def prd : List Nat → Nat
  | [] => 1
  | x :: l => x * prd l
def fct : Nat → Nat
  | 0 => 1
  | n + 1 => (n + 1) * fct n
theorem prd_perm {l m : List Nat} (h : l.Perm m) : prd l = prd m := by
  induction h with
  | nil => rfl
  | cons x _ ih => simp only [prd, ih]
  | swap x y l => simp only [prd]; rw [← Nat.mul_assoc, ← Nat.mul_assoc, Nat.mul_comm x y]
  | trans _ _ h1 h2 => exact h1.trans h2
theorem pigeon : ∀ (n : Nat) (l : List Nat), l.Nodup → (∀ x ∈ l, 1 ≤ x ∧ x ≤ n) → l.length ≤ n
  | 0, [], _, _ => Nat.le_refl _
  | 0, x :: l, _, h => by have := h x List.mem_cons_self; omega
  | n + 1, l, hn, h => by
    by_cases hm : n + 1 ∈ l
    · have hl := List.length_erase_of_mem hm
      have := pigeon n (l.erase (n + 1)) (hn.erase _) (fun x hx => by
        have h1 := h x (List.mem_of_mem_erase hx)
        have h2 : x ≠ n + 1 := fun he => (hn.not_mem_erase) (he ▸ hx)
        omega)
      have hpos := List.length_pos_of_mem hm
      omega
    · have := pigeon n l hn (fun x hx => by
        have h1 := h x hx
        have h2 : x ≠ n + 1 := fun he => hm (he ▸ hx)
        omega)
      omega
theorem prd_all : ∀ (n : Nat) (l : List Nat), l.Nodup → (∀ x ∈ l, 1 ≤ x ∧ x ≤ n) → l.length = n → prd l = fct n
  | 0, [], _, _, _ => rfl
  | 0, x :: l, _, _, h => by simp at h
  | n + 1, l, hn, h, hl => by
    by_cases hm : n + 1 ∈ l
    · have hle := List.length_erase_of_mem hm
      have := prd_all n (l.erase (n + 1)) (hn.erase _) (fun x hx => by
        have h1 := h x (List.mem_of_mem_erase hx)
        have h2 : x ≠ n + 1 := fun he => (hn.not_mem_erase) (he ▸ hx)
        omega) (by omega)
      rw [prd_perm (List.perm_cons_erase hm), prd, this, fct]
    · have := pigeon n l hn (fun x hx => by
        have h1 := h x hx
        have h2 : x ≠ n + 1 := fun he => hm (he ▸ hx)
        omega)
      omega
theorem fct_free {r : Nat} (hr : Pr r) : ∀ n, n < r → ¬ r ∣ fct n
  | 0, _, h => by rw [fct, Nat.dvd_one] at h; have := hr.1; omega
  | n + 1, hn, h => by
    rw [fct] at h
    rcases hr.mul h with h | h
    · have := Nat.le_of_dvd (by omega) h; omega
    · exact fct_free hr n (by omega) h
def row (a r : Nat) : Nat → List Nat
  | 0 => []
  | n + 1 => a * (n + 1) % r :: row a r n
theorem row_length (a r : Nat) : ∀ n, (row a r n).length = n
  | 0 => rfl
  | n + 1 => by rw [row, List.length_cons, row_length a r n]
theorem row_mem {a r x : Nat} : ∀ {n}, x ∈ row a r n → ∃ i, 1 ≤ i ∧ i ≤ n ∧ x = a * i % r
  | 0, h => by cases h
  | n + 1, h => by
    rcases List.mem_cons.1 h with h | h
    · exact ⟨n + 1, by omega, by omega, h⟩
    · obtain ⟨i, h1, h2, h3⟩ := row_mem h; exact ⟨i, h1, by omega, h3⟩
theorem mul_mod_inj {r a i j : Nat} (hr : Pr r) (ha : ¬ r ∣ a) (hij : i ≤ j) (hj : j < r) (h : a * i % r = a * j % r) : i = j := by
  have hd : r ∣ a * (j - i) := by
    have : a * j = a * i + a * (j - i) := by rw [← Nat.mul_add]; congr 1; omega
    rw [this] at h
    have h3 := Nat.sub_mod_eq_zero_of_mod_eq h.symm
    rw [Nat.add_sub_cancel_left] at h3
    exact Nat.dvd_of_mod_eq_zero h3
  rcases hr.mul hd with h' | h'
  · exact absurd h' ha
  · by_cases h0 : j - i = 0
    · omega
    · have := Nat.le_of_dvd (by omega) h'; omega
theorem row_nodup {a r : Nat} (hr : Pr r) (ha : ¬ r ∣ a) : ∀ n, n < r → (row a r n).Nodup
  | 0, _ => List.nodup_nil
  | n + 1, hn => by
    rw [row, List.nodup_cons]
    refine ⟨fun h => ?_, row_nodup hr ha n (by omega)⟩
    obtain ⟨i, h1, h2, h3⟩ := row_mem h
    have := mul_mod_inj hr ha (by omega : i ≤ n + 1) hn h3.symm
    omega
theorem row_prd (a r : Nat) : ∀ n, prd (row a r n) % r = a ^ n * fct n % r
  | 0 => rfl
  | n + 1 => by
    rw [row, prd, fct, Nat.mul_mod, Nat.mod_mod, row_prd a r n, ← Nat.mul_mod]
    congr 1
    rw [Nat.pow_succ]
    simp only [Nat.mul_assoc, Nat.mul_comm, Nat.mul_left_comm]
theorem fermat {r a : Nat} (hr : Pr r) (ha : ¬ r ∣ a) : a ^ (r - 1) % r = 1 := by
  have h1 := hr.1
  have hp := prd_all (r - 1) (row a r (r - 1)) (row_nodup hr ha _ (by omega)) (fun x hx => by
    obtain ⟨i, hi1, hi2, hx⟩ := row_mem hx
    have hlt : x < r := by rw [hx]; exact Nat.mod_lt _ (by omega)
    refine ⟨?_, by omega⟩
    rcases Nat.eq_zero_or_pos x with h0 | h0
    · rw [h0] at hx
      have := Nat.dvd_of_mod_eq_zero hx.symm
      rcases hr.mul this with h | h
      · exact absurd h ha
      · have := Nat.le_of_dvd (by omega) h; omega
    · exact h0) (row_length a r _)
  have hq := row_prd a r (r - 1)
  rw [hp] at hq
  have hf := fct_free hr (r - 1) (by omega)
  have hc : fct (r - 1) * 1 % r = fct (r - 1) * (a ^ (r - 1) % r) % r := by
    rw [Nat.mul_one, Nat.mul_mod_mod, hq, Nat.mul_comm]
  exact (mul_mod_inj hr hf (by
    rcases Nat.eq_zero_or_pos (a ^ (r - 1) % r) with h0 | h0
    · exact absurd (hr.pow (Nat.dvd_of_mod_eq_zero h0)) ha
    · exact h0) (Nat.mod_lt _ (by omega)) hc).symm

theorem dvd_pow {a : Nat} : ∀ {n : Nat}, 0 < n → a ∣ a ^ n
  | n + 1, _ => by rw [Nat.pow_succ]; exact Nat.dvd_mul_left a _
/-! ### Orders -/
theorem pow_one {b r m : Nat} (hr : 1 < r) (h : b ^ m % r = 1) (k : Nat) : b ^ (m * k) % r = 1 := by
  rw [Nat.pow_mul, Nat.pow_mod, h, Nat.one_pow, Nat.mod_eq_of_lt hr]
theorem pow_gcd {b r : Nat} (hr : 1 < r) : ∀ (m n : Nat), b ^ m % r = 1 → b ^ n % r = 1 → b ^ (Nat.gcd m n) % r = 1 := by
  intro m n
  induction m, n using Nat.gcd.induction with
  | H0 n => intro _ h; rw [Nat.gcd_zero_left]; exact h
  | H1 m n hm ih =>
    intro h1 h2
    rw [Nat.gcd_rec]
    refine ih ?_ h1
    have : b ^ n = b ^ (m * (n / m)) * b ^ (n % m) := by rw [← Nat.pow_add, Nat.div_add_mod]
    rw [this, Nat.mul_mod, pow_one hr h1, Nat.one_mul, Nat.mod_mod] at h2
    exact h2
/-- Powers modulo N, bit by bit. -/
def pm (a N : Nat) : Nat → Nat → Nat
  | 0, _ => 1 % N
  | f + 1, n => bif Nat.beq (n % 2) 1 then pm a N f (n / 2) * pm a N f (n / 2) % N * a % N else pm a N f (n / 2) * pm a N f (n / 2) % N
theorem pm_eq (a N : Nat) : ∀ f n, n < 2 ^ f → pm a N f n = a ^ n % N
  | 0, n, h => by
    have : n = 0 := by rw [Nat.pow_zero] at h; omega
    subst this; rfl
  | f + 1, n, h => by
    have ih := pm_eq a N f (n / 2) (by rw [Nat.pow_succ] at h; omega)
    rw [pm, ih]
    cases hb : Nat.beq (n % 2) 1 with
    | true =>
      have h1 := Nat.eq_of_beq_eq_true hb
      rw [cond_true, ← Nat.mul_mod, ← Nat.pow_add, Nat.mod_mul_mod, ← Nat.pow_succ]
      congr 2; omega
    | false =>
      have h1 : n % 2 ≠ 1 := fun h => by rw [h] at hb; cases hb
      rw [cond_false, ← Nat.mul_mod, ← Nat.pow_add]
      congr 2; omega
theorem Pock.step {N r q a : Nat} (hN : 1 < N) (hr : Pr r) (hrN : r ∣ N) (hq : Pr q) (hqN : q ∣ N - 1) (h1 : a ^ (N - 1) % N = 1) (h2 : Nat.gcd (a ^ ((N - 1) / q) % N - 1) N = 1) : q ∣ r - 1 := by
  have hmod : ∀ x, x % N = 1 → x % r = 1 := fun x hx => by
    have := Nat.mod_mod_of_dvd x hrN
    rw [hx, Nat.mod_eq_of_lt hr.1] at this; exact this.symm
  have ha : ¬ r ∣ a := fun h => by
    have h3 := hmod _ h1
    have : r ∣ a ^ (N - 1) := Nat.dvd_trans h (dvd_pow (by omega))
    rw [Nat.mod_eq_zero_of_dvd this] at h3; cases h3
  by_cases hd : q ∣ r - 1
  · exact hd
  exfalso
  have hb : (a ^ ((N - 1) / q)) ^ q % r = 1 := by rw [← Nat.pow_mul, Nat.div_mul_cancel hqN]; exact hmod _ h1
  have hf : (a ^ ((N - 1) / q)) ^ (r - 1) % r = 1 := fermat hr (fun h => ha (hr.pow h))
  have hg := pow_gcd hr.1 _ _ hb hf
  rw [hq.coprime hd, Nat.pow_one] at hg
  have hc : (a ^ ((N - 1) / q) % N) % r = 1 := by rw [Nat.mod_mod_of_dvd _ hrN]; exact hg
  have hdv : r ∣ a ^ ((N - 1) / q) % N - 1 := by
    have h3 := Nat.sub_mod_eq_zero_of_mod_eq (hc.trans (Nat.mod_eq_of_lt hr.1).symm)
    exact Nat.dvd_of_mod_eq_zero h3
  have := Nat.dvd_gcd hdv hrN
  rw [h2, Nat.dvd_one] at this
  have := hr.1; omega

/-- What is checked of one prime divisor q of N - 1 with a witness a. -/
def pk (N f : Nat) (q a : Nat) : Bool := Nat.beq ((N - 1) % q) 0 && Nat.beq (pm a N f (N - 1)) 1 && Nat.beq (Nat.gcd (pm a N f ((N - 1) / q) - 1) N) 1
theorem pk_step {N f q a r : Nat} (hN : 1 < N) (hf : N < 2 ^ f) (hq : Pr q) (h : pk N f q a = true) (hr : Pr r) (hrN : r ∣ N) : q ∣ r - 1 := by
  simp only [pk, Bool.and_eq_true] at h
  obtain ⟨⟨h1, h2⟩, h3⟩ := h
  have h2 := Nat.eq_of_beq_eq_true h2
  have h3 := Nat.eq_of_beq_eq_true h3
  rw [pm_eq _ _ _ _ (by omega)] at h2
  rw [pm_eq _ _ _ _ (Nat.lt_of_le_of_lt (Nat.div_le_self _ _) (by omega))] at h3
  exact Pock.step hN hr hrN hq (Nat.dvd_of_mod_eq_zero (Nat.eq_of_beq_eq_true h1)) h2 h3
theorem Pock1 {N f q a : Nat} (hq : Pr q) (hf : Nat.blt N (2 ^ f) = true) (h : pk N f q a = true) (hbig : (Nat.blt 1 N && Nat.blt N (q * q)) = true) : Pr N := by
  simp only [Bool.and_eq_true] at hbig
  have hN : 1 < N := Nat.le_of_ble_eq_true hbig.1
  have hb : N < q * q := Nat.le_of_ble_eq_true hbig.2
  refine Pr.of_root hN fun r hr hrN => ?_
  have := Nat.le_of_dvd (by have := hr.1; omega) (pk_step hN (Nat.le_of_ble_eq_true hf) hq h hr hrN)
  exact Nat.lt_of_lt_of_le hb (Nat.mul_le_mul (by omega) (by omega))
theorem Pock2 {N f q1 a1 q2 a2 : Nat} (hq1 : Pr q1) (hq2 : Pr q2) (hf : Nat.blt N (2 ^ f) = true) (h1 : pk N f q1 a1 = true) (h2 : pk N f q2 a2 = true) (hbig : (Nat.blt 1 N && Nat.blt N (q1 * q2 * (q1 * q2)) && Nat.beq (Nat.gcd q1 q2) 1) = true) : Pr N := by
  simp only [Bool.and_eq_true] at hbig
  have hN : 1 < N := Nat.le_of_ble_eq_true hbig.1.1
  have hb : N < q1 * q2 * (q1 * q2) := Nat.le_of_ble_eq_true hbig.1.2
  have hc : Nat.Coprime q1 q2 := Nat.eq_of_beq_eq_true hbig.2
  refine Pr.of_root hN fun r hr hrN => ?_
  have := Nat.le_of_dvd (by have := hr.1; omega) (hc.mul_dvd_of_dvd_of_dvd (pk_step hN (Nat.le_of_ble_eq_true hf) hq1 h1 hr hrN) (pk_step hN (Nat.le_of_ble_eq_true hf) hq2 h2 hr hrN))
  exact Nat.lt_of_lt_of_le hb (Nat.mul_le_mul (by omega) (by omega))
theorem Pock3 {N f q1 a1 q2 a2 q3 a3 : Nat} (hq1 : Pr q1) (hq2 : Pr q2) (hq3 : Pr q3) (hf : Nat.blt N (2 ^ f) = true) (h1 : pk N f q1 a1 = true) (h2 : pk N f q2 a2 = true) (h3 : pk N f q3 a3 = true) (hbig : (Nat.blt 1 N && Nat.blt N (q1 * q2 * q3 * (q1 * q2 * q3)) && Nat.beq (Nat.gcd q1 q2) 1 && Nat.beq (Nat.gcd (q1 * q2) q3) 1) = true) : Pr N := by
  simp only [Bool.and_eq_true] at hbig
  have hN : 1 < N := Nat.le_of_ble_eq_true hbig.1.1.1
  have hb : N < q1 * q2 * q3 * (q1 * q2 * q3) := Nat.le_of_ble_eq_true hbig.1.1.2
  have hc : Nat.Coprime q1 q2 := Nat.eq_of_beq_eq_true hbig.1.2
  have hc3 : Nat.Coprime (q1 * q2) q3 := Nat.eq_of_beq_eq_true hbig.2
  refine Pr.of_root hN fun r hr hrN => ?_
  have s := fun {q a} hq h => pk_step (q := q) (a := a) hN (Nat.le_of_ble_eq_true hf) hq h hr hrN
  have := Nat.le_of_dvd (by have := hr.1; omega) (hc3.mul_dvd_of_dvd_of_dvd (hc.mul_dvd_of_dvd_of_dvd (s hq1 h1) (s hq2 h2)) (s hq3 h3))
  exact Nat.lt_of_lt_of_le hb (Nat.mul_le_mul (by omega) (by omega))
/-- No number from 2 to n + 1 divides p. -/
def nodivs (p : Nat) : Nat → Bool
  | 0 => true
  | n + 1 => bif Nat.beq (p % (n + 2)) 0 then false else nodivs p n
theorem nodivs_spec {p : Nat} : ∀ {n}, nodivs p n = true → ∀ d, 2 ≤ d → d ≤ n + 1 → ¬ d ∣ p
  | 0, _, d, h1, h2, _ => by omega
  | n + 1, h, d, h1, h2, hd => by
    rw [nodivs] at h
    cases hb : Nat.beq (p % (n + 2)) 0 with
    | true => rw [hb] at h; cases h
    | false =>
      rw [hb, cond_false] at h
      by_cases hdn : d = n + 2
      · subst hdn
        rw [Nat.mod_eq_zero_of_dvd hd] at hb; cases hb
      · exact nodivs_spec h d h1 (by omega) hd
theorem small_prime {p : Nat} (n : Nat) (h : nodivs p n = true) (hb : (Nat.blt 1 p && Nat.blt p ((n + 2) * (n + 2))) = true) : Pr p := by
  simp only [Bool.and_eq_true] at hb
  refine Pr.of_root (Nat.le_of_ble_eq_true hb.1) fun r hr hrp => ?_
  have h2 : p < (n + 2) * (n + 2) := Nat.le_of_ble_eq_true hb.2
  rcases Nat.lt_or_ge r (n + 2) with h' | h'
  · exact absurd hrp (nodivs_spec h r hr.1 (by omega))
  · exact Nat.lt_of_lt_of_le h2 (Nat.mul_le_mul h' h')
end Go.Proofs.Ytljhbhhpfkmemaa
