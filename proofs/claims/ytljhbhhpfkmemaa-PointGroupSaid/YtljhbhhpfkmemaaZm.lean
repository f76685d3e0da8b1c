/-
  Numbers modulo a prime, as a field.
-/
import Derived.Test.YtljhbhhpfkmemaaPrime
namespace Go.Proofs.Zm
open Go.Proofs.Ytljhbhhpfkmemaa
set_option linter.unusedVariables false
class PrM (M : Nat) : Prop where
  pr : Pr M
  two : 2 < M
structure Zm (M : Nat) where
  v : Nat
  lt : v < M
theorem Zm.ext {M : Nat} {a b : Zm M} (h : a.v = b.v) : a = b := by cases a; cases b; cases h; rfl
section
variable {M : Nat} [hM : PrM M]
theorem pos : 0 < M := Nat.lt_trans (by decide) (hM.pr).1
def mk (n : Nat) : Zm M := ⟨n % M, Nat.mod_lt _ pos⟩
theorem mk_v (a : Zm M) : mk a.v = a := Zm.ext (Nat.mod_eq_of_lt a.lt)
theorem mk_eq {m n : Nat} (h : m % M = n % M) : (mk m : Zm M) = mk n := Zm.ext h
theorem mk_iff {m n : Nat} : (mk m : Zm M) = mk n ↔ m % M = n % M := ⟨fun h => congrArg Zm.v h, mk_eq⟩
instance : DecidableEq (Zm M) := fun a b => if h : a.v = b.v then .isTrue (Zm.ext h) else .isFalse fun e => h (congrArg Zm.v e)
instance iAdd : Add (Zm M) := ⟨fun a b => mk (a.v + b.v)⟩
instance iMul : Mul (Zm M) := ⟨fun a b => mk (a.v * b.v)⟩
instance iNeg : Neg (Zm M) := ⟨fun a => mk (M - a.v)⟩
instance iSub : Sub (Zm M) := ⟨fun a b => mk (a.v + (M - b.v))⟩
instance iInv : Inv (Zm M) := ⟨fun a => mk (a.v ^ (M - 2))⟩
theorem mk_add (a b : Nat) : (mk a : Zm M) + mk b = mk (a + b) := Zm.ext (by show (a % M + b % M) % M = (a + b) % M; rw [← Nat.add_mod])
theorem mk_mul (a b : Nat) : (mk a : Zm M) * mk b = mk (a * b) := Zm.ext (by show (a % M * (b % M)) % M = (a * b) % M; rw [← Nat.mul_mod])
theorem rep (a : Zm M) : ∃ n, a = mk n := ⟨a.v, (mk_v a).symm⟩
def npow (a : Zm M) : Nat → Zm M
  | 0 => mk 1
  | n + 1 => npow a n * a
theorem mk_pow (a : Nat) : ∀ n, npow (mk a : Zm M) n = mk (a ^ n)
  | 0 => rfl
  | n + 1 => by show npow (mk a) n * mk a = _; rw [mk_pow a n, mk_mul, Nat.pow_succ]
theorem inv_of {a : Zm M} (h : a ≠ mk 0) : a * a⁻¹ = mk 1 := by
  obtain ⟨n, rfl⟩ := rep a
  have hd : ¬ M ∣ n := fun q => h (mk_eq (by rw [Nat.mod_eq_zero_of_dvd q, Nat.zero_mod]))
  have h1 := (hM.pr).1
  show mk n * mk ((n % M) ^ (M - 2)) = _
  rw [mk_mul]
  apply mk_eq
  rw [Nat.mul_mod, ← Nat.pow_mod, ← Nat.mul_mod, show n * n ^ (M - 2) = n ^ (M - 1) by rw [Nat.mul_comm, ← Nat.pow_succ]; congr 1; omega, fermat hM.pr hd, Nat.mod_eq_of_lt h1]
theorem neg_cancel (a : Zm M) : -a + a = mk 0 := by
  show mk (M - a.v) + a = _
  have e : a = mk a.v := (mk_v a).symm
  conv => lhs; rhs; rw [e]
  rw [mk_add]
  apply mk_eq
  have := a.lt
  rw [show M - a.v + a.v = M by omega, Nat.mod_self, Nat.zero_mod]
theorem a_zero (a : Zm M) : a + mk 0 = a := by obtain ⟨n, rfl⟩ := rep a; rw [mk_add]; rfl
theorem a_comm (a b : Zm M) : a + b = b + a := by obtain ⟨n, rfl⟩ := rep a; obtain ⟨m, rfl⟩ := rep b; rw [mk_add, mk_add, Nat.add_comm]
theorem a_assoc (a b c : Zm M) : a + b + c = a + (b + c) := by obtain ⟨n, rfl⟩ := rep a; obtain ⟨m, rfl⟩ := rep b; obtain ⟨k, rfl⟩ := rep c; rw [mk_add, mk_add, mk_add, mk_add, Nat.add_assoc]
theorem m_comm (a b : Zm M) : a * b = b * a := by obtain ⟨n, rfl⟩ := rep a; obtain ⟨m, rfl⟩ := rep b; rw [mk_mul, mk_mul, Nat.mul_comm]
theorem m_assoc (a b c : Zm M) : a * b * c = a * (b * c) := by obtain ⟨n, rfl⟩ := rep a; obtain ⟨m, rfl⟩ := rep b; obtain ⟨k, rfl⟩ := rep c; rw [mk_mul, mk_mul, mk_mul, mk_mul, Nat.mul_assoc]
theorem m_one (a : Zm M) : a * mk 1 = a := by obtain ⟨n, rfl⟩ := rep a; rw [mk_mul, Nat.mul_one]
theorem m_zero (a : Zm M) : mk 0 * a = mk 0 := by obtain ⟨n, rfl⟩ := rep a; rw [mk_mul, Nat.zero_mul]
theorem dist (a b c : Zm M) : a * (b + c) = a * b + a * c := by obtain ⟨n, rfl⟩ := rep a; obtain ⟨m, rfl⟩ := rep b; obtain ⟨k, rfl⟩ := rep c; rw [mk_add, mk_mul, mk_mul, mk_mul, mk_add, Nat.mul_add]
theorem sub_neg (a b : Zm M) : a - b = a + -b := by
  show mk (a.v + (M - b.v)) = a + mk (M - b.v)
  have e : a = mk a.v := (mk_v a).symm
  conv => rhs; lhs; rw [e]
  rw [mk_add]
theorem one_ne : (mk 0 : Zm M) ≠ mk 1 := fun h => by
  have := mk_iff.1 h
  have h1 := (hM.pr).1
  rw [Nat.zero_mod, Nat.mod_eq_of_lt h1] at this
  cases this
theorem neg_uniq {a b : Zm M} (h : b + a = mk 0) : b = -a := by
  have : b + a + -a = mk 0 + -a := by rw [h]
  rw [a_assoc, a_comm a, neg_cancel, a_zero, a_comm, a_zero] at this
  exact this
theorem neg_neg' (a : Zm M) : - -a = a := (neg_uniq (by rw [a_comm]; exact neg_cancel a)).symm
theorem neg_zero' : -(mk 0 : Zm M) = mk 0 := (neg_uniq (a_zero _)).symm
theorem neg_mul' (a b : Zm M) : -a * b = -(a * b) := neg_uniq (by rw [m_comm, m_comm a, ← dist, neg_cancel, m_comm, m_zero])
def icast : Int → Zm M
  | .ofNat n => mk n
  | .negSucc n => -mk (n + 1)
theorem icast_neg : ∀ i : Int, icast (-i) = -(icast i : Zm M)
  | .ofNat 0 => neg_zero'.symm
  | .ofNat (n + 1) => rfl
  | .negSucc n => (neg_neg' _).symm
theorem inv_zero' : (mk 0 : Zm M)⁻¹ = mk 0 := by
  show mk ((0 % M) ^ (M - 2)) = _
  have h := hM.two
  rw [Nat.zero_mod, Nat.zero_pow (by omega)]
theorem mul_zero_iff {a b : Zm M} (h : a * b = mk 0) (ha : a ≠ mk 0) : b = mk 0 := by
  have : a⁻¹ * (a * b) = a⁻¹ * mk 0 := by rw [h]
  rw [← m_assoc, m_comm a⁻¹ a, inv_of ha, m_comm, m_one, m_comm, m_zero] at this
  exact this
theorem inv_inv' (a : Zm M) : a⁻¹⁻¹ = a := by
  by_cases h : a = mk 0
  · rw [h, inv_zero', inv_zero']
  · have h1 := inv_of h
    have h2 : a⁻¹ ≠ mk 0 := fun q => by rw [q, m_comm, m_zero] at h1; exact one_ne h1
    have h3 := inv_of h2
    have : a * (a⁻¹ * a⁻¹⁻¹) = a * mk 1 := by rw [h3]
    rw [← m_assoc, h1, m_one, m_comm, m_one] at this
    exact this
def zpow (a : Zm M) : Int → Zm M
  | .ofNat n => npow a n
  | .negSucc n => (npow a (n + 1))⁻¹
theorem one_inv : (mk 1 : Zm M)⁻¹ = mk 1 := by
  have h := inv_of (a := (mk 1 : Zm M)) (fun q => one_ne q.symm)
  rw [m_comm, m_one] at h; exact h
theorem zpow_neg' (a : Zm M) : ∀ i : Int, zpow a (-i) = (zpow a i)⁻¹
  | .ofNat 0 => one_inv.symm
  | .ofNat (n + 1) => rfl
  | .negSucc n => (inv_inv' _).symm
instance iField : Lean.Grind.Field (Zm M) where
  natCast := ⟨fun n => mk n⟩
  ofNat n := ⟨mk n⟩
  nsmul := ⟨fun n a => mk n * a⟩
  npow := ⟨fun a n => npow a n⟩
  add_zero := a_zero
  add_comm := a_comm
  add_assoc := a_assoc
  mul_assoc := m_assoc
  mul_one := m_one
  one_mul a := by rw [m_comm]; exact m_one a
  left_distrib := dist
  right_distrib a b c := by rw [m_comm, dist, m_comm c, m_comm c]
  zero_mul := m_zero
  mul_zero a := by rw [m_comm]; exact m_zero a
  pow_zero _ := rfl
  pow_succ _ _ := rfl
  ofNat_succ n := (mk_add n 1).symm
  ofNat_eq_natCast _ := rfl
  nsmul_eq_natCast_mul _ _ := rfl
  intCast := ⟨icast⟩
  zsmul := ⟨fun i a => icast i * a⟩
  neg_add_cancel := neg_cancel
  sub_eq_add_neg := sub_neg
  neg_zsmul i a := by show icast (-i) * a = -(icast i * a); rw [icast_neg, neg_mul']
  zsmul_natCast_eq_nsmul _ _ := rfl
  intCast_ofNat _ := rfl
  intCast_neg := icast_neg
  mul_comm := m_comm
  div a b := a * b⁻¹
  zpow := ⟨zpow⟩
  div_eq_mul_inv _ _ := rfl
  zero_ne_one := one_ne
  inv_zero := inv_zero'
  mul_inv_cancel h := inv_of h
  zpow_zero _ := rfl
  zpow_succ _ _ := rfl
  zpow_neg := zpow_neg'
/-- What the program's formulas are. -/
theorem mk_sub (a b : Nat) : (mk a : Zm M) - mk b = mk (a % M + (M - b % M)) := rfl
theorem mk_inv (a : Nat) : (mk a : Zm M)⁻¹ = mk (a ^ (M - 2)) := by show mk ((a % M) ^ (M - 2)) = _; exact mk_eq (Nat.pow_mod a (M - 2) M).symm
theorem mk_num (n : Nat) : (OfNat.ofNat n : Zm M) = mk n := rfl
example (a b : Zm M) : (a + b) * (a - b) = a * a - b * b := by grind
end
end Go.Proofs.Zm
