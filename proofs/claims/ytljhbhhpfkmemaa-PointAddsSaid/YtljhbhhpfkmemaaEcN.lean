/-
  A point added so often; the base's order.
-/
import Derived.Test.YtljhbhhpfkmemaaEcM
import Derived.Test.YtljhbhhpfkmemaaZm
import Derived.Test.YtljhbhhpfkmemaaCerts
import Derived.Test.YtljhbhhpfkmemaaFieldM
namespace Go.Proofs.Ec
open Go.Proofs.Ytljhbhhpfkmemaa Go.Proofs.Zm
set_option linter.unusedVariables false
section
variable {F : Type} [Lean.Grind.Field F] [DecidableEq F]
def mulP (p : Pt F) : Nat → Pt F
  | 0 => .zero
  | n + 1 => (mulP p n).add p
/-- The curve's premises. -/
structure Good (b : F) : Prop where
  two : (2 : F) ≠ 0
  three : (3 : F) ≠ 0
  b : b ≠ 0
variable {b : F} (g : Good b)
include g
theorem mulP_on {p : Pt F} (hp : p.On b) : ∀ n, (mulP p n).On b
  | 0 => trivial
  | n + 1 => add_on g.two (mulP_on hp n) hp
theorem mulP_add {p : Pt F} (hp : p.On b) (m : Nat) : ∀ n, mulP p (m + n) = (mulP p m).add (mulP p n)
  | 0 => (add_zero _).symm
  | n + 1 => by
    show (mulP p (m + n)).add p = (mulP p m).add ((mulP p n).add p)
    rw [mulP_add hp m n, add_assoc' g.two g.three g.b (mulP_on g hp m) (mulP_on g hp n) hp]
theorem mulP_mul {p : Pt F} (hp : p.On b) (m : Nat) : ∀ n, mulP p (m * n) = mulP (mulP p m) n
  | 0 => rfl
  | n + 1 => by show mulP p (m * n + m) = (mulP (mulP p m) n).add (mulP p m); rw [mulP_add g hp, mulP_mul hp m n]
omit g in
theorem mulP_zero : ∀ n, mulP (.zero : Pt F) n = .zero
  | 0 => rfl
  | n + 1 => by show (mulP .zero n).add .zero = _; rw [add_zero, mulP_zero n]
theorem mulP_mod {p : Pt F} (hp : p.On b) {N : Nat} (h : mulP p N = .zero) (k : Nat) : mulP p (k % N) = mulP p k := by
  conv => rhs; rw [← Nat.div_add_mod k N]
  rw [mulP_add g hp, mulP_mul g hp, h, mulP_zero]; rfl
theorem neg_of {p q : Pt F} (hp : p.On b) (hq : q.On b) (h : p.add q = .zero) : q = p.neg := by
  have := neg_add_cancel g.two g.three g.b hp hq
  rw [h, add_zero] at this
  exact this.symm
theorem mulP_neg {p : Pt F} (hp : p.On b) {N : Nat} (h : mulP p N = .zero) {k : Nat} (hk : k ≤ N) : mulP p (N - k) = (mulP p k).neg := by
  refine neg_of g (mulP_on g hp k) (mulP_on g hp _) ?_
  rw [← mulP_add g hp, show k + (N - k) = N by omega, h]
/-- By halves. -/
def bin (p : Pt F) : Nat → Nat → Pt F
  | 0, _ => .zero
  | f + 1, n => bif Nat.beq (n % 2) 1 then ((bin p f (n / 2)).add (bin p f (n / 2))).add p else (bin p f (n / 2)).add (bin p f (n / 2))
theorem bin_eq {p : Pt F} (hp : p.On b) : ∀ f n, n < 2 ^ f → bin p f n = mulP p n
  | 0, n, h => by
    obtain rfl : n = 0 := by omega
    rfl
  | f + 1, n, h => by
    have ih := bin_eq hp f (n / 2) (by rw [Nat.pow_succ] at h; omega)
    unfold bin
    rw [ih, ← mulP_add g hp]
    cases hb : Nat.beq (n % 2) 1
    · have : n % 2 ≠ 1 := fun e => by rw [e] at hb; cases hb
      show mulP p (n / 2 + n / 2) = _
      congr 1; omega
    · have := Nat.eq_of_beq_eq_true hb
      show mulP p (n / 2 + n / 2 + 1) = _
      congr 1; omega
end
/-! ### The curve of the document -/
theorem pr_two : 2 < PR := by decide +kernel
instance : PrM PR := ⟨pr_prime, pr_two⟩
abbrev Fp := Zm PR
/-- A point by two numbers: how it is reckoned. -/
def invN (a : Nat) : Nat := pm a PR 256 (PR - 2)
def subN (a b : Nat) : Nat := (a + (PR - b)) % PR
def slopeN (x1 y1 x2 y2 : Nat) : Nat := bif Nat.beq x1 x2 then ((x1 * x1 % PR + x1 * x1 % PR) % PR + x1 * x1 % PR) % PR * invN ((y1 + y1) % PR) % PR else subN y2 y1 * invN (subN x2 x1) % PR
def thirdN (k x1 x2 : Nat) : Nat := subN (subN (k * k % PR) x1) x2
def addK (k x1 y1 x2 : Nat) (f : Nat → Nat → Option (Nat × Nat)) : Option (Nat × Nat) := f (thirdN k x1 x2) (subN (k * subN x1 (thirdN k x1 x2) % PR) y1)
def addN : Option (Nat × Nat) → Option (Nat × Nat) → Option (Nat × Nat)
  | none, q => q
  | some p, none => some p
  | some (x1, y1), some (x2, y2) => bif Nat.beq x2 x1 && Nat.beq y2 ((PR - y1) % PR) then none else some (thirdN (slopeN x1 y1 x2 y2) x1 x2, subN (slopeN x1 y1 x2 y2 * subN x1 (thirdN (slopeN x1 y1 x2 y2) x1 x2) % PR) y1)
def toP : Option (Nat × Nat) → Pt Fp
  | none => .zero
  | some (x, y) => .pt (mk x) (mk y)
def okN : Option (Nat × Nat) → Prop
  | none => True
  | some (x, y) => x < PR ∧ y < PR
theorem prpos : 0 < PR := Nat.lt_trans (by decide) pr_two
theorem mk_inj {a b : Nat} (ha : a < PR) (hb : b < PR) : (mk a : Fp) = mk b ↔ a = b := by rw [mk_iff, Nat.mod_eq_of_lt ha, Nat.mod_eq_of_lt hb]
theorem mk_subN {a b : Nat} (ha : a < PR) (hb : b < PR) : (mk (subN a b) : Fp) = mk a - mk b := by
  rw [mk_sub, Nat.mod_eq_of_lt ha, Nat.mod_eq_of_lt hb]
  exact mk_eq (Nat.mod_mod _ _)
theorem mk_mod (a : Nat) : (mk (a % PR) : Fp) = mk a := mk_eq (Nat.mod_mod _ _)
theorem mk_negN {a : Nat} (ha : a < PR) : (mk ((PR - a) % PR) : Fp) = -mk a := by
  rw [mk_mod]
  show mk (PR - a) = mk (PR - a % PR)
  rw [Nat.mod_eq_of_lt ha]
theorem pr_256 : PR - 2 < 2 ^ 256 := by decide +kernel
theorem mk_invN (a : Nat) : (mk (invN a) : Fp) = (mk a)⁻¹ := by
  unfold invN
  rw [pm_eq a PR 256 (PR - 2) pr_256, mk_mod, mk_inv]
theorem slopeN_eq {x1 y1 x2 y2 : Nat} (h1 : x1 < PR) (h2 : y1 < PR) (h3 : x2 < PR) (h4 : y2 < PR) : (mk (slopeN x1 y1 x2 y2) : Fp) = slope (mk x1) (mk y1) (mk x2) (mk y2) := by
  unfold slopeN slope
  cases hb : Nat.beq x1 x2
  · have hn : x1 ≠ x2 := fun e => by subst e; rw [Nat.beq_refl] at hb; cases hb
    rw [if_neg (fun q => hn ((mk_inj h1 h3).1 q))]
    show mk (subN y2 y1 * invN (subN x2 x1) % PR) = _
    rw [mk_mod, ← mk_mul, mk_invN, mk_subN h4 h2, mk_subN h3 h1]; rfl
  · have hn := Nat.eq_of_beq_eq_true hb
    rw [if_pos (by rw [hn])]
    show mk (((x1 * x1 % PR + x1 * x1 % PR) % PR + x1 * x1 % PR) % PR * invN ((y1 + y1) % PR) % PR) = _
    rw [mk_mod, ← mk_mul, mk_invN, mk_mod, mk_mod, ← mk_add, ← mk_add, mk_mod, ← mk_add, mk_mod, ← mk_mul]; rfl
theorem subN_lt (a b : Nat) : subN a b < PR := Nat.mod_lt _ prpos
theorem thirdN_lt (k x1 x2 : Nat) : thirdN k x1 x2 < PR := subN_lt _ _
theorem thirdN_eq {k x1 x2 : Nat} (h1 : x1 < PR) (h2 : x2 < PR) : (mk (thirdN k x1 x2) : Fp) = mk k * mk k - mk x1 - mk x2 := by
  unfold thirdN
  rw [mk_subN (subN_lt _ _) h2, mk_subN (Nat.mod_lt _ prpos) h1, mk_mod, ← mk_mul]
theorem addN_ok {p q : Option (Nat × Nat)} (hp : okN p) (hq : okN q) : okN (addN p q) := by
  cases p with
  | none => exact hq
  | some p =>
    cases q with
    | none => exact hp
    | some q =>
      show okN (bif _ then _ else _)
      cases (Nat.beq q.1 p.1 && Nat.beq q.2 ((PR - p.2) % PR))
      · exact ⟨subN_lt _ _, subN_lt _ _⟩
      · trivial
theorem addN_eq {p q : Option (Nat × Nat)} (hp : okN p) (hq : okN q) : toP (addN p q) = (toP p).add (toP q) := by
  cases p with
  | none => rfl
  | some p =>
    cases q with
    | none => rfl
    | some q =>
      obtain ⟨x1, y1⟩ := p
      obtain ⟨x2, y2⟩ := q
      obtain ⟨h1, h2⟩ := hp
      obtain ⟨h3, h4⟩ := hq
      show toP (bif Nat.beq x2 x1 && Nat.beq y2 ((PR - y1) % PR) then none else _) = if mk x2 = mk x1 ∧ mk y2 = -mk y1 then _ else _
      rw [← mk_negN h2]
      have hr : (PR - y1) % PR < PR := Nat.mod_lt _ prpos
      cases hb : (Nat.beq x2 x1 && Nat.beq y2 ((PR - y1) % PR))
      · rw [if_neg]
        · rw [← slopeN_eq h1 h2 h3 h4]
          show Pt.pt (mk (thirdN (slopeN x1 y1 x2 y2) x1 x2)) (mk (subN (slopeN x1 y1 x2 y2 * subN x1 (thirdN (slopeN x1 y1 x2 y2) x1 x2) % PR) y1)) = _
          rw [mk_subN (Nat.mod_lt _ prpos) h2, mk_mod, ← mk_mul, mk_subN h1 (thirdN_lt _ _ _), thirdN_eq h1 h3]
        · rintro ⟨e1, e2⟩
          have e1 := (mk_inj h3 h1).1 e1
          have e2 := (mk_inj h4 hr).1 e2
          rw [← e2, e1, Nat.beq_refl, Nat.beq_refl] at hb
          cases hb
      · rw [Bool.and_eq_true] at hb
        rw [if_pos ⟨by rw [Nat.eq_of_beq_eq_true hb.1], by rw [Nat.eq_of_beq_eq_true hb.2]⟩]; rfl
def gX : Nat := 0x79BE667EF9DCBBAC55A06295CE870B07029BFCDB2DCE28D959F2815B16F81798
def gY : Nat := 0x483ADA7726A3C4655DA4FBFC0E1108A8FD17B448A68554199C47D08FFB10D4B8
def G : Pt Fp := .pt (mk gX) (mk gY)
abbrev seven : Fp := mk 7
theorem good : Good seven := ⟨by decide +kernel, by decide +kernel, by decide +kernel⟩
theorem G_on : G.On seven := by
  show mk gY * mk gY = mk gX * mk gX * mk gX + mk 7
  rw [mk_mul, mk_mul, mk_mul, mk_add]
  exact mk_eq (by decide +kernel)
/-- By halves, from the highest bit on. -/
def binN (p : Option (Nat × Nat)) : Nat → Nat → Option (Nat × Nat)
  | 0, _ => none
  | f + 1, n => (fun d => bif Nat.beq (n % 2) 1 then addN d p else d) ((fun h => addN h h) (binN p f (n / 2)))
theorem binN_ok {p : Option (Nat × Nat)} (hp : okN p) : ∀ f n, okN (binN p f n)
  | 0, _ => trivial
  | f + 1, n => by
    have ih := addN_ok (binN_ok hp f (n / 2)) (binN_ok hp f (n / 2))
    show okN (bif _ then _ else _)
    cases Nat.beq (n % 2) 1
    · exact ih
    · exact addN_ok ih hp
theorem binN_eq {p : Option (Nat × Nat)} (hp : okN p) : ∀ f n, toP (binN p f n) = bin (toP p) f n
  | 0, _ => rfl
  | f + 1, n => by
    have h0 := binN_ok hp f (n / 2)
    have h1 := addN_ok h0 h0
    show toP (bif _ then addN (addN (binN p f (n / 2)) (binN p f (n / 2))) p else _) = bif _ then _ else _
    cases Nat.beq (n % 2) 1
    · show toP (addN _ _) = _; rw [addN_eq h0 h0, binN_eq hp f]; rfl
    · show toP (addN _ _) = _; rw [addN_eq h1 hp, addN_eq h0 h0, binN_eq hp f]; rfl
theorem order0 : binN (some (gX, gY)) 256 NR = none := by kernel_rfl
theorem nr_256 : NR < 2 ^ 256 := by decide +kernel
theorem G_order : mulP G NR = .zero := by
  have hok : okN (some (gX, gY)) := ⟨by decide +kernel, by decide +kernel⟩
  have h := binN_eq hok 256 NR
  rw [order0, bin_eq good (show (toP (some (gX, gY))).On seven from G_on) 256 NR nr_256] at h
  exact h.symm
end Go.Proofs.Ec
