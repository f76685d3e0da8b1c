/-
  Records in frames: the sum's mathematics.
-/
import Derived.Test.YthipcmpmfjeakaaArr
namespace Go.Proofs.Crc
open Go Go.Proofs.Ythipcmpmfjeakaa
set_option linter.unusedVariables false
abbrev W := BitVec 32
def nth (s : List W) (i : Nat) : W := s.getD i 0
def fix (n : Nat) (f : Nat → W) : List W := (List.range n).map f
theorem nth_fix {n : Nat} {f : Nat → W} (j : Nat) : nth (fix n f) j = if j < n then f j else 0 := by
  unfold nth fix
  rw [List.getD_eq_getElem?_getD, List.getElem?_map]
  by_cases h : j < n
  · simp [h]
  · simp [h, List.getElem?_eq_none (show (List.range n).length ≤ j by simp; omega)]
def poly : W := 3988292384
def mv (x : W) : W := if x &&& 1 = 0 then x >>> 1 else x >>> 1 ^^^ poly
def mvk : Nat → W → W
  | 0, x => x
  | k + 1, x => mv (mvk k x)
theorem mv_low (x : W) : mv x = if x.getLsbD 0 = false then x >>> 1 else x >>> 1 ^^^ poly := by
  unfold mv
  have e : (x &&& 1 = 0) ↔ x.getLsbD 0 = false := by
    constructor
    · intro h
      have := congrArg (fun y => BitVec.getLsbD y 0) h
      simpa using this
    · intro h
      apply BitVec.eq_of_getLsbD_eq
      intro i hi
      by_cases h0 : i = 0
      · subst h0; rw [BitVec.getLsbD_and, h]; simp
      · simp [h0, BitVec.getLsbD_one]
  by_cases h : x.getLsbD 0 = false
  · rw [if_pos (e.2 h), if_pos h]
  · rw [if_neg (fun q => h (e.1 q)), if_neg h]
theorem mv_xor (x y : W) : mv (x ^^^ y) = mv x ^^^ mv y := by
  rw [mv_low, mv_low, mv_low, BitVec.getLsbD_xor]
  have e : (x ^^^ y) >>> 1 = x >>> 1 ^^^ y >>> 1 := BitVec.ushiftRight_xor_distrib ..
  have c : ∀ a b c : W, a ^^^ (b ^^^ c) = b ^^^ (a ^^^ c) := fun a b c => by rw [← BitVec.xor_assoc, BitVec.xor_comm a b, BitVec.xor_assoc]
  rw [e]
  cases x.getLsbD 0 <;> cases y.getLsbD 0
  · rfl
  · show x >>> 1 ^^^ y >>> 1 ^^^ poly = x >>> 1 ^^^ (y >>> 1 ^^^ poly)
    rw [BitVec.xor_assoc]
  · show x >>> 1 ^^^ y >>> 1 ^^^ poly = (x >>> 1 ^^^ poly) ^^^ y >>> 1
    rw [BitVec.xor_assoc, BitVec.xor_assoc, BitVec.xor_comm poly]
  · show x >>> 1 ^^^ y >>> 1 = (x >>> 1 ^^^ poly) ^^^ (y >>> 1 ^^^ poly)
    rw [BitVec.xor_assoc, c poly, BitVec.xor_self, BitVec.xor_zero]
theorem mvk_xor (x y : W) : ∀ k, mvk k (x ^^^ y) = mvk k x ^^^ mvk k y
  | 0 => rfl
  | k + 1 => by show mv (mvk k (x ^^^ y)) = _; rw [mvk_xor x y k, mv_xor]; rfl
theorem mvk_zero : ∀ k, mvk k 0 = 0
  | 0 => rfl
  | k + 1 => by show mv (mvk k 0) = 0; rw [mvk_zero k]; rfl
theorem mvk_add (j : Nat) (x : W) : ∀ k, mvk (j + k) x = mvk k (mvk j x)
  | 0 => rfl
  | k + 1 => by show mv (mvk (j + k) x) = _; rw [mvk_add j x k]; rfl
theorem mv_inj (x : W) (h : mv x = 0) : x = 0 := by
  rw [mv_low] at h
  by_cases h0 : x.getLsbD 0 = false
  · rw [if_pos h0] at h
    apply BitVec.eq_of_getLsbD_eq
    intro i hi
    cases i with
    | zero => rw [h0]; simp
    | succ i =>
      have := congrArg (fun y => BitVec.getLsbD y i) h
      simp only [BitVec.getLsbD_ushiftRight] at this
      rw [Nat.add_comm] at this
      rw [this]; simp
  · rw [if_neg h0] at h
    have := congrArg (fun y => BitVec.getLsbD y 31) h
    simp only [BitVec.getLsbD_xor, BitVec.getLsbD_ushiftRight] at this
    rw [BitVec.getLsbD_of_ge x (1 + 31) (by omega), show poly.getLsbD 31 = true from rfl] at this
    simp at this
theorem mvk_inj : ∀ (k : Nat) (x : W), mvk k x = 0 → x = 0
  | 0, _, h => h
  | k + 1, x, h => mvk_inj k x (mv_inj _ h)
/-- A register's word below 2^(32-k) comes down unturned. -/
theorem mvk_shl (z : W) : ∀ k, (∀ i, 32 - k ≤ i → z.getLsbD i = false) → mvk k (z <<< k) = z
  | 0, _ => by show z <<< 0 = z; exact BitVec.shiftLeft_zero z
  | k + 1, h => by
    have e : mv (z <<< (k + 1)) = z <<< k := by
      rw [mv_low, if_pos (by simp)]
      apply BitVec.eq_of_getLsbD_eq
      intro i hi
      simp only [BitVec.getLsbD_ushiftRight, BitVec.getLsbD_shiftLeft]
      by_cases hik : i < k
      · simp [hik, show 1 + i < k + 1 by omega]
      · by_cases h31 : 1 + i < 32
        · simp [hik, h31, hi, show ¬ 1 + i < k + 1 by omega, show 1 + i - (k + 1) = i - k by omega]
        · have : z.getLsbD (i - k) = false := h (i - k) (by omega)
          simp [hik, h31, hi, show ¬ 1 + i < k + 1 by omega, this]
    have e2 : mvk (k + 1) (z <<< (k + 1)) = mvk k (mv (z <<< (k + 1))) := by rw [Nat.add_comm]; exact mvk_add 1 _ k
    rw [e2, e]
    exact mvk_shl z k (fun i hi => h i (by omega))
def u32 (b : UInt8) : W := BitVec.ofNat 32 b.toNat
theorem u32_high (b : UInt8) (i : Nat) (h : 8 ≤ i) : (u32 b).getLsbD i = false := by
  unfold u32
  rw [BitVec.getLsbD_ofNat, Nat.testBit_lt_two_pow (Nat.lt_of_lt_of_le (UInt8.toNat_lt b) (show 2 ^ 8 ≤ 2 ^ i from Nat.pow_le_pow_right (by omega) h))]
  simp
/-- One byte. -/
def bst (r : W) (b : UInt8) : W := mvk 8 (r ^^^ u32 b)
def reg (r : W) (l : List UInt8) : W := l.foldl bst r
def rg0 : W := 4294967295
def crc (l : List UInt8) : W := ~~~ reg rg0 l
theorem reg_append (r : W) (a b : List UInt8) : reg r (a ++ b) = reg (reg r a) b := by unfold reg; rw [List.foldl_append]
theorem reg_take (r : W) (l : List UInt8) (k : Nat) (h : k < l.length) : reg r (l.take (k + 1)) = bst (reg r (l.take k)) (l.getD k 0) := by
  rw [List.take_add_one, List.getElem?_eq_getElem h, Option.toList_some, reg_append, List.getD_eq_getElem?_getD, List.getElem?_eq_getElem h]; rfl
/-- What eight bits become, by the table. -/
theorem split8 (x : W) : mvk 8 x = x >>> 8 ^^^ mvk 8 (x &&& 255) := by
  have e : x = ((x >>> 8) <<< 8) ^^^ (x &&& 255) := by
    apply BitVec.eq_of_getLsbD_eq
    intro i hi
    rw [BitVec.getLsbD_xor, BitVec.getLsbD_shiftLeft, BitVec.getLsbD_ushiftRight, BitVec.getLsbD_and]
    have e255 : (255 : W).getLsbD i = decide (i < 8) := by
      rw [show (255 : W) = BitVec.ofNat 32 (2 ^ 8 - 1) from rfl, BitVec.getLsbD_ofNat, Nat.testBit_two_pow_sub_one]; simp [hi]
    rw [e255]
    by_cases h : i < 8
    · simp [h]
    · simp [h, hi, show 8 + (i - 8) = i by omega]
  conv => lhs; rw [e]
  rw [mvk_xor, mvk_shl (x >>> 8) 8 (fun i hi => by rw [BitVec.getLsbD_ushiftRight]; exact BitVec.getLsbD_of_ge _ _ (by omega))]
theorem byte_and (r : W) (b : UInt8) : (r ^^^ u32 b) &&& 255 = BitVec.ofNat 32 ((BitVec.setWidth 8 r) ^^^ b.toBitVec).toNat := by
  apply BitVec.eq_of_getLsbD_eq
  intro i hi
  have e255 : (255 : W).getLsbD i = decide (i < 8) := by
    rw [show (255 : W) = BitVec.ofNat 32 (2 ^ 8 - 1) from rfl, BitVec.getLsbD_ofNat, Nat.testBit_two_pow_sub_one]; simp [hi]
  rw [BitVec.getLsbD_and, e255, BitVec.getLsbD_xor]
  have eR : (BitVec.ofNat 32 ((BitVec.setWidth 8 r) ^^^ b.toBitVec).toNat).getLsbD i = ((BitVec.setWidth 8 r) ^^^ b.toBitVec).getLsbD i := by
    rw [BitVec.getLsbD_ofNat]; simp only [hi, decide_true, Bool.true_and]; rfl
  have eb : (u32 b).getLsbD i = b.toBitVec.getLsbD i := by
    unfold u32; rw [BitVec.getLsbD_ofNat]; simp only [hi, decide_true, Bool.true_and]; rfl
  rw [eR, eb, BitVec.getLsbD_xor, BitVec.getLsbD_setWidth]
  by_cases h : i < 8
  · simp [h]
  · simp [h, BitVec.getLsbD_of_ge b.toBitVec i (by omega)]
theorem bst_tab (r : W) (b : UInt8) : bst r b = r >>> 8 ^^^ mvk 8 (BitVec.ofNat 32 ((BitVec.setWidth 8 r) ^^^ b.toBitVec).toNat) := by
  unfold bst
  rw [split8, byte_and]
  have : (r ^^^ u32 b) >>> 8 = r >>> 8 := by
    rw [BitVec.ushiftRight_xor_distrib]
    have : u32 b >>> 8 = 0 := by
      apply BitVec.eq_of_getLsbD_eq
      intro i hi
      rw [BitVec.getLsbD_ushiftRight, u32_high b _ (by omega)]; simp
    rw [this]; exact BitVec.xor_zero
  rw [this]
def tabL : List W := fix 256 fun j => mvk 8 (BitVec.ofNat 32 j)
theorem bst_nth (r : W) (b : UInt8) : r >>> 8 ^^^ nth tabL ((BitVec.setWidth 8 r) ^^^ b.toBitVec).toNat = bst r b := by
  rw [bst_tab]
  unfold tabL
  rw [nth_fix, if_pos (by have := ((BitVec.setWidth 8 r) ^^^ b.toBitVec).isLt; omega)]
/-- The table as it is made: what is behind 'above' is told anew. -/
def tb (bit a : Nat) : List W := fix 256 fun j => if j % (2 * bit) = 0 ∨ (j % bit = 0 ∧ j < 2 * bit * a) then mvk 8 (BitVec.ofNat 32 j) else 0
theorem tb_go {bit a : Nat} {r : W} (hb : bit = 1 ∨ bit = 2 ∨ bit = 4 ∨ bit = 8 ∨ bit = 16 ∨ bit = 32 ∨ bit = 64 ∨ bit = 128) (ha : 2 * bit * a < 256)
    (hr : mvk 8 (BitVec.ofNat 32 (2 * bit * a + bit)) = mvk 8 (BitVec.ofNat 32 (2 * bit * a)) ^^^ r) (j : Nat) (hj : j < 256) :
    nth (tb bit (a + 1)) j = if j = 2 * bit * a + bit then nth (tb bit a) (2 * bit * a) ^^^ r else nth (tb bit a) j := by
  unfold tb
  rw [nth_fix, nth_fix, nth_fix, if_pos hj, if_pos hj, if_pos ha]
  by_cases e : j = 2 * bit * a + bit
  · have c1 : j % (2 * bit) = 0 ∨ (j % bit = 0 ∧ j < 2 * bit * (a + 1)) := Or.inr (by rcases hb with rfl | rfl | rfl | rfl | rfl | rfl | rfl | rfl <;> omega)
    have c2 : 2 * bit * a % (2 * bit) = 0 ∨ (2 * bit * a % bit = 0 ∧ 2 * bit * a < 2 * bit * a) := Or.inl (Nat.mul_mod_right _ _)
    rw [if_pos e, if_pos c1, if_pos c2, ← hr, e]
  · rw [if_neg e]
    have c : (j % (2 * bit) = 0 ∨ (j % bit = 0 ∧ j < 2 * bit * (a + 1))) ↔ (j % (2 * bit) = 0 ∨ (j % bit = 0 ∧ j < 2 * bit * a)) := by
      rcases hb with rfl | rfl | rfl | rfl | rfl | rfl | rfl | rfl <;> omega
    by_cases h : j % (2 * bit) = 0 ∨ (j % bit = 0 ∧ j < 2 * bit * a)
    · rw [if_pos h, if_pos (c.2 h)]
    · rw [if_neg h, if_neg (fun q => h (c.1 q))]
theorem tb_end {bit a : Nat} (hb : bit = 1 ∨ bit = 2 ∨ bit = 4 ∨ bit = 8 ∨ bit = 16 ∨ bit = 32 ∨ bit = 64 ∨ bit = 128) (ha : ¬ 2 * bit * a < 256) (j : Nat) (hj : j < 256) : nth (tb bit a) j = if j % bit = 0 then mvk 8 (BitVec.ofNat 32 j) else 0 := by
  unfold tb
  rw [nth_fix, if_pos hj]
  have c : (j % (2 * bit) = 0 ∨ (j % bit = 0 ∧ j < 2 * bit * a)) ↔ j % bit = 0 := by
    rcases hb with rfl | rfl | rfl | rfl | rfl | rfl | rfl | rfl <;> omega
  by_cases h : j % bit = 0
  · rw [if_pos h, if_pos (c.2 h)]
  · rw [if_neg h, if_neg (fun q => h (c.1 q))]
theorem tb_start (bit : Nat) (j : Nat) (hj : j < 256) : nth (tb bit 0) j = if j % (2 * bit) = 0 then mvk 8 (BitVec.ofNat 32 j) else 0 := by
  unfold tb
  rw [nth_fix, if_pos hj]
  by_cases h : j % (2 * bit) = 0
  · rw [if_pos h, if_pos (Or.inl h)]
  · rw [if_neg h, if_neg (fun q => by rcases q with q | ⟨_, q⟩ <;> omega)]
theorem tab_val (t : Nat) (ht : t < 8) (a : Nat) (ha : 2 * 2 ^ (7 - t) * a < 256) : mvk 8 (BitVec.ofNat 32 (2 * 2 ^ (7 - t) * a + 2 ^ (7 - t))) = mvk 8 (BitVec.ofNat 32 (2 * 2 ^ (7 - t) * a)) ^^^ mvk (t + 1) 1 := by
  have key : ∀ t, t < 8 → ∀ a, a < 2 ^ t → mvk 8 (BitVec.ofNat 32 (2 * 2 ^ (7 - t) * a + 2 ^ (7 - t))) = mvk 8 (BitVec.ofNat 32 (2 * 2 ^ (7 - t) * a)) ^^^ mvk (t + 1) 1 := by decide +kernel
  refine key t ht a ?_
  have : t = 0 ∨ t = 1 ∨ t = 2 ∨ t = 3 ∨ t = 4 ∨ t = 5 ∨ t = 6 ∨ t = 7 := by omega
  rcases this with rfl | rfl | rfl | rfl | rfl | rfl | rfl | rfl <;> simp at ha ⊢ <;> omega
/-- The reference's step: bit k of a byte. -/
theorem ref_step {q u x : W} {k : Nat} (h : q ^^^ u >>> k = mvk k x) :
    (((q % 2).toNat ≠ ((u >>> k) % 2).toNat) → (q / 2 ^^^ (3988292384 : W)) ^^^ u >>> (k + 1) = mvk (k + 1) x) ∧ (¬ ((q % 2).toNat ≠ ((u >>> k) % 2).toNat) → (q / 2) ^^^ u >>> (k + 1) = mvk (k + 1) x) := by
  have e1 : (q ^^^ u >>> k) >>> 1 = q / 2 ^^^ u >>> (k + 1) := by
    rw [BitVec.ushiftRight_xor_distrib, ← BitVec.shiftRight_add]
    congr 1
  have bit : ∀ y : W, (y % 2).toNat = (y.getLsbD 0).toNat := fun y => by
    rw [BitVec.toNat_umod, BitVec.getLsbD, Nat.testBit_zero]
    show y.toNat % 2 = _
    rcases Nat.mod_two_eq_zero_or_one y.toNat with h | h <;> simp [h]
  rw [bit, bit]
  show (_ → _ = mv (mvk k x)) ∧ (_ → _ = mv (mvk k x))
  rw [← h, mv_low, e1, BitVec.getLsbD_xor]
  have c : ∀ a b c : W, a ^^^ b ^^^ c = a ^^^ c ^^^ b := fun a b c => by rw [BitVec.xor_assoc, BitVec.xor_comm b c, ← BitVec.xor_assoc]
  cases q.getLsbD 0 <;> cases (u >>> k).getLsbD 0 <;> simp <;> exact c _ _ _
theorem ref_byte {q r : W} {b : UInt8} (h : q ^^^ u32 b >>> 8 = mvk 8 (r ^^^ u32 b)) : q = bst r b := by
  have : u32 b >>> 8 = 0 := by
    apply BitVec.eq_of_getLsbD_eq
    intro i hi
    rw [BitVec.getLsbD_ushiftRight, u32_high b _ (by omega)]; simp
  rw [this] at h
  exact (BitVec.xor_zero (x := q)).symm.trans h
end Go.Proofs.Crc
