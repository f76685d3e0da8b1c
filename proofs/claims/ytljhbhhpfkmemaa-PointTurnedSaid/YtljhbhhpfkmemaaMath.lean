/-
  Numbers of 256 bits as four words: plain arithmetic, no program in sight.
-/
import Derived.Below
namespace Go.Proofs.Ytljhbhhpfkmemaa
open Go.RowKit

def Wd (x : Int) : Prop := 0 ≤ x ∧ x < 18446744073709551616
def Bt (c : Int) : Prop := 0 ≤ c ∧ c ≤ 1
def w0 (n : Nat) : Int := ((n % 18446744073709551616 : Nat) : Int)
def w1 (n : Nat) : Int := ((n / 18446744073709551616 % 18446744073709551616 : Nat) : Int)
def w2 (n : Nat) : Int := ((n / 340282366920938463463374607431768211456 % 18446744073709551616 : Nat) : Int)
def w3 (n : Nat) : Int := ((n / 6277101735386680763835789423207666416102355444464034512896 % 18446744073709551616 : Nat) : Int)
/-- 2^256. -/
def big : Nat := 115792089237316195423570985008687907853269984665640564039457584007913129639936
/-- What four words make. -/
def mk4 (a b c d : Int) : Nat := (a + 18446744073709551616 * b + 340282366920938463463374607431768211456 * c + 6277101735386680763835789423207666416102355444464034512896 * d).toNat

theorem wd0 (n : Nat) : Wd (w0 n) := by unfold Wd w0; omega
theorem wd1 (n : Nat) : Wd (w1 n) := by unfold Wd w1; omega
theorem wd2 (n : Nat) : Wd (w2 n) := by unfold Wd w2; omega
theorem wd3 (n : Nat) : Wd (w3 n) := by unfold Wd w3; omega

theorem mk4_lt {a b c d : Int} (ha : Wd a) (hb : Wd b) (hc : Wd c) (hd : Wd d) : mk4 a b c d < big := by
  unfold Wd at *; unfold mk4 big; omega
theorem w0_mk {a b c d : Int} (ha : Wd a) (hb : Wd b) (hc : Wd c) (hd : Wd d) : w0 (mk4 a b c d) = a := by
  unfold Wd at *; unfold mk4 w0; omega
theorem w1_mk {a b c d : Int} (ha : Wd a) (hb : Wd b) (hc : Wd c) (hd : Wd d) : w1 (mk4 a b c d) = b := by
  unfold Wd at *; unfold mk4 w1; omega
theorem w2_mk {a b c d : Int} (ha : Wd a) (hb : Wd b) (hc : Wd c) (hd : Wd d) : w2 (mk4 a b c d) = c := by
  unfold Wd at *; unfold mk4 w2; omega
theorem w3_mk {a b c d : Int} (ha : Wd a) (hb : Wd b) (hc : Wd c) (hd : Wd d) : w3 (mk4 a b c d) = d := by
  unfold Wd at *; unfold mk4 w3; omega
theorem mk4_w (n : Nat) (h : n < big) : (n : Int) = w0 n + 18446744073709551616 * w1 n + 340282366920938463463374607431768211456 * w2 n + 6277101735386680763835789423207666416102355444464034512896 * w3 n := by
  unfold big at h; unfold w0 w1 w2 w3; omega
/-- Any four words are those of a number. -/
theorem of_words {a b c d : Int} (ha : Wd a) (hb : Wd b) (hc : Wd c) (hd : Wd d) : ∃ n : Nat, n < big ∧ a = w0 n ∧ b = w1 n ∧ c = w2 n ∧ d = w3 n :=
  ⟨mk4 a b c d, mk4_lt ha hb hc hd, (w0_mk ha hb hc hd).symm, (w1_mk ha hb hc hd).symm, (w2_mk ha hb hc hd).symm, (w3_mk ha hb hc hd).symm⟩
/-- Four words whose sum is n are n's. -/
theorem words_eq {a b c d : Int} {n : Nat} (ha : Wd a) (hb : Wd b) (hc : Wd c) (hd : Wd d)
    (h : (n : Int) = a + 18446744073709551616 * b + 340282366920938463463374607431768211456 * c + 6277101735386680763835789423207666416102355444464034512896 * d) :
    a = w0 n ∧ b = w1 n ∧ c = w2 n ∧ d = w3 n := by
  have e : n = mk4 a b c d := by unfold mk4; omega
  subst e
  exact ⟨(w0_mk ha hb hc hd).symm, (w1_mk ha hb hc hd).symm, (w2_mk ha hb hc hd).symm, (w3_mk ha hb hc hd).symm⟩
theorem words_inj {n m : Nat} (hn : n < big) (hm : m < big) (h0 : w0 n = w0 m) (h1 : w1 n = w1 m) (h2 : w2 n = w2 m) (h3 : w3 n = w3 m) : n = m := by
  have a := mk4_w n hn; have b := mk4_w m hm; rw [h0, h1, h2, h3] at a; omega

/-- One word's sum and what is carried. -/
def AddS (x y c s d : Int) : Prop := x + y + c = s + 18446744073709551616 * d ∧ Wd s ∧ Bt d
/-- One word's difference and what is borrowed. -/
def SubS (x y c s d : Int) : Prop := x - y - c = s - 18446744073709551616 * d ∧ Wd s ∧ Bt d

def ov (a b : Nat) : Bool := decide (big ≤ a + b)
def sm (a b : Nat) : Nat := (a + b) % big
def lo (a b : Nat) : Bool := decide (a < b)
def df (a b : Nat) : Nat := (a + big - b) % big

theorem add_words {A B : Nat} (hA : A < big) (hB : B < big) {s0 c0 s1 c1 s2 c2 s3 c3 : Int} (h0 : AddS (w0 A) (w0 B) 0 s0 c0) (h1 : AddS (w1 A) (w1 B) c0 s1 c1) (h2 : AddS (w2 A) (w2 B) c1 s2 c2) (h3 : AddS (w3 A) (w3 B) c2 s3 c3) :
    (s0 = w0 (sm A B) ∧ s1 = w1 (sm A B) ∧ s2 = w2 (sm A B) ∧ s3 = w3 (sm A B)) ∧ (c3 == 1) = ov A B := by
  have a := mk4_w A hA; have b := mk4_w B hB
  obtain ⟨e0, d0, _⟩ := h0; obtain ⟨e1, d1, _⟩ := h1; obtain ⟨e2, d2, _⟩ := h2; obtain ⟨e3, d3, k3⟩ := h3
  have key : (A : Int) + B = s0 + 18446744073709551616 * s1 + 340282366920938463463374607431768211456 * s2 + 6277101735386680763835789423207666416102355444464034512896 * s3 + 115792089237316195423570985008687907853269984665640564039457584007913129639936 * c3 := by omega
  have lt := mk4_lt d0 d1 d2 d3
  have em : ((mk4 s0 s1 s2 s3 : Nat) : Int) = s0 + 18446744073709551616 * s1 + 340282366920938463463374607431768211456 * s2 + 6277101735386680763835789423207666416102355444464034512896 * s3 := by
    unfold Wd at *; unfold mk4; omega
  constructor
  · refine words_eq d0 d1 d2 d3 ?_
    rw [← em]; unfold sm; unfold big at *; unfold Bt at *; omega
  · unfold ov; rw [Bool.eq_iff_iff]; simp only [beq_iff_eq, decide_eq_true_eq]
    unfold big at *; unfold Bt at *; omega

theorem sub_words {A B : Nat} (hA : A < big) (hB : B < big) {s0 c0 s1 c1 s2 c2 s3 c3 : Int} (h0 : SubS (w0 A) (w0 B) 0 s0 c0) (h1 : SubS (w1 A) (w1 B) c0 s1 c1) (h2 : SubS (w2 A) (w2 B) c1 s2 c2) (h3 : SubS (w3 A) (w3 B) c2 s3 c3) :
    (s0 = w0 (df A B) ∧ s1 = w1 (df A B) ∧ s2 = w2 (df A B) ∧ s3 = w3 (df A B)) ∧ (c3 == 1) = lo A B := by
  have a := mk4_w A hA; have b := mk4_w B hB
  obtain ⟨e0, d0, _⟩ := h0; obtain ⟨e1, d1, _⟩ := h1; obtain ⟨e2, d2, _⟩ := h2; obtain ⟨e3, d3, k3⟩ := h3
  have key : (A : Int) - B = s0 + 18446744073709551616 * s1 + 340282366920938463463374607431768211456 * s2 + 6277101735386680763835789423207666416102355444464034512896 * s3 - 115792089237316195423570985008687907853269984665640564039457584007913129639936 * c3 := by omega
  have lt := mk4_lt d0 d1 d2 d3
  have em : ((mk4 s0 s1 s2 s3 : Nat) : Int) = s0 + 18446744073709551616 * s1 + 340282366920938463463374607431768211456 * s2 + 6277101735386680763835789423207666416102355444464034512896 * s3 := by
    unfold Wd at *; unfold mk4; omega
  constructor
  · refine words_eq d0 d1 d2 d3 ?_
    rw [← em]; unfold df; unfold big at *; unfold Bt at *; omega
  · unfold lo; rw [Bool.eq_iff_iff]; simp only [beq_iff_eq, decide_eq_true_eq]
    unfold big at *; unfold Bt at *; omega
end Go.Proofs.Ytljhbhhpfkmemaa
