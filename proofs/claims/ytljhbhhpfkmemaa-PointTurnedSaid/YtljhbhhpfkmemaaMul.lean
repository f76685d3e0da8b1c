/-
  The contracts of math/bits.Mul64 and u256.Mul.
-/
import Derived.Test.YtljhbhhpfkmemaaWords
import Derived.Shelf.Bits.Mul64
namespace Go.Proofs.Ytljhbhhpfkmemaa
open Go.ChangeShapes Go.WideShapes Go.ChangeAt Go.RowKit
set_option linter.unusedVariables false

def mH (x y : Int) : Int := x * y / 18446744073709551616
def mL (x y : Int) : Int := x * y % 18446744073709551616

set_option maxHeartbeats 1000000 in
theorem mul64_nat (x y : Nat) (hx : x < 18446744073709551616) (hy : y < 18446744073709551616) (w : World) :
    Calls Try.prog 60 #[.int .u64 x, .int .u64 y] w fun e w' => e = .returned (.tuple #[.int .u64 ((x * y / 18446744073709551616 : Nat) : Int), .int .u64 ((x * y % 18446744073709551616 : Nat) : Int)]) ∧ w = w' := by
  obtain ⟨bd, bt, bw, hhi⟩ := Lib.mul64_hi x y hx hy
  have ba := Lib.half_mul_le (a := x / 4294967296) (b := y / 4294967296) (by omega) (by omega)
  have bb := Lib.half_mul_le (a := x / 4294967296) (b := y % 4294967296) (by omega) (by omega)
  have bc := Lib.half_mul_le (a := x % 4294967296) (b := y / 4294967296) (by omega) (by omega)
  have ba' : x / 4294967296 * (y / 4294967296) < 18446744073709551616 := by omega
  have bb' : x / 4294967296 * (y % 4294967296) < 18446744073709551616 := by omega
  have bc' : x % 4294967296 * (y / 4294967296) < 18446744073709551616 := by omega
  have bh1 : x / 4294967296 * (y / 4294967296) + (x / 4294967296 * (y % 4294967296) + x % 4294967296 * (y % 4294967296) / 4294967296) / 4294967296 < 18446744073709551616 := by omega
  have bh : x / 4294967296 * (y / 4294967296) + (x / 4294967296 * (y % 4294967296) + x % 4294967296 * (y % 4294967296) / 4294967296) / 4294967296 + ((x / 4294967296 * (y % 4294967296) + x % 4294967296 * (y % 4294967296) / 4294967296) % 4294967296 + x % 4294967296 * (y / 4294967296)) / 4294967296 < 18446744073709551616 := by omega
  go_enter Try.func60, Try.ntmps60
  go_wp2
  simp only [Mul64.maskN x hx, Mul64.maskN y hy, Mul64.divN, Mul64.mulN, Mul64.addN, Mul64.wrapN _ bd, Mul64.wrapN _ bb', Mul64.wrapN _ bt, Mul64.maskN _ bt, Mul64.wrapN _ bc', Mul64.wrapN _ bw, Mul64.wrapN _ ba', Mul64.wrapN _ bh1, Mul64.wrapN _ bh, Mul64.wrapM (x * y)]
  rw [hhi]
  go_ret2
  exact ⟨rfl, rfl⟩

theorem mul64_any {x y : Int} (hx : Wd x) (hy : Wd y) (w : World) :
    Calls Try.prog 60 #[.int .u64 x, .int .u64 y] w fun e w' => e = .returned (.tuple #[.int .u64 (mH x y), .int .u64 (mL x y)]) ∧ w = w' := by
  obtain ⟨hx0, hx1⟩ := hx; obtain ⟨hy0, hy1⟩ := hy
  obtain ⟨X, rfl⟩ := Int.eq_ofNat_of_zero_le hx0
  obtain ⟨Y, rfl⟩ := Int.eq_ofNat_of_zero_le hy0
  have e1 : mH X Y = ((X * Y / 18446744073709551616 : Nat) : Int) := by unfold mH; omega
  have e2 : mL X Y = ((X * Y % 18446744073709551616 : Nat) : Int) := by unfold mL; omega
  rw [e1, e2]
  exact mul64_nat X Y (by omega) (by omega) w

/-- One step of the school's product. -/
def MacS (x y p c s d : Int) : Prop := x * y + p + c = s + 18446744073709551616 * d ∧ Wd s ∧ Wd d

theorem mac_ex {x y p c : Int} (hx : Wd x) (hy : Wd y) (hp : Wd p) (hc : Wd c) : ∃ l1 o1 l2 o2,
    (∀ w, (callFunc 42 #[.int .u64 (mL x y), .int .u64 p, .int .u64 0]).run Try.prog w = .ok (.value (.tuple #[.int .u64 l1, .int .u64 o1])) w) ∧
    (∀ w, (callFunc 42 #[.int .u64 l1, .int .u64 c, .int .u64 0]).run Try.prog w = .ok (.value (.tuple #[.int .u64 l2, .int .u64 o2])) w) ∧
    IntKind.u64.wrap (mH x y + o1) = mH x y + o1 ∧ IntKind.u64.wrap (mH x y + o1 + o2) = mH x y + o1 + o2 ∧ MacS x y p c l2 (mH x y + o1 + o2) := by
  have hm : 0 ≤ x * y ∧ x * y ≤ 340282366920938463426481119284349108225 := by
    obtain ⟨hx0, hx1⟩ := hx; obtain ⟨hy0, hy1⟩ := hy
    refine ⟨Int.mul_nonneg hx0 hy0, ?_⟩
    have := Int.mul_le_mul (show x ≤ 18446744073709551615 by omega) (show y ≤ 18446744073709551615 by omega) hy0 (by omega)
    omega
  have hL : Wd (mL x y) := by unfold Wd mL; omega
  obtain ⟨l1, o1, r1, e1, d1, b1⟩ := add64_ex hL hp (c := 0) (by unfold Bt; omega)
  obtain ⟨l2, o2, r2, e2, d2, b2⟩ := add64_ex d1 hc (c := 0) (by unfold Bt; omega)
  have k1 : 0 ≤ mH x y + o1 ∧ mH x y + o1 + o2 ≤ 18446744073709551615 := by
    unfold Wd Bt at *; unfold mH mL at *
    omega
  have k2 : 0 ≤ o2 := b2.1
  refine ⟨l1, o1, l2, o2, r1, r2, ?_, ?_, ?_⟩
  · rw [IntKind.wrap_u64]; omega
  · rw [IntKind.wrap_u64]; omega
  · refine ⟨?_, d2, ?_⟩
    · unfold mH mL at *; omega
    · unfold Wd; omega

def pl (A B : Nat) : Nat := A * B % big
def ph (A B : Nat) : Nat := A * B / big

theorem row_words {a b0 b1 b2 b3 p0 p1 p2 p3 q0 q1 q2 q3 c0 c1 c2 c3 : Int} (h0 : MacS a b0 p0 0 q0 c0) (h1 : MacS a b1 p1 c0 q1 c1) (h2 : MacS a b2 p2 c1 q2 c2) (h3 : MacS a b3 p3 c2 q3 c3) :
    a * (b0 + 18446744073709551616 * b1 + 340282366920938463463374607431768211456 * b2 + 6277101735386680763835789423207666416102355444464034512896 * b3) + p0 + 18446744073709551616 * p1 + 340282366920938463463374607431768211456 * p2 + 6277101735386680763835789423207666416102355444464034512896 * p3 = q0 + 18446744073709551616 * q1 + 340282366920938463463374607431768211456 * q2 + 6277101735386680763835789423207666416102355444464034512896 * q3 + 115792089237316195423570985008687907853269984665640564039457584007913129639936 * c3 := by
  have e : a * (b0 + 18446744073709551616 * b1 + 340282366920938463463374607431768211456 * b2 + 6277101735386680763835789423207666416102355444464034512896 * b3) = a * b0 + 18446744073709551616 * (a * b1) + 340282366920938463463374607431768211456 * (a * b2) + 6277101735386680763835789423207666416102355444464034512896 * (a * b3) := by
    rw [Int.mul_add, Int.mul_add, Int.mul_add, Int.mul_left_comm a, Int.mul_left_comm a, Int.mul_left_comm a]
  obtain ⟨e0, _, _⟩ := h0; obtain ⟨e1, _, _⟩ := h1; obtain ⟨e2, _, _⟩ := h2; obtain ⟨e3, _, _⟩ := h3
  rw [e]
  omega

theorem mul_words {A B : Nat} (hA : A < big) (hB : B < big) {q00 c00 q01 c01 q02 c02 q03 c03 q10 c10 q11 c11 q12 c12 q13 c13 q20 c20 q21 c21 q22 c22 q23 c23 q30 c30 q31 c31 q32 c32 q33 c33 : Int} (m00 : MacS (w0 A) (w0 B) 0 0 q00 c00) (m01 : MacS (w0 A) (w1 B) 0 c00 q01 c01) (m02 : MacS (w0 A) (w2 B) 0 c01 q02 c02) (m03 : MacS (w0 A) (w3 B) 0 c02 q03 c03) (m10 : MacS (w1 A) (w0 B) q01 0 q10 c10) (m11 : MacS (w1 A) (w1 B) q02 c10 q11 c11) (m12 : MacS (w1 A) (w2 B) q03 c11 q12 c12) (m13 : MacS (w1 A) (w3 B) c03 c12 q13 c13) (m20 : MacS (w2 A) (w0 B) q11 0 q20 c20) (m21 : MacS (w2 A) (w1 B) q12 c20 q21 c21) (m22 : MacS (w2 A) (w2 B) q13 c21 q22 c22) (m23 : MacS (w2 A) (w3 B) c13 c22 q23 c23) (m30 : MacS (w3 A) (w0 B) q21 0 q30 c30) (m31 : MacS (w3 A) (w1 B) q22 c30 q31 c31) (m32 : MacS (w3 A) (w2 B) q23 c31 q32 c32) (m33 : MacS (w3 A) (w3 B) c23 c32 q33 c33) :
    (q00 = w0 (pl A B) ∧ q10 = w1 (pl A B) ∧ q20 = w2 (pl A B) ∧ q30 = w3 (pl A B)) ∧ q31 = w0 (ph A B) ∧ q32 = w1 (ph A B) ∧ q33 = w2 (ph A B) ∧ c33 = w3 (ph A B) := by
  have a := mk4_w A hA; have b := mk4_w B hB
  have r0 := row_words m00 m01 m02 m03
  have r1 := row_words m10 m11 m12 m13
  have r2 := row_words m20 m21 m22 m23
  have r3 := row_words m30 m31 m32 m33
  rw [← b] at r0 r1 r2 r3
  have e : (A : Int) * B = w0 A * B + 18446744073709551616 * (w1 A * B) + 340282366920938463463374607431768211456 * (w2 A * B) + 6277101735386680763835789423207666416102355444464034512896 * (w3 A * B) := by
    conv => lhs; rw [a]
    rw [Int.add_mul, Int.add_mul, Int.add_mul, Int.mul_assoc, Int.mul_assoc, Int.mul_assoc]
  have d0 : Wd q00 := m00.2.1
  have d1 : Wd q10 := m10.2.1
  have d2 : Wd q20 := m20.2.1
  have d3 : Wd q30 := m30.2.1
  have d4 : Wd q31 := m31.2.1
  have d5 : Wd q32 := m32.2.1
  have d6 : Wd q33 := m33.2.1
  have d7 : Wd c33 := m33.2.2
  have key : (A : Int) * B = q00 + 18446744073709551616 * q10 + 340282366920938463463374607431768211456 * q20 + 6277101735386680763835789423207666416102355444464034512896 * q30 + 115792089237316195423570985008687907853269984665640564039457584007913129639936 * q31 + 2135987035920910082395021706169552114602704522356652769947041607822219725780640550022962086936576 * q32 + 39402006196394479212279040100143613805079739270465446667948293404245721771497210611414266254884915640806627990306816 * q33 + 726838724295606890549323807888004534353641360687318060281490199180639288113397923326191050713763565560762521606266177933534601628614656 * c33 := by omega
  clear r0 r1 r2 r3 e
  have lt1 := mk4_lt d0 d1 d2 d3
  have lt2 := mk4_lt d4 d5 d6 d7
  have em1 : ((mk4 q00 q10 q20 q30 : Nat) : Int) = q00 + 18446744073709551616 * q10 + 340282366920938463463374607431768211456 * q20 + 6277101735386680763835789423207666416102355444464034512896 * q30 := by unfold Wd at d0 d1 d2 d3; unfold mk4; omega
  have em2 : ((mk4 q31 q32 q33 c33 : Nat) : Int) = q31 + 18446744073709551616 * q32 + 340282366920938463463374607431768211456 * q33 + 6277101735386680763835789423207666416102355444464034512896 * c33 := by unfold Wd at d4 d5 d6 d7; unfold mk4; omega
  have kn : A * B = mk4 q00 q10 q20 q30 + 115792089237316195423570985008687907853269984665640564039457584007913129639936 * mk4 q31 q32 q33 c33 := by
    have : ((A * B : Nat) : Int) = (A : Int) * B := Int.natCast_mul A B
    omega
  have k1 : pl A B = mk4 q00 q10 q20 q30 := by unfold pl; unfold big at *; omega
  have k2 : ph A B = mk4 q31 q32 q33 c33 := by unfold ph; unfold big at *; omega
  rw [k1, k2]
  exact ⟨⟨(w0_mk d0 d1 d2 d3).symm, (w1_mk d0 d1 d2 d3).symm, (w2_mk d0 d1 d2 d3).symm, (w3_mk d0 d1 d2 d3).symm⟩, (w0_mk d4 d5 d6 d7).symm, (w1_mk d4 d5 d6 d7).symm, (w2_mk d4 d5 d6 d7).symm, (w3_mk d4 d5 d6 d7).symm⟩

end Go.Proofs.Ytljhbhhpfkmemaa
