/-
  The contract of u256.Mul.
-/
import Derived.Test.YtljhbhhpfkmemaaMul
namespace Go.Proofs.Ytljhbhhpfkmemaa
open Go.ChangeShapes Go.WideShapes Go.ChangeAt Go.RowKit
set_option linter.unusedVariables false

set_option maxHeartbeats 4000000 in
set_option maxRecDepth 100000 in
theorem mul_any (A B : Nat) (hA : A < big) (hB : B < big) (w : World) : Calls Try.prog 43 #[uv A, uv B] w fun e w' => e = .returned (.tuple #[uv (pl A B), uv (ph A B)]) ∧ Below w.heap.size w w' := by
  have z : Wd 0 := by unfold Wd; omega
  have a0 := wd0 A
  have b0 := wd0 B
  have a1 := wd1 A
  have b1 := wd1 B
  have a2 := wd2 A
  have b2 := wd2 B
  have a3 := wd3 A
  have b3 := wd3 B
  obtain ⟨l00, o00, q00, u00, r00, t00, v00, x00, m00⟩ := mac_ex a0 b0 z z
  have dq00 := m00.2.1
  have dc00 := m00.2.2
  obtain ⟨l01, o01, q01, u01, r01, t01, v01, x01, m01⟩ := mac_ex a0 b1 z dc00
  have dq01 := m01.2.1
  have dc01 := m01.2.2
  obtain ⟨l02, o02, q02, u02, r02, t02, v02, x02, m02⟩ := mac_ex a0 b2 z dc01
  have dq02 := m02.2.1
  have dc02 := m02.2.2
  obtain ⟨l03, o03, q03, u03, r03, t03, v03, x03, m03⟩ := mac_ex a0 b3 z dc02
  have dq03 := m03.2.1
  have dc03 := m03.2.2
  obtain ⟨l10, o10, q10, u10, r10, t10, v10, x10, m10⟩ := mac_ex a1 b0 dq01 z
  have dq10 := m10.2.1
  have dc10 := m10.2.2
  obtain ⟨l11, o11, q11, u11, r11, t11, v11, x11, m11⟩ := mac_ex a1 b1 dq02 dc10
  have dq11 := m11.2.1
  have dc11 := m11.2.2
  obtain ⟨l12, o12, q12, u12, r12, t12, v12, x12, m12⟩ := mac_ex a1 b2 dq03 dc11
  have dq12 := m12.2.1
  have dc12 := m12.2.2
  obtain ⟨l13, o13, q13, u13, r13, t13, v13, x13, m13⟩ := mac_ex a1 b3 dc03 dc12
  have dq13 := m13.2.1
  have dc13 := m13.2.2
  obtain ⟨l20, o20, q20, u20, r20, t20, v20, x20, m20⟩ := mac_ex a2 b0 dq11 z
  have dq20 := m20.2.1
  have dc20 := m20.2.2
  obtain ⟨l21, o21, q21, u21, r21, t21, v21, x21, m21⟩ := mac_ex a2 b1 dq12 dc20
  have dq21 := m21.2.1
  have dc21 := m21.2.2
  obtain ⟨l22, o22, q22, u22, r22, t22, v22, x22, m22⟩ := mac_ex a2 b2 dq13 dc21
  have dq22 := m22.2.1
  have dc22 := m22.2.2
  obtain ⟨l23, o23, q23, u23, r23, t23, v23, x23, m23⟩ := mac_ex a2 b3 dc13 dc22
  have dq23 := m23.2.1
  have dc23 := m23.2.2
  obtain ⟨l30, o30, q30, u30, r30, t30, v30, x30, m30⟩ := mac_ex a3 b0 dq21 z
  have dq30 := m30.2.1
  have dc30 := m30.2.2
  obtain ⟨l31, o31, q31, u31, r31, t31, v31, x31, m31⟩ := mac_ex a3 b1 dq22 dc30
  have dq31 := m31.2.1
  have dc31 := m31.2.2
  obtain ⟨l32, o32, q32, u32, r32, t32, v32, x32, m32⟩ := mac_ex a3 b2 dq23 dc31
  have dq32 := m32.2.1
  have dc32 := m32.2.2
  obtain ⟨l33, o33, q33, u33, r33, t33, v33, x33, m33⟩ := mac_ex a3 b3 dc23 dc32
  have dq33 := m33.2.1
  have dc33 := m33.2.2
  obtain ⟨⟨g0, g1, g2, g3⟩, g4, g5, g6, g7⟩ := mul_words hA hB m00 m01 m02 m03 m10 m11 m12 m13 m20 m21 m22 m23 m30 m31 m32 m33
  clear m00 m01 m02 m03 m10 m11 m12 m13 m20 m21 m22 m23 m30 m31 m32 m33
  unfold uv
  rw [← g0, ← g1, ← g2, ← g3, ← g4, ← g5, ← g6, ← g7]
  clear g0 g1 g2 g3 g4 g5 g6 g7
  have i0 := ix0; have i1 := ix1; have i2 := ix2; have i3 := ix3
  go_enter Try.func43, Try.ntmps43
  go_wp2
  refine wp_loop_rounds 5 ?_
  rw [rounds_succ]
  go_wp2
  refine wp_loop_rounds 5 ?_
  rw [rounds_succ]
  go_wp2_with (go_at_call 60; refine (mul64_any (by assumption) (by assumption) _).mono ?_; rintro e w' ⟨rfl, rfl⟩)
  rw [rounds_succ]
  go_wp2_with (go_at_call 60; refine (mul64_any (by assumption) (by assumption) _).mono ?_; rintro e w' ⟨rfl, rfl⟩)
  rw [rounds_succ]
  go_wp2_with (go_at_call 60; refine (mul64_any (by assumption) (by assumption) _).mono ?_; rintro e w' ⟨rfl, rfl⟩)
  rw [rounds_succ]
  go_wp2_with (go_at_call 60; refine (mul64_any (by assumption) (by assumption) _).mono ?_; rintro e w' ⟨rfl, rfl⟩)
  rw [rounds_succ]
  go_wp2_with (go_at_call 60; refine (mul64_any (by assumption) (by assumption) _).mono ?_; rintro e w' ⟨rfl, rfl⟩)
  rw [rounds_succ]
  go_wp2
  refine wp_loop_rounds 5 ?_
  rw [rounds_succ]
  go_wp2_with (go_at_call 60; refine (mul64_any (by assumption) (by assumption) _).mono ?_; rintro e w' ⟨rfl, rfl⟩)
  rw [rounds_succ]
  go_wp2_with (go_at_call 60; refine (mul64_any (by assumption) (by assumption) _).mono ?_; rintro e w' ⟨rfl, rfl⟩)
  rw [rounds_succ]
  go_wp2_with (go_at_call 60; refine (mul64_any (by assumption) (by assumption) _).mono ?_; rintro e w' ⟨rfl, rfl⟩)
  rw [rounds_succ]
  go_wp2_with (go_at_call 60; refine (mul64_any (by assumption) (by assumption) _).mono ?_; rintro e w' ⟨rfl, rfl⟩)
  rw [rounds_succ]
  go_wp2_with (go_at_call 60; refine (mul64_any (by assumption) (by assumption) _).mono ?_; rintro e w' ⟨rfl, rfl⟩)
  rw [rounds_succ]
  go_wp2
  refine wp_loop_rounds 5 ?_
  rw [rounds_succ]
  go_wp2_with (go_at_call 60; refine (mul64_any (by assumption) (by assumption) _).mono ?_; rintro e w' ⟨rfl, rfl⟩)
  rw [rounds_succ]
  go_wp2_with (go_at_call 60; refine (mul64_any (by assumption) (by assumption) _).mono ?_; rintro e w' ⟨rfl, rfl⟩)
  rw [rounds_succ]
  go_wp2_with (go_at_call 60; refine (mul64_any (by assumption) (by assumption) _).mono ?_; rintro e w' ⟨rfl, rfl⟩)
  rw [rounds_succ]
  go_wp2_with (go_at_call 60; refine (mul64_any (by assumption) (by assumption) _).mono ?_; rintro e w' ⟨rfl, rfl⟩)
  rw [rounds_succ]
  go_wp2_with (go_at_call 60; refine (mul64_any (by assumption) (by assumption) _).mono ?_; rintro e w' ⟨rfl, rfl⟩)
  rw [rounds_succ]
  go_wp2
  refine wp_loop_rounds 5 ?_
  rw [rounds_succ]
  go_wp2_with (go_at_call 60; refine (mul64_any (by assumption) (by assumption) _).mono ?_; rintro e w' ⟨rfl, rfl⟩)
  rw [rounds_succ]
  go_wp2_with (go_at_call 60; refine (mul64_any (by assumption) (by assumption) _).mono ?_; rintro e w' ⟨rfl, rfl⟩)
  rw [rounds_succ]
  go_wp2_with (go_at_call 60; refine (mul64_any (by assumption) (by assumption) _).mono ?_; rintro e w' ⟨rfl, rfl⟩)
  rw [rounds_succ]
  go_wp2_with (go_at_call 60; refine (mul64_any (by assumption) (by assumption) _).mono ?_; rintro e w' ⟨rfl, rfl⟩)
  rw [rounds_succ]
  go_wp2_with (go_at_call 60; refine (mul64_any (by assumption) (by assumption) _).mono ?_; rintro e w' ⟨rfl, rfl⟩)
  rw [rounds_succ]
  go_wp2
  go_region
  all_goals (go_wp2; go_returns; exact ⟨rfl, by go_grown⟩)

end Go.Proofs.Ytljhbhhpfkmemaa
