/-
  The walk of the law U256Rules.
-/
import Derived.Test.YtiollplcmmlcgaaAlive
import Derived.Test.YtiollplcmmlcgaaMulWalk
import Derived.Test.YtiollplcmmlcgaaBack
import Derived.Test.YtiollplcmmlcgaaCells
import Derived.Deep.RegionHeld3
import Derived.Deep.DeepCutAuto
namespace Go.Proofs.Ytiollplcmmlcgaa
open Go.ChangeShapes Go.WideShapes Go.ChangeAt Go.RowKit
set_option linter.unusedVariables false

theorem sm_comm (A B : Nat) : sm B A = sm A B := by unfold sm; rw [Nat.add_comm]
theorem ov_comm (A B : Nat) : ov B A = ov A B := by unfold ov; rw [Nat.add_comm]
theorem sm_assoc (A B C : Nat) : sm A (sm B C) = sm (sm A B) C := by
  unfold sm; rw [Nat.add_mod, Nat.mod_mod, ← Nat.add_mod, Nat.add_mod (_ % big) C, Nat.mod_mod, ← Nat.add_mod, Nat.add_assoc]
theorem df_sm (A B : Nat) (hA : A < big) (hB : B < big) : df (sm A B) B = A := by unfold df sm; unfold big at *; omega
theorem lo_sm (A B : Nat) (hA : A < big) (hB : B < big) : lo (sm A B) B = ov A B := by
  unfold lo ov sm; rw [Bool.eq_iff_iff]; simp only [decide_eq_true_eq]; unfold big at *; omega
theorem pl_comm (A B : Nat) : pl B A = pl A B := by unfold pl; rw [Nat.mul_comm]
theorem ph_comm (A B : Nat) : ph B A = ph A B := by unfold ph; rw [Nat.mul_comm]
theorem sm_lt (A B : Nat) : sm A B < big := Nat.mod_lt _ (by decide)
theorem pl_lt (A B : Nat) : pl A B < big := Nat.mod_lt _ (by decide)

theorem mul_one (A : Nat) (hA : A < big) (w : World) : Calls Try.prog 20 #[uv A, .agg #[.int .u64 1, .int .u64 0, .int .u64 0, .int .u64 0]] w fun e w' => e = .returned (.tuple #[uv A, .agg #[.int .u64 0, .int .u64 0, .int .u64 0, .int .u64 0]]) ∧ Below w.heap.size w w' := by
  have h := mul_any A 1 hA (by decide) w
  rw [show pl A 1 = A by unfold pl; rw [Nat.mul_one, Nat.mod_eq_of_lt hA], show ph A 1 = 0 by unfold ph; rw [Nat.mul_one, Nat.div_eq_of_lt hA]] at h
  exact h

theorem from_bytes (A : Nat) (hA : A < big) (w : World) : Calls Try.prog 24 #[.string (bs A)] w fun e w' => e = .returned (.tuple #[uv A, .int .i64 0]) ∧ Below w.heap.size w w' := by
  have h := from_short (bs A) (by rw [bs_size]; omega) w
  rw [sv_bs A hA] at h
  exact h

set_option maxHeartbeats 40000000 in
set_option maxRecDepth 100000 in
theorem rules_walk (A : Nat) (hA : A < big) (B : Nat) (hB : B < big) (C : Nat) (hC : C < big) (w : World) : Calls Try.prog 7 #[uv A, uv B, uv C] w fun e w' => e = .returned (.bool true) ∧ Below w.heap.size w w' := by
  have q := eqU_self
  have hl1 := sm_lt A B
  have hl2 := sm_lt B C
  have c2 := add_any B A hB hA
  rw [sm_comm A B, ov_comm A B] at c2
  have c5 := add_any A (sm B C) hA hl2
  rw [sm_assoc] at c5
  have c6 := sub_any (sm A B) B hl1 hB
  rw [df_sm A B hA hB, lo_sm A B hA hB] at c6
  have c9 := mul_any B A hB hA
  rw [pl_comm A B, ph_comm A B] at c9
  unfold uv
  go_enter Try.func7, Try.ntmps7
  have BW0 : Below w.heap.size w w := Below.refl _ _
  go_wp2_with fail
  refine (add_any A B hA hB _).mono ?_
  rintro e v1 ⟨rfl, b1⟩
  have BW1 : Below w.heap.size w v1 := below_call (below_laid (below_laid (below_laid BW0 _) _) _) b1
  have L1_A : Lie v1 (w.heap.size) (A) := (((Lie.hereAt _ _ _ (by simp)).alloc _).alloc _).past b1
  have L1_B : Lie v1 (w.heap.size + 1) (B) := ((Lie.hereAt _ _ _ (by simp)).alloc _).past b1
  have L1_C : Lie v1 (w.heap.size + 1 + 1) (C) := (Lie.hereAt _ _ _ (by simp)).past b1
  clear b1
  have lt1 := L1_A.lt
  have ⟨p1a, p1b, p1c, p1d⟩ := L1_A
  have lt2 := L1_B.lt
  have ⟨p2a, p2b, p2c, p2d⟩ := L1_B
  go_wp2_with fail
  clear lt1 p1a p1b p1c p1d lt2 p2a p2b p2c p2d
  refine (c2 _).mono ?_
  rintro e v2 ⟨rfl, b2⟩
  have BW2 : Below w.heap.size w v2 := below_call (below_laid BW1 _) b2
  have L2_A : Lie v2 (w.heap.size) (A) := (L1_A.alloc _).past b2
  have L2_B : Lie v2 (w.heap.size + 1) (B) := (L1_B.alloc _).past b2
  have L2_C : Lie v2 (w.heap.size + 1 + 1) (C) := (L1_C.alloc _).past b2
  have L2_ab : Lie v2 (v1.heap.size) (sm A B) := (Lie.hereAt _ _ _ (by simp)).past b2
  clear L1_A L1_B L1_C b2
  have lt3 := L2_ab.lt
  have ⟨p3a, p3b, p3c, p3d⟩ := L2_ab
  have lt4 := L2_C.lt
  have ⟨p4a, p4b, p4c, p4d⟩ := L2_C
  go_wp2_with fail
  clear lt3 p3a p3b p3c p3d lt4 p4a p4b p4c p4d
  refine (add_any (sm A B) C hl1 hC _).mono ?_
  rintro e v3 ⟨rfl, b3⟩
  have BW3 : Below w.heap.size w v3 := below_call (below_laid BW2 _) b3
  have L3_A : Lie v3 (w.heap.size) (A) := (L2_A.alloc _).past b3
  have L3_B : Lie v3 (w.heap.size + 1) (B) := (L2_B.alloc _).past b3
  have L3_C : Lie v3 (w.heap.size + 1 + 1) (C) := (L2_C.alloc _).past b3
  have L3_ab : Lie v3 (v1.heap.size) (sm A B) := (L2_ab.alloc _).past b3
  have L3_ba : Lie v3 (v2.heap.size) (sm A B) := (Lie.hereAt _ _ _ (by simp)).past b3
  clear L2_A L2_B L2_C L2_ab b3
  have lt5 := L3_B.lt
  have ⟨p5a, p5b, p5c, p5d⟩ := L3_B
  have lt6 := L3_C.lt
  have ⟨p6a, p6b, p6c, p6d⟩ := L3_C
  go_wp2_with fail
  clear lt5 p5a p5b p5c p5d lt6 p6a p6b p6c p6d
  refine (add_any B C hB hC _).mono ?_
  rintro e v4 ⟨rfl, b4⟩
  have BW4 : Below w.heap.size w v4 := below_call (below_laid BW3 _) b4
  have L4_A : Lie v4 (w.heap.size) (A) := (L3_A.alloc _).past b4
  have L4_B : Lie v4 (w.heap.size + 1) (B) := (L3_B.alloc _).past b4
  have L4_C : Lie v4 (w.heap.size + 1 + 1) (C) := (L3_C.alloc _).past b4
  have L4_ab : Lie v4 (v1.heap.size) (sm A B) := (L3_ab.alloc _).past b4
  have L4_ba : Lie v4 (v2.heap.size) (sm A B) := (L3_ba.alloc _).past b4
  have L4_left : Lie v4 (v3.heap.size) (sm (sm A B) C) := (Lie.hereAt _ _ _ (by simp)).past b4
  clear L3_A L3_B L3_C L3_ab L3_ba b4
  clear L4_C
  have lt7 := L4_A.lt
  have ⟨p7a, p7b, p7c, p7d⟩ := L4_A
  go_wp2_with fail
  clear lt7 p7a p7b p7c p7d
  refine (c5 _).mono ?_
  rintro e v5 ⟨rfl, b5⟩
  have BW5 : Below w.heap.size w v5 := below_call (below_laid BW4 _) b5
  have L5_A : Lie v5 (w.heap.size) (A) := (L4_A.alloc _).past b5
  have L5_B : Lie v5 (w.heap.size + 1) (B) := (L4_B.alloc _).past b5
  have L5_ab : Lie v5 (v1.heap.size) (sm A B) := (L4_ab.alloc _).past b5
  have L5_ba : Lie v5 (v2.heap.size) (sm A B) := (L4_ba.alloc _).past b5
  have L5_left : Lie v5 (v3.heap.size) (sm (sm A B) C) := (L4_left.alloc _).past b5
  have L5_bc : Lie v5 (v4.heap.size) (sm B C) := (Lie.hereAt _ _ _ (by simp)).past b5
  clear L4_A L4_B L4_ab L4_ba L4_left b5
  clear L5_bc
  have lt8 := L5_ab.lt
  have ⟨p8a, p8b, p8c, p8d⟩ := L5_ab
  have lt9 := L5_B.lt
  have ⟨p9a, p9b, p9c, p9d⟩ := L5_B
  go_wp2_with fail
  clear lt8 p8a p8b p8c p8d lt9 p9a p9b p9c p9d
  refine (c6 _).mono ?_
  rintro e v6 ⟨rfl, b6⟩
  have BW6 : Below w.heap.size w v6 := below_call (below_laid BW5 _) b6
  have L6_A : Lie v6 (w.heap.size) (A) := (L5_A.alloc _).past b6
  have L6_B : Lie v6 (w.heap.size + 1) (B) := (L5_B.alloc _).past b6
  have L6_ab : Lie v6 (v1.heap.size) (sm A B) := (L5_ab.alloc _).past b6
  have L6_ba : Lie v6 (v2.heap.size) (sm A B) := (L5_ba.alloc _).past b6
  have L6_left : Lie v6 (v3.heap.size) (sm (sm A B) C) := (L5_left.alloc _).past b6
  have L6_right : Lie v6 (v5.heap.size) (sm (sm A B) C) := (Lie.hereAt _ _ _ (by simp)).past b6
  clear L5_A L5_B L5_ab L5_ba L5_left b6
  have lt10 := L6_A.lt
  have ⟨p10a, p10b, p10c, p10d⟩ := L6_A
  have lt11 := L6_B.lt
  have ⟨p11a, p11b, p11c, p11d⟩ := L6_B
  go_wp2_with fail
  clear lt10 p10a p10b p10c p10d lt11 p11a p11b p11c p11d
  refine (add_any A B hA hB _).mono ?_
  rintro e v7 ⟨rfl, b7⟩
  have BW7 : Below w.heap.size w v7 := below_call (below_laid BW6 _) b7
  have L7_A : Lie v7 (w.heap.size) (A) := (L6_A.alloc _).past b7
  have L7_B : Lie v7 (w.heap.size + 1) (B) := (L6_B.alloc _).past b7
  have L7_ab : Lie v7 (v1.heap.size) (sm A B) := (L6_ab.alloc _).past b7
  have L7_ba : Lie v7 (v2.heap.size) (sm A B) := (L6_ba.alloc _).past b7
  have L7_left : Lie v7 (v3.heap.size) (sm (sm A B) C) := (L6_left.alloc _).past b7
  have L7_right : Lie v7 (v5.heap.size) (sm (sm A B) C) := (L6_right.alloc _).past b7
  have L7_back : Lie v7 (v6.heap.size) (A) := (Lie.hereAt _ _ _ (by simp)).past b7
  clear L6_A L6_B L6_ab L6_ba L6_left L6_right b7
  have lt12 := L7_A.lt
  have ⟨p12a, p12b, p12c, p12d⟩ := L7_A
  have lt13 := L7_B.lt
  have ⟨p13a, p13b, p13c, p13d⟩ := L7_B
  go_wp2_with fail
  clear lt12 p12a p12b p12c p12d lt13 p13a p13b p13c p13d
  refine (mul_any A B hA hB _).mono ?_
  rintro e v8 ⟨rfl, b8⟩
  have BW8 : Below w.heap.size w v8 := below_call (below_laid BW7 _) b8
  have L8_A : Lie v8 (w.heap.size) (A) := (L7_A.alloc _).past b8
  have L8_B : Lie v8 (w.heap.size + 1) (B) := (L7_B.alloc _).past b8
  have L8_ab : Lie v8 (v1.heap.size) (sm A B) := (L7_ab.alloc _).past b8
  have L8_ba : Lie v8 (v2.heap.size) (sm A B) := (L7_ba.alloc _).past b8
  have L8_left : Lie v8 (v3.heap.size) (sm (sm A B) C) := (L7_left.alloc _).past b8
  have L8_right : Lie v8 (v5.heap.size) (sm (sm A B) C) := (L7_right.alloc _).past b8
  have L8_back : Lie v8 (v6.heap.size) (A) := (L7_back.alloc _).past b8
  have L8_sum7 : Lie v8 (v7.heap.size) (sm A B) := (Lie.hereAt _ _ _ (by simp)).past b8
  clear L7_A L7_B L7_ab L7_ba L7_left L7_right L7_back b8
  clear L8_sum7
  have lt14 := L8_A.lt
  have ⟨p14a, p14b, p14c, p14d⟩ := L8_A
  have lt15 := L8_B.lt
  have ⟨p15a, p15b, p15c, p15d⟩ := L8_B
  go_wp2_with fail
  clear lt14 p14a p14b p14c p14d lt15 p15a p15b p15c p15d
  refine (c9 _).mono ?_
  rintro e v9 ⟨rfl, b9⟩
  have BW9 : Below w.heap.size w v9 := below_call (below_laid (below_laid BW8 _) _) b9
  have L9_A : Lie v9 (w.heap.size) (A) := ((L8_A.alloc _).alloc _).past b9
  have L9_B : Lie v9 (w.heap.size + 1) (B) := ((L8_B.alloc _).alloc _).past b9
  have L9_ab : Lie v9 (v1.heap.size) (sm A B) := ((L8_ab.alloc _).alloc _).past b9
  have L9_ba : Lie v9 (v2.heap.size) (sm A B) := ((L8_ba.alloc _).alloc _).past b9
  have L9_left : Lie v9 (v3.heap.size) (sm (sm A B) C) := ((L8_left.alloc _).alloc _).past b9
  have L9_right : Lie v9 (v5.heap.size) (sm (sm A B) C) := ((L8_right.alloc _).alloc _).past b9
  have L9_back : Lie v9 (v6.heap.size) (A) := ((L8_back.alloc _).alloc _).past b9
  have L9_p : Lie v9 (v8.heap.size) (pl A B) := ((Lie.hereAt _ _ _ (by simp)).alloc _).past b9
  have L9_q : Lie v9 (v8.heap.size + 1) (ph A B) := (Lie.hereAt _ _ _ (by simp)).past b9
  clear L8_A L8_B L8_ab L8_ba L8_left L8_right L8_back b9
  clear L9_B
  have lt16 := L9_A.lt
  have ⟨p16a, p16b, p16c, p16d⟩ := L9_A
  go_wp2_with fail
  clear lt16 p16a p16b p16c p16d
  refine (bytes_any A hA _).mono ?_
  rintro e v10 ⟨rfl, b10⟩
  have BW10 : Below w.heap.size w v10 := below_call (below_laid (below_laid BW9 _) _) b10
  have L10_A : Lie v10 (w.heap.size) (A) := ((L9_A.alloc _).alloc _).past b10
  have L10_ab : Lie v10 (v1.heap.size) (sm A B) := ((L9_ab.alloc _).alloc _).past b10
  have L10_ba : Lie v10 (v2.heap.size) (sm A B) := ((L9_ba.alloc _).alloc _).past b10
  have L10_left : Lie v10 (v3.heap.size) (sm (sm A B) C) := ((L9_left.alloc _).alloc _).past b10
  have L10_right : Lie v10 (v5.heap.size) (sm (sm A B) C) := ((L9_right.alloc _).alloc _).past b10
  have L10_back : Lie v10 (v6.heap.size) (A) := ((L9_back.alloc _).alloc _).past b10
  have L10_p : Lie v10 (v8.heap.size) (pl A B) := ((L9_p.alloc _).alloc _).past b10
  have L10_q : Lie v10 (v8.heap.size + 1) (ph A B) := ((L9_q.alloc _).alloc _).past b10
  have L10_r : Lie v10 (v9.heap.size) (pl A B) := ((Lie.hereAt _ _ _ (by simp)).alloc _).past b10
  have L10_s : Lie v10 (v9.heap.size + 1) (ph A B) := (Lie.hereAt _ _ _ (by simp)).past b10
  clear L9_A L9_ab L9_ba L9_left L9_right L9_back L9_p L9_q b10
  go_wp2_with fail
  refine (from_bytes A hA _).mono ?_
  rintro e v11 ⟨rfl, b11⟩
  have BW11 : Below w.heap.size w v11 := below_call BW10 b11
  have L11_A : Lie v11 (w.heap.size) (A) := L10_A.past b11
  have L11_ab : Lie v11 (v1.heap.size) (sm A B) := L10_ab.past b11
  have L11_ba : Lie v11 (v2.heap.size) (sm A B) := L10_ba.past b11
  have L11_left : Lie v11 (v3.heap.size) (sm (sm A B) C) := L10_left.past b11
  have L11_right : Lie v11 (v5.heap.size) (sm (sm A B) C) := L10_right.past b11
  have L11_back : Lie v11 (v6.heap.size) (A) := L10_back.past b11
  have L11_p : Lie v11 (v8.heap.size) (pl A B) := L10_p.past b11
  have L11_q : Lie v11 (v8.heap.size + 1) (ph A B) := L10_q.past b11
  have L11_r : Lie v11 (v9.heap.size) (pl A B) := L10_r.past b11
  have L11_s : Lie v11 (v9.heap.size + 1) (ph A B) := L10_s.past b11
  clear L10_A L10_ab L10_ba L10_left L10_right L10_back L10_p L10_q L10_r L10_s b11
  go_upto_region 11 with fail
  have XA : Lie (v11.alloc (.cells #[.int .u64 (w0 A), .int .u64 (w1 A), .int .u64 (w2 A), .int .u64 (w3 A)] 24)) w.heap.size A := L11_A.alloc _
  obtain ⟨xa0, xa1, xa2, xa3⟩ := XA
  have lx := L11_A.lt
  go_cut [27, 28] (fun s27 s28 wx => ∃ b27 b28 : Nat, s27 = .pointer (some ⟨b27, 0, none⟩) ∧ s28 = .pointer (some ⟨b28, 0, none⟩) ∧ Lie wx b27 A ∧ wx.cell? ⟨b28, 0, none⟩ = some (.int .u64 0) ∧ wx.cell? ⟨b28, 1, none⟩ = some (.int .u64 0) ∧ wx.cell? ⟨b28, 2, none⟩ = some (.int .u64 0) ∧ wx.cell? ⟨b28, 3, none⟩ = some (.int .u64 0) ∧ Below (v11.alloc (.cells #[.int .u64 (w0 A), .int .u64 (w1 A), .int .u64 (w2 A), .int .u64 (w3 A)] 24)).heap.size (v11.alloc (.cells #[.int .u64 (w0 A), .int .u64 (w1 A), .int .u64 (w2 A), .int .u64 (w3 A)] 24)) wx)
  case first =>
    refine wp_region_held_drew (S := fun w' => Lie w' w.heap.size A) (by kernel_rfl) ?_ (fun hH => ?_)
    · exact ⟨xa0, xa1, xa2, xa3⟩
    have BBs : Below (v11.alloc (.cells #[.int .u64 (w0 A), .int .u64 (w1 A), .int .u64 (w2 A), .int .u64 (w3 A)] 24)).heap.size (v11.alloc (.cells #[.int .u64 (w0 A), .int .u64 (w1 A), .int .u64 (w2 A), .int .u64 (w3 A)] 24)) (v11.alloc (.cells #[.int .u64 (w0 A), .int .u64 (w1 A), .int .u64 (w2 A), .int .u64 (w3 A)] 24)).drew := (Below.refl _ _).drew
    refine wpAnyH_take (i := 0) (oi := ⟨some 90, _, _, _, _, _⟩) (v := ?_) rfl (by kernel_rfl) (by kernel_rfl) (by kernel_rfl) (fun _ _ _ h => h) (Or.inl ⟨by rfl, ?_⟩) hH ?_
    rotate_left
    focus (intro wS hSw; (try dsimp only at hSw); (obtain ⟨hS0, hS1, hS2, hS3⟩ := hSw); go_simp; try (with_reducible rfl))
    try simp only [Act.put, List.setIfInBounds_toArray, List.set_cons_zero, List.set_cons_succ]
    refine wpAnyH_ready (rs := [1, 6, 7]) (by kernel_rfl) (by simp) ?_
    refine AllReadyH.cons (o := ⟨some 91, _, _, _, _, _⟩) rfl (fun K hK => ?_) ?_
    · go_simp
      refine (small_any 1 _).mono ?_
      rintro e y1 ⟨rfl, bb1⟩
      refine hK.out _ _ ?_ (fun hH1 => ?_)
      · exact Lie.past hH bb1
      have BB1 := below_call BBs bb1
      have zz1 := bb1.size
      try simp only [World.size_alloc, World.size_drew] at zz1
      clear hK K
      try simp only [Act.put, List.setIfInBounds_toArray, List.set_cons_zero, List.set_cons_succ]
      refine wpAnyH_ready (rs := [2, 6, 7]) (by kernel_rfl) (by simp) ?_
      refine AllReadyH.cons (o := ⟨some 92, _, _, _, _, _⟩) rfl (fun K hK => ?_) ?_
      · go_simp
        refine (mul_one A hA _).mono ?_
        rintro e y2 ⟨rfl, bb2⟩
        refine hK.out _ _ ?_ (fun hH2 => ?_)
        · exact Lie.past hH1 bb2
        have BB2 := below_call BB1 bb2
        have zz2 := bb2.size
        try simp only [World.size_alloc, World.size_drew] at zz2
        clear hK K
        try simp only [Act.put, List.setIfInBounds_toArray, List.set_cons_zero, List.set_cons_succ]
        refine wpAnyH_take (i := 3) (oi := ⟨some 89, _, _, _, _, _⟩) (v := ?_) rfl (by kernel_rfl) (by kernel_rfl) (by kernel_rfl) (fun _ _ _ h => h) (Or.inl ⟨by rfl, ?_⟩) hH2 ?_
        rotate_left
        focus (intro wS hSw; (try dsimp only at hSw); (obtain ⟨hS0, hS1, hS2, hS3⟩ := hSw); go_simp; try (with_reducible rfl))
        try simp only [Act.put, List.setIfInBounds_toArray, List.set_cons_zero, List.set_cons_succ]
        refine wpAnyH_take (i := 4) (oi := ⟨some 93, _, _, _, _, _⟩) (v := ?_) rfl (by kernel_rfl) (by kernel_rfl) (by kernel_rfl) (fun _ _ _ h => h) (Or.inl ⟨by rfl, ?_⟩) hH2 ?_
        rotate_left
        focus (intro wS hSw; (try dsimp only at hSw); (obtain ⟨hS0, hS1, hS2, hS3⟩ := hSw); go_simp; try (with_reducible rfl))
        try simp only [Act.put, List.setIfInBounds_toArray, List.set_cons_zero, List.set_cons_succ]
        refine wpAnyH_take (i := 5) (oi := ⟨some 94, _, _, _, _, _⟩) (v := ?_) rfl (by kernel_rfl) (by kernel_rfl) (by kernel_rfl) (fun _ _ _ h => h) (Or.inl ⟨by rfl, ?_⟩) hH2 ?_
        rotate_left
        focus (intro wS hSw; (try dsimp only at hSw); (obtain ⟨hS0, hS1, hS2, hS3⟩ := hSw); go_simp; try (with_reducible rfl))
        try simp only [Act.put, List.setIfInBounds_toArray, List.set_cons_zero, List.set_cons_succ]
        refine wpAnyH_ready (rs := [6, 7]) (by kernel_rfl) (by simp) ?_
        refine AllReadyH.cons (o := ⟨some 27, _, _, _, _, _⟩) rfl (fun K hK => ?_) ?_
        · go_simp
          refine hK.out _ _ ?_ (fun hH3 => ?_)
          · exact Lie.alloc hH2 _
          have BB3 := below_laid BB2 (.cells #[.int .u64 0, .int .u64 0, .int .u64 0, .int .u64 0] 24)
          have Zp3 := Zr.hereAt y2 (y2.heap.size) (by simp)
          clear hK K
          try simp only [Act.put, List.setIfInBounds_toArray, List.set_cons_zero, List.set_cons_succ]
          refine wpAnyH_ready (rs := [7]) (by kernel_rfl) (by simp) ?_
          refine AllReadyH.cons (o := ⟨some 28, _, _, _, _, _⟩) rfl (fun K hK => ?_) AllReadyH.nil
          go_simp
          refine hK.out _ _ ?_ (fun hH4 => ?_)
          · exact Lie.alloc hH3 _
          have BB4 := below_laid BB3 (.cells #[.int .u64 0, .int .u64 0, .int .u64 0, .int .u64 0] 24)
          have Zp4 := Zr.alloc Zp3 (.cells #[.int .u64 0, .int .u64 0, .int .u64 0, .int .u64 0] 24)
          have Zq4 := Zr.hereAt (y2.alloc (.cells #[.int .u64 0, .int .u64 0, .int .u64 0, .int .u64 0] 24)) (y2.heap.size + 1) (by simp)
          clear hK K
          try simp only [Act.put, List.setIfInBounds_toArray, List.set_cons_zero, List.set_cons_succ]
          have ltp := Zp4.lt
          have ltq := Zq4.lt
          have neA : w.heap.size < v11.heap.size := lx
          have hgp : (v11.alloc (.cells #[.int .u64 (w0 A), .int .u64 (w1 A), .int .u64 (w2 A), .int .u64 (w3 A)] 24)).heap.size ≤ (y2.heap.size) := by simp only [World.size_alloc]; omega
          have hgq : (v11.alloc (.cells #[.int .u64 (w0 A), .int .u64 (w1 A), .int .u64 (w2 A), .int .u64 (w3 A)] 24)).heap.size ≤ (y2.heap.size + 1) := by simp only [World.size_alloc]; omega
          have hne : (y2.heap.size) ≠ (y2.heap.size + 1) := by omega
          have hneA : (y2.heap.size) ≠ w.heap.size := by omega
          have hneB : (y2.heap.size + 1) ≠ w.heap.size := by omega
          have hA8 := hH4
          have hP8 := Zp4
          have hQ8 := Zq4
          have hB8 := BB4
          clear ltp ltq
          generalize ((y2.alloc (.cells #[.int .u64 0, .int .u64 0, .int .u64 0, .int .u64 0] 24)).alloc (.cells #[.int .u64 0, .int .u64 0, .int .u64 0, .int .u64 0] 24)) = Wv at hA8 hP8 hQ8 hB8 ⊢
          have ⟨⟨p0, p1, p2, p3⟩, pf0, pf1, pf2, pf3⟩ := hP8
          refine wpAnyH_ready (rs := [8]) (by kernel_rfl) (by simp) ?_
          refine AllReadyH.cons (o := ⟨none, _, _, _, _, _⟩) rfl (fun K hK => ?_) AllReadyH.nil
          go_simp
          refine hK.out _ _ ?_ (fun hH8 => ?_)
          · exact (((Lie.set hA8 hneA _).set hneA _).set hneA _).set hneA _
          clear hK K
          try simp only [Act.put, List.setIfInBounds_toArray, List.set_cons_zero, List.set_cons_succ]
          have F8 := hP8.put (.int .u64 (w0 A)) (.int .u64 (w1 A)) (.int .u64 (w2 A)) (.int .u64 (w3 A))
          have Z8 := ((((hQ8).set (a := ⟨y2.heap.size, 0, none⟩) hne (.int .u64 (w0 A))).set (a := ⟨y2.heap.size, 1, none⟩) hne (.int .u64 (w1 A))).set (a := ⟨y2.heap.size, 2, none⟩) hne (.int .u64 (w2 A))).set (a := ⟨y2.heap.size, 3, none⟩) hne (.int .u64 (w3 A))
          have ⟨⟨q0, q1, q2, q3⟩, qf0, qf1, qf2, qf3⟩ := Z8
          refine wpAnyH_ready (rs := [9]) (by kernel_rfl) (by simp) ?_
          refine AllReadyH.cons (o := ⟨none, _, _, _, _, _⟩) rfl (fun K hK => ?_) AllReadyH.nil
          go_simp
          refine hK.out _ _ ?_ (fun hH9 => ?_)
          · exact (((Lie.set hH8 hneB _).set hneB _).set hneB _).set hneB _
          clear hK K
          try simp only [Act.put, List.setIfInBounds_toArray, List.set_cons_zero, List.set_cons_succ]
          have F9 := Z8.put (.int .u64 0) (.int .u64 0) (.int .u64 0) (.int .u64 0)
          have G9 := (((F8.set (a := ⟨y2.heap.size + 1, 0, none⟩) (Ne.symm hne) (.int .u64 0)).set (a := ⟨y2.heap.size + 1, 1, none⟩) (Ne.symm hne) (.int .u64 0)).set (a := ⟨y2.heap.size + 1, 2, none⟩) (Ne.symm hne) (.int .u64 0)).set (a := ⟨y2.heap.size + 1, 3, none⟩) (Ne.symm hne) (.int .u64 0)
          refine wpAnyH_done (by kernel_rfl) ?_ _
          go_wp2_with fail
          go_meet
          exact ⟨_, _, rfl, rfl, G9, F9.1, F9.2.1, F9.2.2.1, F9.2.2.2, ((((((((hB8.setCell hgp _).setCell hgp _).setCell hgp _).setCell hgp _).setCell hgq _).setCell hgq _).setCell hgq _).setCell hgq _)⟩
        refine AllReadyH.cons (o := ⟨some 28, _, _, _, _, _⟩) rfl (fun K hK => ?_) AllReadyH.nil
        go_simp
        refine hK.out _ _ ?_ (fun hH6 => ?_)
        · exact Lie.alloc hH2 _
        have BB6 := below_laid BB2 (.cells #[.int .u64 0, .int .u64 0, .int .u64 0, .int .u64 0] 24)
        have Zq6 := Zr.hereAt y2 (y2.heap.size) (by simp)
        clear hK K
        try simp only [Act.put, List.setIfInBounds_toArray, List.set_cons_zero, List.set_cons_succ]
        refine wpAnyH_ready (rs := [6]) (by kernel_rfl) (by simp) ?_
        refine AllReadyH.cons (o := ⟨some 27, _, _, _, _, _⟩) rfl (fun K hK => ?_) AllReadyH.nil
        go_simp
        refine hK.out _ _ ?_ (fun hH7 => ?_)
        · exact Lie.alloc hH6 _
        have BB7 := below_laid BB6 (.cells #[.int .u64 0, .int .u64 0, .int .u64 0, .int .u64 0] 24)
        have Zq7 := Zr.alloc Zq6 (.cells #[.int .u64 0, .int .u64 0, .int .u64 0, .int .u64 0] 24)
        have Zp7 := Zr.hereAt (y2.alloc (.cells #[.int .u64 0, .int .u64 0, .int .u64 0, .int .u64 0] 24)) (y2.heap.size + 1) (by simp)
        clear hK K
        try simp only [Act.put, List.setIfInBounds_toArray, List.set_cons_zero, List.set_cons_succ]
        have ltp := Zp7.lt
        have ltq := Zq7.lt
        have neA : w.heap.size < v11.heap.size := lx
        have hgp : (v11.alloc (.cells #[.int .u64 (w0 A), .int .u64 (w1 A), .int .u64 (w2 A), .int .u64 (w3 A)] 24)).heap.size ≤ (y2.heap.size + 1) := by simp only [World.size_alloc]; omega
        have hgq : (v11.alloc (.cells #[.int .u64 (w0 A), .int .u64 (w1 A), .int .u64 (w2 A), .int .u64 (w3 A)] 24)).heap.size ≤ (y2.heap.size) := by simp only [World.size_alloc]; omega
        have hne : (y2.heap.size + 1) ≠ (y2.heap.size) := by omega
        have hneA : (y2.heap.size + 1) ≠ w.heap.size := by omega
        have hneB : (y2.heap.size) ≠ w.heap.size := by omega
        have hA8 := hH7
        have hP8 := Zp7
        have hQ8 := Zq7
        have hB8 := BB7
        clear ltp ltq
        generalize ((y2.alloc (.cells #[.int .u64 0, .int .u64 0, .int .u64 0, .int .u64 0] 24)).alloc (.cells #[.int .u64 0, .int .u64 0, .int .u64 0, .int .u64 0] 24)) = Wv at hA8 hP8 hQ8 hB8 ⊢
        have ⟨⟨p0, p1, p2, p3⟩, pf0, pf1, pf2, pf3⟩ := hP8
        refine wpAnyH_ready (rs := [8]) (by kernel_rfl) (by simp) ?_
        refine AllReadyH.cons (o := ⟨none, _, _, _, _, _⟩) rfl (fun K hK => ?_) AllReadyH.nil
        go_simp
        refine hK.out _ _ ?_ (fun hH8 => ?_)
        · exact (((Lie.set hA8 hneA _).set hneA _).set hneA _).set hneA _
        clear hK K
        try simp only [Act.put, List.setIfInBounds_toArray, List.set_cons_zero, List.set_cons_succ]
        have F8 := hP8.put (.int .u64 (w0 A)) (.int .u64 (w1 A)) (.int .u64 (w2 A)) (.int .u64 (w3 A))
        have Z8 := ((((hQ8).set (a := ⟨y2.heap.size + 1, 0, none⟩) hne (.int .u64 (w0 A))).set (a := ⟨y2.heap.size + 1, 1, none⟩) hne (.int .u64 (w1 A))).set (a := ⟨y2.heap.size + 1, 2, none⟩) hne (.int .u64 (w2 A))).set (a := ⟨y2.heap.size + 1, 3, none⟩) hne (.int .u64 (w3 A))
        have ⟨⟨q0, q1, q2, q3⟩, qf0, qf1, qf2, qf3⟩ := Z8
        refine wpAnyH_ready (rs := [9]) (by kernel_rfl) (by simp) ?_
        refine AllReadyH.cons (o := ⟨none, _, _, _, _, _⟩) rfl (fun K hK => ?_) AllReadyH.nil
        go_simp
        refine hK.out _ _ ?_ (fun hH9 => ?_)
        · exact (((Lie.set hH8 hneB _).set hneB _).set hneB _).set hneB _
        clear hK K
        try simp only [Act.put, List.setIfInBounds_toArray, List.set_cons_zero, List.set_cons_succ]
        have F9 := Z8.put (.int .u64 0) (.int .u64 0) (.int .u64 0) (.int .u64 0)
        have G9 := (((F8.set (a := ⟨y2.heap.size, 0, none⟩) (Ne.symm hne) (.int .u64 0)).set (a := ⟨y2.heap.size, 1, none⟩) (Ne.symm hne) (.int .u64 0)).set (a := ⟨y2.heap.size, 2, none⟩) (Ne.symm hne) (.int .u64 0)).set (a := ⟨y2.heap.size, 3, none⟩) (Ne.symm hne) (.int .u64 0)
        refine wpAnyH_done (by kernel_rfl) ?_ _
        go_wp2_with fail
        go_meet
        exact ⟨_, _, rfl, rfl, G9, F9.1, F9.2.1, F9.2.2.1, F9.2.2.2, ((((((((hB8.setCell hgp _).setCell hgp _).setCell hgp _).setCell hgp _).setCell hgq _).setCell hgq _).setCell hgq _).setCell hgq _)⟩
      refine AllReadyH.cons (o := ⟨some 27, _, _, _, _, _⟩) rfl (fun K hK => ?_) ?_
      · go_simp
        refine hK.out _ _ ?_ (fun hH9 => ?_)
        · exact Lie.alloc hH1 _
        have BB9 := below_laid BB1 (.cells #[.int .u64 0, .int .u64 0, .int .u64 0, .int .u64 0] 24)
        have Zp9 := Zr.hereAt y1 (y1.heap.size) (by simp)
        clear hK K
        try simp only [Act.put, List.setIfInBounds_toArray, List.set_cons_zero, List.set_cons_succ]
        refine wpAnyH_ready (rs := [2, 7]) (by kernel_rfl) (by simp) ?_
        refine AllReadyH.cons (o := ⟨some 92, _, _, _, _, _⟩) rfl (fun K hK => ?_) ?_
        · go_simp
          refine (mul_one A hA _).mono ?_
          rintro e y10 ⟨rfl, bb10⟩
          refine hK.out _ _ ?_ (fun hH10 => ?_)
          · exact Lie.past hH9 bb10
          have BB10 := below_call BB9 bb10
          have zz10 := bb10.size
          try simp only [World.size_alloc, World.size_drew] at zz10
          have Zp10 : Zr y10 (y1.heap.size) := Zr.past Zp9 bb10
          clear hK K
          try simp only [Act.put, List.setIfInBounds_toArray, List.set_cons_zero, List.set_cons_succ]
          refine wpAnyH_take (i := 3) (oi := ⟨some 89, _, _, _, _, _⟩) (v := ?_) rfl (by kernel_rfl) (by kernel_rfl) (by kernel_rfl) (fun _ _ _ h => h) (Or.inl ⟨by rfl, ?_⟩) hH10 ?_
          rotate_left
          focus (intro wS hSw; (try dsimp only at hSw); (obtain ⟨hS0, hS1, hS2, hS3⟩ := hSw); go_simp; try (with_reducible rfl))
          try simp only [Act.put, List.setIfInBounds_toArray, List.set_cons_zero, List.set_cons_succ]
          refine wpAnyH_take (i := 4) (oi := ⟨some 93, _, _, _, _, _⟩) (v := ?_) rfl (by kernel_rfl) (by kernel_rfl) (by kernel_rfl) (fun _ _ _ h => h) (Or.inl ⟨by rfl, ?_⟩) hH10 ?_
          rotate_left
          focus (intro wS hSw; (try dsimp only at hSw); (obtain ⟨hS0, hS1, hS2, hS3⟩ := hSw); go_simp; try (with_reducible rfl))
          try simp only [Act.put, List.setIfInBounds_toArray, List.set_cons_zero, List.set_cons_succ]
          refine wpAnyH_take (i := 5) (oi := ⟨some 94, _, _, _, _, _⟩) (v := ?_) rfl (by kernel_rfl) (by kernel_rfl) (by kernel_rfl) (fun _ _ _ h => h) (Or.inl ⟨by rfl, ?_⟩) hH10 ?_
          rotate_left
          focus (intro wS hSw; (try dsimp only at hSw); (obtain ⟨hS0, hS1, hS2, hS3⟩ := hSw); go_simp; try (with_reducible rfl))
          try simp only [Act.put, List.setIfInBounds_toArray, List.set_cons_zero, List.set_cons_succ]
          refine wpAnyH_ready (rs := [7]) (by kernel_rfl) (by simp) ?_
          refine AllReadyH.cons (o := ⟨some 28, _, _, _, _, _⟩) rfl (fun K hK => ?_) AllReadyH.nil
          go_simp
          refine hK.out _ _ ?_ (fun hH11 => ?_)
          · exact Lie.alloc hH10 _
          have BB11 := below_laid BB10 (.cells #[.int .u64 0, .int .u64 0, .int .u64 0, .int .u64 0] 24)
          have Zp11 := Zr.alloc Zp10 (.cells #[.int .u64 0, .int .u64 0, .int .u64 0, .int .u64 0] 24)
          have Zq11 := Zr.hereAt y10 (y10.heap.size) (by simp)
          clear hK K
          try simp only [Act.put, List.setIfInBounds_toArray, List.set_cons_zero, List.set_cons_succ]
          have ltp := Zp11.lt
          have ltq := Zq11.lt
          have neA : w.heap.size < v11.heap.size := lx
          have hgp : (v11.alloc (.cells #[.int .u64 (w0 A), .int .u64 (w1 A), .int .u64 (w2 A), .int .u64 (w3 A)] 24)).heap.size ≤ (y1.heap.size) := by simp only [World.size_alloc]; omega
          have hgq : (v11.alloc (.cells #[.int .u64 (w0 A), .int .u64 (w1 A), .int .u64 (w2 A), .int .u64 (w3 A)] 24)).heap.size ≤ (y10.heap.size) := by simp only [World.size_alloc]; omega
          have hne : (y1.heap.size) ≠ (y10.heap.size) := by omega
          have hneA : (y1.heap.size) ≠ w.heap.size := by omega
          have hneB : (y10.heap.size) ≠ w.heap.size := by omega
          have hA8 := hH11
          have hP8 := Zp11
          have hQ8 := Zq11
          have hB8 := BB11
          clear ltp ltq
          generalize (y10.alloc (.cells #[.int .u64 0, .int .u64 0, .int .u64 0, .int .u64 0] 24)) = Wv at hA8 hP8 hQ8 hB8 ⊢
          have ⟨⟨p0, p1, p2, p3⟩, pf0, pf1, pf2, pf3⟩ := hP8
          refine wpAnyH_ready (rs := [8]) (by kernel_rfl) (by simp) ?_
          refine AllReadyH.cons (o := ⟨none, _, _, _, _, _⟩) rfl (fun K hK => ?_) AllReadyH.nil
          go_simp
          refine hK.out _ _ ?_ (fun hH8 => ?_)
          · exact (((Lie.set hA8 hneA _).set hneA _).set hneA _).set hneA _
          clear hK K
          try simp only [Act.put, List.setIfInBounds_toArray, List.set_cons_zero, List.set_cons_succ]
          have F8 := hP8.put (.int .u64 (w0 A)) (.int .u64 (w1 A)) (.int .u64 (w2 A)) (.int .u64 (w3 A))
          have Z8 := ((((hQ8).set (a := ⟨y1.heap.size, 0, none⟩) hne (.int .u64 (w0 A))).set (a := ⟨y1.heap.size, 1, none⟩) hne (.int .u64 (w1 A))).set (a := ⟨y1.heap.size, 2, none⟩) hne (.int .u64 (w2 A))).set (a := ⟨y1.heap.size, 3, none⟩) hne (.int .u64 (w3 A))
          have ⟨⟨q0, q1, q2, q3⟩, qf0, qf1, qf2, qf3⟩ := Z8
          refine wpAnyH_ready (rs := [9]) (by kernel_rfl) (by simp) ?_
          refine AllReadyH.cons (o := ⟨none, _, _, _, _, _⟩) rfl (fun K hK => ?_) AllReadyH.nil
          go_simp
          refine hK.out _ _ ?_ (fun hH9 => ?_)
          · exact (((Lie.set hH8 hneB _).set hneB _).set hneB _).set hneB _
          clear hK K
          try simp only [Act.put, List.setIfInBounds_toArray, List.set_cons_zero, List.set_cons_succ]
          have F9 := Z8.put (.int .u64 0) (.int .u64 0) (.int .u64 0) (.int .u64 0)
          have G9 := (((F8.set (a := ⟨y10.heap.size, 0, none⟩) (Ne.symm hne) (.int .u64 0)).set (a := ⟨y10.heap.size, 1, none⟩) (Ne.symm hne) (.int .u64 0)).set (a := ⟨y10.heap.size, 2, none⟩) (Ne.symm hne) (.int .u64 0)).set (a := ⟨y10.heap.size, 3, none⟩) (Ne.symm hne) (.int .u64 0)
          refine wpAnyH_done (by kernel_rfl) ?_ _
          go_wp2_with fail
          go_meet
          exact ⟨_, _, rfl, rfl, G9, F9.1, F9.2.1, F9.2.2.1, F9.2.2.2, ((((((((hB8.setCell hgp _).setCell hgp _).setCell hgp _).setCell hgp _).setCell hgq _).setCell hgq _).setCell hgq _).setCell hgq _)⟩
        refine AllReadyH.cons (o := ⟨some 28, _, _, _, _, _⟩) rfl (fun K hK => ?_) AllReadyH.nil
        go_simp
        refine hK.out _ _ ?_ (fun hH13 => ?_)
        · exact Lie.alloc hH9 _
        have BB13 := below_laid BB9 (.cells #[.int .u64 0, .int .u64 0, .int .u64 0, .int .u64 0] 24)
        have Zp13 := Zr.alloc Zp9 (.cells #[.int .u64 0, .int .u64 0, .int .u64 0, .int .u64 0] 24)
        have Zq13 := Zr.hereAt (y1.alloc (.cells #[.int .u64 0, .int .u64 0, .int .u64 0, .int .u64 0] 24)) (y1.heap.size + 1) (by simp)
        clear hK K
        try simp only [Act.put, List.setIfInBounds_toArray, List.set_cons_zero, List.set_cons_succ]
        refine wpAnyH_ready (rs := [2]) (by kernel_rfl) (by simp) ?_
        refine AllReadyH.cons (o := ⟨some 92, _, _, _, _, _⟩) rfl (fun K hK => ?_) AllReadyH.nil
        go_simp
        refine (mul_one A hA _).mono ?_
        rintro e y14 ⟨rfl, bb14⟩
        refine hK.out _ _ ?_ (fun hH14 => ?_)
        · exact Lie.past hH13 bb14
        have BB14 := below_call BB13 bb14
        have zz14 := bb14.size
        try simp only [World.size_alloc, World.size_drew] at zz14
        have Zp14 : Zr y14 (y1.heap.size) := Zr.past Zp13 bb14
        have Zq14 : Zr y14 (y1.heap.size + 1) := Zr.past Zq13 bb14
        clear hK K
        try simp only [Act.put, List.setIfInBounds_toArray, List.set_cons_zero, List.set_cons_succ]
        refine wpAnyH_take (i := 3) (oi := ⟨some 89, _, _, _, _, _⟩) (v := ?_) rfl (by kernel_rfl) (by kernel_rfl) (by kernel_rfl) (fun _ _ _ h => h) (Or.inl ⟨by rfl, ?_⟩) hH14 ?_
        rotate_left
        focus (intro wS hSw; (try dsimp only at hSw); (obtain ⟨hS0, hS1, hS2, hS3⟩ := hSw); go_simp; try (with_reducible rfl))
        try simp only [Act.put, List.setIfInBounds_toArray, List.set_cons_zero, List.set_cons_succ]
        refine wpAnyH_take (i := 4) (oi := ⟨some 93, _, _, _, _, _⟩) (v := ?_) rfl (by kernel_rfl) (by kernel_rfl) (by kernel_rfl) (fun _ _ _ h => h) (Or.inl ⟨by rfl, ?_⟩) hH14 ?_
        rotate_left
        focus (intro wS hSw; (try dsimp only at hSw); (obtain ⟨hS0, hS1, hS2, hS3⟩ := hSw); go_simp; try (with_reducible rfl))
        try simp only [Act.put, List.setIfInBounds_toArray, List.set_cons_zero, List.set_cons_succ]
        refine wpAnyH_take (i := 5) (oi := ⟨some 94, _, _, _, _, _⟩) (v := ?_) rfl (by kernel_rfl) (by kernel_rfl) (by kernel_rfl) (fun _ _ _ h => h) (Or.inl ⟨by rfl, ?_⟩) hH14 ?_
        rotate_left
        focus (intro wS hSw; (try dsimp only at hSw); (obtain ⟨hS0, hS1, hS2, hS3⟩ := hSw); go_simp; try (with_reducible rfl))
        try simp only [Act.put, List.setIfInBounds_toArray, List.set_cons_zero, List.set_cons_succ]
        have ltp := Zp14.lt
        have ltq := Zq14.lt
        have neA : w.heap.size < v11.heap.size := lx
        have hgp : (v11.alloc (.cells #[.int .u64 (w0 A), .int .u64 (w1 A), .int .u64 (w2 A), .int .u64 (w3 A)] 24)).heap.size ≤ (y1.heap.size) := by simp only [World.size_alloc]; omega
        have hgq : (v11.alloc (.cells #[.int .u64 (w0 A), .int .u64 (w1 A), .int .u64 (w2 A), .int .u64 (w3 A)] 24)).heap.size ≤ (y1.heap.size + 1) := by simp only [World.size_alloc]; omega
        have hne : (y1.heap.size) ≠ (y1.heap.size + 1) := by omega
        have hneA : (y1.heap.size) ≠ w.heap.size := by omega
        have hneB : (y1.heap.size + 1) ≠ w.heap.size := by omega
        have hA8 := hH14
        have hP8 := Zp14
        have hQ8 := Zq14
        have hB8 := BB14
        clear ltp ltq
        have ⟨⟨p0, p1, p2, p3⟩, pf0, pf1, pf2, pf3⟩ := hP8
        refine wpAnyH_ready (rs := [8]) (by kernel_rfl) (by simp) ?_
        refine AllReadyH.cons (o := ⟨none, _, _, _, _, _⟩) rfl (fun K hK => ?_) AllReadyH.nil
        go_simp
        refine hK.out _ _ ?_ (fun hH8 => ?_)
        · exact (((Lie.set hA8 hneA _).set hneA _).set hneA _).set hneA _
        clear hK K
        try simp only [Act.put, List.setIfInBounds_toArray, List.set_cons_zero, List.set_cons_succ]
        have F8 := hP8.put (.int .u64 (w0 A)) (.int .u64 (w1 A)) (.int .u64 (w2 A)) (.int .u64 (w3 A))
        have Z8 := ((((hQ8).set (a := ⟨y1.heap.size, 0, none⟩) hne (.int .u64 (w0 A))).set (a := ⟨y1.heap.size, 1, none⟩) hne (.int .u64 (w1 A))).set (a := ⟨y1.heap.size, 2, none⟩) hne (.int .u64 (w2 A))).set (a := ⟨y1.heap.size, 3, none⟩) hne (.int .u64 (w3 A))
        have ⟨⟨q0, q1, q2, q3⟩, qf0, qf1, qf2, qf3⟩ := Z8
        refine wpAnyH_ready (rs := [9]) (by kernel_rfl) (by simp) ?_
        refine AllReadyH.cons (o := ⟨none, _, _, _, _, _⟩) rfl (fun K hK => ?_) AllReadyH.nil
        go_simp
        refine hK.out _ _ ?_ (fun hH9 => ?_)
        · exact (((Lie.set hH8 hneB _).set hneB _).set hneB _).set hneB _
        clear hK K
        try simp only [Act.put, List.setIfInBounds_toArray, List.set_cons_zero, List.set_cons_succ]
        have F9 := Z8.put (.int .u64 0) (.int .u64 0) (.int .u64 0) (.int .u64 0)
        have G9 := (((F8.set (a := ⟨y1.heap.size + 1, 0, none⟩) (Ne.symm hne) (.int .u64 0)).set (a := ⟨y1.heap.size + 1, 1, none⟩) (Ne.symm hne) (.int .u64 0)).set (a := ⟨y1.heap.size + 1, 2, none⟩) (Ne.symm hne) (.int .u64 0)).set (a := ⟨y1.heap.size + 1, 3, none⟩) (Ne.symm hne) (.int .u64 0)
        refine wpAnyH_done (by kernel_rfl) ?_ _
        go_wp2_with fail
        go_meet
        exact ⟨_, _, rfl, rfl, G9, F9.1, F9.2.1, F9.2.2.1, F9.2.2.2, ((((((((hB8.setCell hgp _).setCell hgp _).setCell hgp _).setCell hgp _).setCell hgq _).setCell hgq _).setCell hgq _).setCell hgq _)⟩
      refine AllReadyH.cons (o := ⟨some 28, _, _, _, _, _⟩) rfl (fun K hK => ?_) AllReadyH.nil
      go_simp
      refine hK.out _ _ ?_ (fun hH16 => ?_)
      · exact Lie.alloc hH1 _
      have BB16 := below_laid BB1 (.cells #[.int .u64 0, .int .u64 0, .int .u64 0, .int .u64 0] 24)
      have Zq16 := Zr.hereAt y1 (y1.heap.size) (by simp)
      clear hK K
      try simp only [Act.put, List.setIfInBounds_toArray, List.set_cons_zero, List.set_cons_succ]
      refine wpAnyH_ready (rs := [2, 6]) (by kernel_rfl) (by simp) ?_
      refine AllReadyH.cons (o := ⟨some 92, _, _, _, _, _⟩) rfl (fun K hK => ?_) ?_
      · go_simp
        refine (mul_one A hA _).mono ?_
        rintro e y17 ⟨rfl, bb17⟩
        refine hK.out _ _ ?_ (fun hH17 => ?_)
        · exact Lie.past hH16 bb17
        have BB17 := below_call BB16 bb17
        have zz17 := bb17.size
        try simp only [World.size_alloc, World.size_drew] at zz17
        have Zq17 : Zr y17 (y1.heap.size) := Zr.past Zq16 bb17
        clear hK K
        try simp only [Act.put, List.setIfInBounds_toArray, List.set_cons_zero, List.set_cons_succ]
        refine wpAnyH_take (i := 3) (oi := ⟨some 89, _, _, _, _, _⟩) (v := ?_) rfl (by kernel_rfl) (by kernel_rfl) (by kernel_rfl) (fun _ _ _ h => h) (Or.inl ⟨by rfl, ?_⟩) hH17 ?_
        rotate_left
        focus (intro wS hSw; (try dsimp only at hSw); (obtain ⟨hS0, hS1, hS2, hS3⟩ := hSw); go_simp; try (with_reducible rfl))
        try simp only [Act.put, List.setIfInBounds_toArray, List.set_cons_zero, List.set_cons_succ]
        refine wpAnyH_take (i := 4) (oi := ⟨some 93, _, _, _, _, _⟩) (v := ?_) rfl (by kernel_rfl) (by kernel_rfl) (by kernel_rfl) (fun _ _ _ h => h) (Or.inl ⟨by rfl, ?_⟩) hH17 ?_
        rotate_left
        focus (intro wS hSw; (try dsimp only at hSw); (obtain ⟨hS0, hS1, hS2, hS3⟩ := hSw); go_simp; try (with_reducible rfl))
        try simp only [Act.put, List.setIfInBounds_toArray, List.set_cons_zero, List.set_cons_succ]
        refine wpAnyH_take (i := 5) (oi := ⟨some 94, _, _, _, _, _⟩) (v := ?_) rfl (by kernel_rfl) (by kernel_rfl) (by kernel_rfl) (fun _ _ _ h => h) (Or.inl ⟨by rfl, ?_⟩) hH17 ?_
        rotate_left
        focus (intro wS hSw; (try dsimp only at hSw); (obtain ⟨hS0, hS1, hS2, hS3⟩ := hSw); go_simp; try (with_reducible rfl))
        try simp only [Act.put, List.setIfInBounds_toArray, List.set_cons_zero, List.set_cons_succ]
        refine wpAnyH_ready (rs := [6]) (by kernel_rfl) (by simp) ?_
        refine AllReadyH.cons (o := ⟨some 27, _, _, _, _, _⟩) rfl (fun K hK => ?_) AllReadyH.nil
        go_simp
        refine hK.out _ _ ?_ (fun hH18 => ?_)
        · exact Lie.alloc hH17 _
        have BB18 := below_laid BB17 (.cells #[.int .u64 0, .int .u64 0, .int .u64 0, .int .u64 0] 24)
        have Zq18 := Zr.alloc Zq17 (.cells #[.int .u64 0, .int .u64 0, .int .u64 0, .int .u64 0] 24)
        have Zp18 := Zr.hereAt y17 (y17.heap.size) (by simp)
        clear hK K
        try simp only [Act.put, List.setIfInBounds_toArray, List.set_cons_zero, List.set_cons_succ]
        have ltp := Zp18.lt
        have ltq := Zq18.lt
        have neA : w.heap.size < v11.heap.size := lx
        have hgp : (v11.alloc (.cells #[.int .u64 (w0 A), .int .u64 (w1 A), .int .u64 (w2 A), .int .u64 (w3 A)] 24)).heap.size ≤ (y17.heap.size) := by simp only [World.size_alloc]; omega
        have hgq : (v11.alloc (.cells #[.int .u64 (w0 A), .int .u64 (w1 A), .int .u64 (w2 A), .int .u64 (w3 A)] 24)).heap.size ≤ (y1.heap.size) := by simp only [World.size_alloc]; omega
        have hne : (y17.heap.size) ≠ (y1.heap.size) := by omega
        have hneA : (y17.heap.size) ≠ w.heap.size := by omega
        have hneB : (y1.heap.size) ≠ w.heap.size := by omega
        have hA8 := hH18
        have hP8 := Zp18
        have hQ8 := Zq18
        have hB8 := BB18
        clear ltp ltq
        generalize (y17.alloc (.cells #[.int .u64 0, .int .u64 0, .int .u64 0, .int .u64 0] 24)) = Wv at hA8 hP8 hQ8 hB8 ⊢
        have ⟨⟨p0, p1, p2, p3⟩, pf0, pf1, pf2, pf3⟩ := hP8
        refine wpAnyH_ready (rs := [8]) (by kernel_rfl) (by simp) ?_
        refine AllReadyH.cons (o := ⟨none, _, _, _, _, _⟩) rfl (fun K hK => ?_) AllReadyH.nil
        go_simp
        refine hK.out _ _ ?_ (fun hH8 => ?_)
        · exact (((Lie.set hA8 hneA _).set hneA _).set hneA _).set hneA _
        clear hK K
        try simp only [Act.put, List.setIfInBounds_toArray, List.set_cons_zero, List.set_cons_succ]
        have F8 := hP8.put (.int .u64 (w0 A)) (.int .u64 (w1 A)) (.int .u64 (w2 A)) (.int .u64 (w3 A))
        have Z8 := ((((hQ8).set (a := ⟨y17.heap.size, 0, none⟩) hne (.int .u64 (w0 A))).set (a := ⟨y17.heap.size, 1, none⟩) hne (.int .u64 (w1 A))).set (a := ⟨y17.heap.size, 2, none⟩) hne (.int .u64 (w2 A))).set (a := ⟨y17.heap.size, 3, none⟩) hne (.int .u64 (w3 A))
        have ⟨⟨q0, q1, q2, q3⟩, qf0, qf1, qf2, qf3⟩ := Z8
        refine wpAnyH_ready (rs := [9]) (by kernel_rfl) (by simp) ?_
        refine AllReadyH.cons (o := ⟨none, _, _, _, _, _⟩) rfl (fun K hK => ?_) AllReadyH.nil
        go_simp
        refine hK.out _ _ ?_ (fun hH9 => ?_)
        · exact (((Lie.set hH8 hneB _).set hneB _).set hneB _).set hneB _
        clear hK K
        try simp only [Act.put, List.setIfInBounds_toArray, List.set_cons_zero, List.set_cons_succ]
        have F9 := Z8.put (.int .u64 0) (.int .u64 0) (.int .u64 0) (.int .u64 0)
        have G9 := (((F8.set (a := ⟨y1.heap.size, 0, none⟩) (Ne.symm hne) (.int .u64 0)).set (a := ⟨y1.heap.size, 1, none⟩) (Ne.symm hne) (.int .u64 0)).set (a := ⟨y1.heap.size, 2, none⟩) (Ne.symm hne) (.int .u64 0)).set (a := ⟨y1.heap.size, 3, none⟩) (Ne.symm hne) (.int .u64 0)
        refine wpAnyH_done (by kernel_rfl) ?_ _
        go_wp2_with fail
        go_meet
        exact ⟨_, _, rfl, rfl, G9, F9.1, F9.2.1, F9.2.2.1, F9.2.2.2, ((((((((hB8.setCell hgp _).setCell hgp _).setCell hgp _).setCell hgp _).setCell hgq _).setCell hgq _).setCell hgq _).setCell hgq _)⟩
      refine AllReadyH.cons (o := ⟨some 27, _, _, _, _, _⟩) rfl (fun K hK => ?_) AllReadyH.nil
      go_simp
      refine hK.out _ _ ?_ (fun hH20 => ?_)
      · exact Lie.alloc hH16 _
      have BB20 := below_laid BB16 (.cells #[.int .u64 0, .int .u64 0, .int .u64 0, .int .u64 0] 24)
      have Zq20 := Zr.alloc Zq16 (.cells #[.int .u64 0, .int .u64 0, .int .u64 0, .int .u64 0] 24)
      have Zp20 := Zr.hereAt (y1.alloc (.cells #[.int .u64 0, .int .u64 0, .int .u64 0, .int .u64 0] 24)) (y1.heap.size + 1) (by simp)
      clear hK K
      try simp only [Act.put, List.setIfInBounds_toArray, List.set_cons_zero, List.set_cons_succ]
      refine wpAnyH_ready (rs := [2]) (by kernel_rfl) (by simp) ?_
      refine AllReadyH.cons (o := ⟨some 92, _, _, _, _, _⟩) rfl (fun K hK => ?_) AllReadyH.nil
      go_simp
      refine (mul_one A hA _).mono ?_
      rintro e y21 ⟨rfl, bb21⟩
      refine hK.out _ _ ?_ (fun hH21 => ?_)
      · exact Lie.past hH20 bb21
      have BB21 := below_call BB20 bb21
      have zz21 := bb21.size
      try simp only [World.size_alloc, World.size_drew] at zz21
      have Zp21 : Zr y21 (y1.heap.size + 1) := Zr.past Zp20 bb21
      have Zq21 : Zr y21 (y1.heap.size) := Zr.past Zq20 bb21
      clear hK K
      try simp only [Act.put, List.setIfInBounds_toArray, List.set_cons_zero, List.set_cons_succ]
      refine wpAnyH_take (i := 3) (oi := ⟨some 89, _, _, _, _, _⟩) (v := ?_) rfl (by kernel_rfl) (by kernel_rfl) (by kernel_rfl) (fun _ _ _ h => h) (Or.inl ⟨by rfl, ?_⟩) hH21 ?_
      rotate_left
      focus (intro wS hSw; (try dsimp only at hSw); (obtain ⟨hS0, hS1, hS2, hS3⟩ := hSw); go_simp; try (with_reducible rfl))
      try simp only [Act.put, List.setIfInBounds_toArray, List.set_cons_zero, List.set_cons_succ]
      refine wpAnyH_take (i := 4) (oi := ⟨some 93, _, _, _, _, _⟩) (v := ?_) rfl (by kernel_rfl) (by kernel_rfl) (by kernel_rfl) (fun _ _ _ h => h) (Or.inl ⟨by rfl, ?_⟩) hH21 ?_
      rotate_left
      focus (intro wS hSw; (try dsimp only at hSw); (obtain ⟨hS0, hS1, hS2, hS3⟩ := hSw); go_simp; try (with_reducible rfl))
      try simp only [Act.put, List.setIfInBounds_toArray, List.set_cons_zero, List.set_cons_succ]
      refine wpAnyH_take (i := 5) (oi := ⟨some 94, _, _, _, _, _⟩) (v := ?_) rfl (by kernel_rfl) (by kernel_rfl) (by kernel_rfl) (fun _ _ _ h => h) (Or.inl ⟨by rfl, ?_⟩) hH21 ?_
      rotate_left
      focus (intro wS hSw; (try dsimp only at hSw); (obtain ⟨hS0, hS1, hS2, hS3⟩ := hSw); go_simp; try (with_reducible rfl))
      try simp only [Act.put, List.setIfInBounds_toArray, List.set_cons_zero, List.set_cons_succ]
      have ltp := Zp21.lt
      have ltq := Zq21.lt
      have neA : w.heap.size < v11.heap.size := lx
      have hgp : (v11.alloc (.cells #[.int .u64 (w0 A), .int .u64 (w1 A), .int .u64 (w2 A), .int .u64 (w3 A)] 24)).heap.size ≤ (y1.heap.size + 1) := by simp only [World.size_alloc]; omega
      have hgq : (v11.alloc (.cells #[.int .u64 (w0 A), .int .u64 (w1 A), .int .u64 (w2 A), .int .u64 (w3 A)] 24)).heap.size ≤ (y1.heap.size) := by simp only [World.size_alloc]; omega
      have hne : (y1.heap.size + 1) ≠ (y1.heap.size) := by omega
      have hneA : (y1.heap.size + 1) ≠ w.heap.size := by omega
      have hneB : (y1.heap.size) ≠ w.heap.size := by omega
      have hA8 := hH21
      have hP8 := Zp21
      have hQ8 := Zq21
      have hB8 := BB21
      clear ltp ltq
      have ⟨⟨p0, p1, p2, p3⟩, pf0, pf1, pf2, pf3⟩ := hP8
      refine wpAnyH_ready (rs := [8]) (by kernel_rfl) (by simp) ?_
      refine AllReadyH.cons (o := ⟨none, _, _, _, _, _⟩) rfl (fun K hK => ?_) AllReadyH.nil
      go_simp
      refine hK.out _ _ ?_ (fun hH8 => ?_)
      · exact (((Lie.set hA8 hneA _).set hneA _).set hneA _).set hneA _
      clear hK K
      try simp only [Act.put, List.setIfInBounds_toArray, List.set_cons_zero, List.set_cons_succ]
      have F8 := hP8.put (.int .u64 (w0 A)) (.int .u64 (w1 A)) (.int .u64 (w2 A)) (.int .u64 (w3 A))
      have Z8 := ((((hQ8).set (a := ⟨y1.heap.size + 1, 0, none⟩) hne (.int .u64 (w0 A))).set (a := ⟨y1.heap.size + 1, 1, none⟩) hne (.int .u64 (w1 A))).set (a := ⟨y1.heap.size + 1, 2, none⟩) hne (.int .u64 (w2 A))).set (a := ⟨y1.heap.size + 1, 3, none⟩) hne (.int .u64 (w3 A))
      have ⟨⟨q0, q1, q2, q3⟩, qf0, qf1, qf2, qf3⟩ := Z8
      refine wpAnyH_ready (rs := [9]) (by kernel_rfl) (by simp) ?_
      refine AllReadyH.cons (o := ⟨none, _, _, _, _, _⟩) rfl (fun K hK => ?_) AllReadyH.nil
      go_simp
      refine hK.out _ _ ?_ (fun hH9 => ?_)
      · exact (((Lie.set hH8 hneB _).set hneB _).set hneB _).set hneB _
      clear hK K
      try simp only [Act.put, List.setIfInBounds_toArray, List.set_cons_zero, List.set_cons_succ]
      have F9 := Z8.put (.int .u64 0) (.int .u64 0) (.int .u64 0) (.int .u64 0)
      have G9 := (((F8.set (a := ⟨y1.heap.size, 0, none⟩) (Ne.symm hne) (.int .u64 0)).set (a := ⟨y1.heap.size, 1, none⟩) (Ne.symm hne) (.int .u64 0)).set (a := ⟨y1.heap.size, 2, none⟩) (Ne.symm hne) (.int .u64 0)).set (a := ⟨y1.heap.size, 3, none⟩) (Ne.symm hne) (.int .u64 0)
      refine wpAnyH_done (by kernel_rfl) ?_ _
      go_wp2_with fail
      go_meet
      exact ⟨_, _, rfl, rfl, G9, F9.1, F9.2.1, F9.2.2.1, F9.2.2.2, ((((((((hB8.setCell hgp _).setCell hgp _).setCell hgp _).setCell hgp _).setCell hgq _).setCell hgq _).setCell hgq _).setCell hgq _)⟩
    refine AllReadyH.cons (o := ⟨some 27, _, _, _, _, _⟩) rfl (fun K hK => ?_) ?_
    · go_simp
      refine hK.out _ _ ?_ (fun hH23 => ?_)
      · exact Lie.alloc hH _
      have BB23 := below_laid BBs (.cells #[.int .u64 0, .int .u64 0, .int .u64 0, .int .u64 0] 24)
      have Zp23 := Zr.hereAt (v11.alloc (.cells #[.int .u64 (w0 A), .int .u64 (w1 A), .int .u64 (w2 A), .int .u64 (w3 A)] 24)).drew (v11.heap.size + 1) (by simp)
      clear hK K
      try simp only [Act.put, List.setIfInBounds_toArray, List.set_cons_zero, List.set_cons_succ]
      refine wpAnyH_ready (rs := [1, 7]) (by kernel_rfl) (by simp) ?_
      refine AllReadyH.cons (o := ⟨some 91, _, _, _, _, _⟩) rfl (fun K hK => ?_) ?_
      · go_simp
        refine (small_any 1 _).mono ?_
        rintro e y24 ⟨rfl, bb24⟩
        refine hK.out _ _ ?_ (fun hH24 => ?_)
        · exact Lie.past hH23 bb24
        have BB24 := below_call BB23 bb24
        have zz24 := bb24.size
        try simp only [World.size_alloc, World.size_drew] at zz24
        have Zp24 : Zr y24 (v11.heap.size + 1) := Zr.past Zp23 bb24
        clear hK K
        try simp only [Act.put, List.setIfInBounds_toArray, List.set_cons_zero, List.set_cons_succ]
        refine wpAnyH_ready (rs := [2, 7]) (by kernel_rfl) (by simp) ?_
        refine AllReadyH.cons (o := ⟨some 92, _, _, _, _, _⟩) rfl (fun K hK => ?_) ?_
        · go_simp
          refine (mul_one A hA _).mono ?_
          rintro e y25 ⟨rfl, bb25⟩
          refine hK.out _ _ ?_ (fun hH25 => ?_)
          · exact Lie.past hH24 bb25
          have BB25 := below_call BB24 bb25
          have zz25 := bb25.size
          try simp only [World.size_alloc, World.size_drew] at zz25
          have Zp25 : Zr y25 (v11.heap.size + 1) := Zr.past Zp24 bb25
          clear hK K
          try simp only [Act.put, List.setIfInBounds_toArray, List.set_cons_zero, List.set_cons_succ]
          refine wpAnyH_take (i := 3) (oi := ⟨some 89, _, _, _, _, _⟩) (v := ?_) rfl (by kernel_rfl) (by kernel_rfl) (by kernel_rfl) (fun _ _ _ h => h) (Or.inl ⟨by rfl, ?_⟩) hH25 ?_
          rotate_left
          focus (intro wS hSw; (try dsimp only at hSw); (obtain ⟨hS0, hS1, hS2, hS3⟩ := hSw); go_simp; try (with_reducible rfl))
          try simp only [Act.put, List.setIfInBounds_toArray, List.set_cons_zero, List.set_cons_succ]
          refine wpAnyH_take (i := 4) (oi := ⟨some 93, _, _, _, _, _⟩) (v := ?_) rfl (by kernel_rfl) (by kernel_rfl) (by kernel_rfl) (fun _ _ _ h => h) (Or.inl ⟨by rfl, ?_⟩) hH25 ?_
          rotate_left
          focus (intro wS hSw; (try dsimp only at hSw); (obtain ⟨hS0, hS1, hS2, hS3⟩ := hSw); go_simp; try (with_reducible rfl))
          try simp only [Act.put, List.setIfInBounds_toArray, List.set_cons_zero, List.set_cons_succ]
          refine wpAnyH_take (i := 5) (oi := ⟨some 94, _, _, _, _, _⟩) (v := ?_) rfl (by kernel_rfl) (by kernel_rfl) (by kernel_rfl) (fun _ _ _ h => h) (Or.inl ⟨by rfl, ?_⟩) hH25 ?_
          rotate_left
          focus (intro wS hSw; (try dsimp only at hSw); (obtain ⟨hS0, hS1, hS2, hS3⟩ := hSw); go_simp; try (with_reducible rfl))
          try simp only [Act.put, List.setIfInBounds_toArray, List.set_cons_zero, List.set_cons_succ]
          refine wpAnyH_ready (rs := [7]) (by kernel_rfl) (by simp) ?_
          refine AllReadyH.cons (o := ⟨some 28, _, _, _, _, _⟩) rfl (fun K hK => ?_) AllReadyH.nil
          go_simp
          refine hK.out _ _ ?_ (fun hH26 => ?_)
          · exact Lie.alloc hH25 _
          have BB26 := below_laid BB25 (.cells #[.int .u64 0, .int .u64 0, .int .u64 0, .int .u64 0] 24)
          have Zp26 := Zr.alloc Zp25 (.cells #[.int .u64 0, .int .u64 0, .int .u64 0, .int .u64 0] 24)
          have Zq26 := Zr.hereAt y25 (y25.heap.size) (by simp)
          clear hK K
          try simp only [Act.put, List.setIfInBounds_toArray, List.set_cons_zero, List.set_cons_succ]
          have ltp := Zp26.lt
          have ltq := Zq26.lt
          have neA : w.heap.size < v11.heap.size := lx
          have hgp : (v11.alloc (.cells #[.int .u64 (w0 A), .int .u64 (w1 A), .int .u64 (w2 A), .int .u64 (w3 A)] 24)).heap.size ≤ (v11.heap.size + 1) := by simp only [World.size_alloc]; omega
          have hgq : (v11.alloc (.cells #[.int .u64 (w0 A), .int .u64 (w1 A), .int .u64 (w2 A), .int .u64 (w3 A)] 24)).heap.size ≤ (y25.heap.size) := by simp only [World.size_alloc]; omega
          have hne : (v11.heap.size + 1) ≠ (y25.heap.size) := by omega
          have hneA : (v11.heap.size + 1) ≠ w.heap.size := by omega
          have hneB : (y25.heap.size) ≠ w.heap.size := by omega
          have hA8 := hH26
          have hP8 := Zp26
          have hQ8 := Zq26
          have hB8 := BB26
          clear ltp ltq
          generalize (y25.alloc (.cells #[.int .u64 0, .int .u64 0, .int .u64 0, .int .u64 0] 24)) = Wv at hA8 hP8 hQ8 hB8 ⊢
          have ⟨⟨p0, p1, p2, p3⟩, pf0, pf1, pf2, pf3⟩ := hP8
          refine wpAnyH_ready (rs := [8]) (by kernel_rfl) (by simp) ?_
          refine AllReadyH.cons (o := ⟨none, _, _, _, _, _⟩) rfl (fun K hK => ?_) AllReadyH.nil
          go_simp
          refine hK.out _ _ ?_ (fun hH8 => ?_)
          · exact (((Lie.set hA8 hneA _).set hneA _).set hneA _).set hneA _
          clear hK K
          try simp only [Act.put, List.setIfInBounds_toArray, List.set_cons_zero, List.set_cons_succ]
          have F8 := hP8.put (.int .u64 (w0 A)) (.int .u64 (w1 A)) (.int .u64 (w2 A)) (.int .u64 (w3 A))
          have Z8 := ((((hQ8).set (a := ⟨v11.heap.size + 1, 0, none⟩) hne (.int .u64 (w0 A))).set (a := ⟨v11.heap.size + 1, 1, none⟩) hne (.int .u64 (w1 A))).set (a := ⟨v11.heap.size + 1, 2, none⟩) hne (.int .u64 (w2 A))).set (a := ⟨v11.heap.size + 1, 3, none⟩) hne (.int .u64 (w3 A))
          have ⟨⟨q0, q1, q2, q3⟩, qf0, qf1, qf2, qf3⟩ := Z8
          refine wpAnyH_ready (rs := [9]) (by kernel_rfl) (by simp) ?_
          refine AllReadyH.cons (o := ⟨none, _, _, _, _, _⟩) rfl (fun K hK => ?_) AllReadyH.nil
          go_simp
          refine hK.out _ _ ?_ (fun hH9 => ?_)
          · exact (((Lie.set hH8 hneB _).set hneB _).set hneB _).set hneB _
          clear hK K
          try simp only [Act.put, List.setIfInBounds_toArray, List.set_cons_zero, List.set_cons_succ]
          have F9 := Z8.put (.int .u64 0) (.int .u64 0) (.int .u64 0) (.int .u64 0)
          have G9 := (((F8.set (a := ⟨y25.heap.size, 0, none⟩) (Ne.symm hne) (.int .u64 0)).set (a := ⟨y25.heap.size, 1, none⟩) (Ne.symm hne) (.int .u64 0)).set (a := ⟨y25.heap.size, 2, none⟩) (Ne.symm hne) (.int .u64 0)).set (a := ⟨y25.heap.size, 3, none⟩) (Ne.symm hne) (.int .u64 0)
          refine wpAnyH_done (by kernel_rfl) ?_ _
          go_wp2_with fail
          go_meet
          exact ⟨_, _, rfl, rfl, G9, F9.1, F9.2.1, F9.2.2.1, F9.2.2.2, ((((((((hB8.setCell hgp _).setCell hgp _).setCell hgp _).setCell hgp _).setCell hgq _).setCell hgq _).setCell hgq _).setCell hgq _)⟩
        refine AllReadyH.cons (o := ⟨some 28, _, _, _, _, _⟩) rfl (fun K hK => ?_) AllReadyH.nil
        go_simp
        refine hK.out _ _ ?_ (fun hH28 => ?_)
        · exact Lie.alloc hH24 _
        have BB28 := below_laid BB24 (.cells #[.int .u64 0, .int .u64 0, .int .u64 0, .int .u64 0] 24)
        have Zp28 := Zr.alloc Zp24 (.cells #[.int .u64 0, .int .u64 0, .int .u64 0, .int .u64 0] 24)
        have Zq28 := Zr.hereAt y24 (y24.heap.size) (by simp)
        clear hK K
        try simp only [Act.put, List.setIfInBounds_toArray, List.set_cons_zero, List.set_cons_succ]
        refine wpAnyH_ready (rs := [2]) (by kernel_rfl) (by simp) ?_
        refine AllReadyH.cons (o := ⟨some 92, _, _, _, _, _⟩) rfl (fun K hK => ?_) AllReadyH.nil
        go_simp
        refine (mul_one A hA _).mono ?_
        rintro e y29 ⟨rfl, bb29⟩
        refine hK.out _ _ ?_ (fun hH29 => ?_)
        · exact Lie.past hH28 bb29
        have BB29 := below_call BB28 bb29
        have zz29 := bb29.size
        try simp only [World.size_alloc, World.size_drew] at zz29
        have Zp29 : Zr y29 (v11.heap.size + 1) := Zr.past Zp28 bb29
        have Zq29 : Zr y29 (y24.heap.size) := Zr.past Zq28 bb29
        clear hK K
        try simp only [Act.put, List.setIfInBounds_toArray, List.set_cons_zero, List.set_cons_succ]
        refine wpAnyH_take (i := 3) (oi := ⟨some 89, _, _, _, _, _⟩) (v := ?_) rfl (by kernel_rfl) (by kernel_rfl) (by kernel_rfl) (fun _ _ _ h => h) (Or.inl ⟨by rfl, ?_⟩) hH29 ?_
        rotate_left
        focus (intro wS hSw; (try dsimp only at hSw); (obtain ⟨hS0, hS1, hS2, hS3⟩ := hSw); go_simp; try (with_reducible rfl))
        try simp only [Act.put, List.setIfInBounds_toArray, List.set_cons_zero, List.set_cons_succ]
        refine wpAnyH_take (i := 4) (oi := ⟨some 93, _, _, _, _, _⟩) (v := ?_) rfl (by kernel_rfl) (by kernel_rfl) (by kernel_rfl) (fun _ _ _ h => h) (Or.inl ⟨by rfl, ?_⟩) hH29 ?_
        rotate_left
        focus (intro wS hSw; (try dsimp only at hSw); (obtain ⟨hS0, hS1, hS2, hS3⟩ := hSw); go_simp; try (with_reducible rfl))
        try simp only [Act.put, List.setIfInBounds_toArray, List.set_cons_zero, List.set_cons_succ]
        refine wpAnyH_take (i := 5) (oi := ⟨some 94, _, _, _, _, _⟩) (v := ?_) rfl (by kernel_rfl) (by kernel_rfl) (by kernel_rfl) (fun _ _ _ h => h) (Or.inl ⟨by rfl, ?_⟩) hH29 ?_
        rotate_left
        focus (intro wS hSw; (try dsimp only at hSw); (obtain ⟨hS0, hS1, hS2, hS3⟩ := hSw); go_simp; try (with_reducible rfl))
        try simp only [Act.put, List.setIfInBounds_toArray, List.set_cons_zero, List.set_cons_succ]
        have ltp := Zp29.lt
        have ltq := Zq29.lt
        have neA : w.heap.size < v11.heap.size := lx
        have hgp : (v11.alloc (.cells #[.int .u64 (w0 A), .int .u64 (w1 A), .int .u64 (w2 A), .int .u64 (w3 A)] 24)).heap.size ≤ (v11.heap.size + 1) := by simp only [World.size_alloc]; omega
        have hgq : (v11.alloc (.cells #[.int .u64 (w0 A), .int .u64 (w1 A), .int .u64 (w2 A), .int .u64 (w3 A)] 24)).heap.size ≤ (y24.heap.size) := by simp only [World.size_alloc]; omega
        have hne : (v11.heap.size + 1) ≠ (y24.heap.size) := by omega
        have hneA : (v11.heap.size + 1) ≠ w.heap.size := by omega
        have hneB : (y24.heap.size) ≠ w.heap.size := by omega
        have hA8 := hH29
        have hP8 := Zp29
        have hQ8 := Zq29
        have hB8 := BB29
        clear ltp ltq
        have ⟨⟨p0, p1, p2, p3⟩, pf0, pf1, pf2, pf3⟩ := hP8
        refine wpAnyH_ready (rs := [8]) (by kernel_rfl) (by simp) ?_
        refine AllReadyH.cons (o := ⟨none, _, _, _, _, _⟩) rfl (fun K hK => ?_) AllReadyH.nil
        go_simp
        refine hK.out _ _ ?_ (fun hH8 => ?_)
        · exact (((Lie.set hA8 hneA _).set hneA _).set hneA _).set hneA _
        clear hK K
        try simp only [Act.put, List.setIfInBounds_toArray, List.set_cons_zero, List.set_cons_succ]
        have F8 := hP8.put (.int .u64 (w0 A)) (.int .u64 (w1 A)) (.int .u64 (w2 A)) (.int .u64 (w3 A))
        have Z8 := ((((hQ8).set (a := ⟨v11.heap.size + 1, 0, none⟩) hne (.int .u64 (w0 A))).set (a := ⟨v11.heap.size + 1, 1, none⟩) hne (.int .u64 (w1 A))).set (a := ⟨v11.heap.size + 1, 2, none⟩) hne (.int .u64 (w2 A))).set (a := ⟨v11.heap.size + 1, 3, none⟩) hne (.int .u64 (w3 A))
        have ⟨⟨q0, q1, q2, q3⟩, qf0, qf1, qf2, qf3⟩ := Z8
        refine wpAnyH_ready (rs := [9]) (by kernel_rfl) (by simp) ?_
        refine AllReadyH.cons (o := ⟨none, _, _, _, _, _⟩) rfl (fun K hK => ?_) AllReadyH.nil
        go_simp
        refine hK.out _ _ ?_ (fun hH9 => ?_)
        · exact (((Lie.set hH8 hneB _).set hneB _).set hneB _).set hneB _
        clear hK K
        try simp only [Act.put, List.setIfInBounds_toArray, List.set_cons_zero, List.set_cons_succ]
        have F9 := Z8.put (.int .u64 0) (.int .u64 0) (.int .u64 0) (.int .u64 0)
        have G9 := (((F8.set (a := ⟨y24.heap.size, 0, none⟩) (Ne.symm hne) (.int .u64 0)).set (a := ⟨y24.heap.size, 1, none⟩) (Ne.symm hne) (.int .u64 0)).set (a := ⟨y24.heap.size, 2, none⟩) (Ne.symm hne) (.int .u64 0)).set (a := ⟨y24.heap.size, 3, none⟩) (Ne.symm hne) (.int .u64 0)
        refine wpAnyH_done (by kernel_rfl) ?_ _
        go_wp2_with fail
        go_meet
        exact ⟨_, _, rfl, rfl, G9, F9.1, F9.2.1, F9.2.2.1, F9.2.2.2, ((((((((hB8.setCell hgp _).setCell hgp _).setCell hgp _).setCell hgp _).setCell hgq _).setCell hgq _).setCell hgq _).setCell hgq _)⟩
      refine AllReadyH.cons (o := ⟨some 28, _, _, _, _, _⟩) rfl (fun K hK => ?_) AllReadyH.nil
      go_simp
      refine hK.out _ _ ?_ (fun hH31 => ?_)
      · exact Lie.alloc hH23 _
      have BB31 := below_laid BB23 (.cells #[.int .u64 0, .int .u64 0, .int .u64 0, .int .u64 0] 24)
      have Zp31 := Zr.alloc Zp23 (.cells #[.int .u64 0, .int .u64 0, .int .u64 0, .int .u64 0] 24)
      have Zq31 := Zr.hereAt ((v11.alloc (.cells #[.int .u64 (w0 A), .int .u64 (w1 A), .int .u64 (w2 A), .int .u64 (w3 A)] 24)).drew.alloc (.cells #[.int .u64 0, .int .u64 0, .int .u64 0, .int .u64 0] 24)) (v11.heap.size + 1 + 1) (by simp)
      clear hK K
      try simp only [Act.put, List.setIfInBounds_toArray, List.set_cons_zero, List.set_cons_succ]
      refine wpAnyH_ready (rs := [1]) (by kernel_rfl) (by simp) ?_
      refine AllReadyH.cons (o := ⟨some 91, _, _, _, _, _⟩) rfl (fun K hK => ?_) AllReadyH.nil
      go_simp
      refine (small_any 1 _).mono ?_
      rintro e y32 ⟨rfl, bb32⟩
      refine hK.out _ _ ?_ (fun hH32 => ?_)
      · exact Lie.past hH31 bb32
      have BB32 := below_call BB31 bb32
      have zz32 := bb32.size
      try simp only [World.size_alloc, World.size_drew] at zz32
      have Zp32 : Zr y32 (v11.heap.size + 1) := Zr.past Zp31 bb32
      have Zq32 : Zr y32 (v11.heap.size + 1 + 1) := Zr.past Zq31 bb32
      clear hK K
      try simp only [Act.put, List.setIfInBounds_toArray, List.set_cons_zero, List.set_cons_succ]
      refine wpAnyH_ready (rs := [2]) (by kernel_rfl) (by simp) ?_
      refine AllReadyH.cons (o := ⟨some 92, _, _, _, _, _⟩) rfl (fun K hK => ?_) AllReadyH.nil
      go_simp
      refine (mul_one A hA _).mono ?_
      rintro e y33 ⟨rfl, bb33⟩
      refine hK.out _ _ ?_ (fun hH33 => ?_)
      · exact Lie.past hH32 bb33
      have BB33 := below_call BB32 bb33
      have zz33 := bb33.size
      try simp only [World.size_alloc, World.size_drew] at zz33
      have Zp33 : Zr y33 (v11.heap.size + 1) := Zr.past Zp32 bb33
      have Zq33 : Zr y33 (v11.heap.size + 1 + 1) := Zr.past Zq32 bb33
      clear hK K
      try simp only [Act.put, List.setIfInBounds_toArray, List.set_cons_zero, List.set_cons_succ]
      refine wpAnyH_take (i := 3) (oi := ⟨some 89, _, _, _, _, _⟩) (v := ?_) rfl (by kernel_rfl) (by kernel_rfl) (by kernel_rfl) (fun _ _ _ h => h) (Or.inl ⟨by rfl, ?_⟩) hH33 ?_
      rotate_left
      focus (intro wS hSw; (try dsimp only at hSw); (obtain ⟨hS0, hS1, hS2, hS3⟩ := hSw); go_simp; try (with_reducible rfl))
      try simp only [Act.put, List.setIfInBounds_toArray, List.set_cons_zero, List.set_cons_succ]
      refine wpAnyH_take (i := 4) (oi := ⟨some 93, _, _, _, _, _⟩) (v := ?_) rfl (by kernel_rfl) (by kernel_rfl) (by kernel_rfl) (fun _ _ _ h => h) (Or.inl ⟨by rfl, ?_⟩) hH33 ?_
      rotate_left
      focus (intro wS hSw; (try dsimp only at hSw); (obtain ⟨hS0, hS1, hS2, hS3⟩ := hSw); go_simp; try (with_reducible rfl))
      try simp only [Act.put, List.setIfInBounds_toArray, List.set_cons_zero, List.set_cons_succ]
      refine wpAnyH_take (i := 5) (oi := ⟨some 94, _, _, _, _, _⟩) (v := ?_) rfl (by kernel_rfl) (by kernel_rfl) (by kernel_rfl) (fun _ _ _ h => h) (Or.inl ⟨by rfl, ?_⟩) hH33 ?_
      rotate_left
      focus (intro wS hSw; (try dsimp only at hSw); (obtain ⟨hS0, hS1, hS2, hS3⟩ := hSw); go_simp; try (with_reducible rfl))
      try simp only [Act.put, List.setIfInBounds_toArray, List.set_cons_zero, List.set_cons_succ]
      have ltp := Zp33.lt
      have ltq := Zq33.lt
      have neA : w.heap.size < v11.heap.size := lx
      have hgp : (v11.alloc (.cells #[.int .u64 (w0 A), .int .u64 (w1 A), .int .u64 (w2 A), .int .u64 (w3 A)] 24)).heap.size ≤ (v11.heap.size + 1) := by simp only [World.size_alloc]; omega
      have hgq : (v11.alloc (.cells #[.int .u64 (w0 A), .int .u64 (w1 A), .int .u64 (w2 A), .int .u64 (w3 A)] 24)).heap.size ≤ (v11.heap.size + 1 + 1) := by simp only [World.size_alloc]; omega
      have hne : (v11.heap.size + 1) ≠ (v11.heap.size + 1 + 1) := by omega
      have hneA : (v11.heap.size + 1) ≠ w.heap.size := by omega
      have hneB : (v11.heap.size + 1 + 1) ≠ w.heap.size := by omega
      have hA8 := hH33
      have hP8 := Zp33
      have hQ8 := Zq33
      have hB8 := BB33
      clear ltp ltq
      have ⟨⟨p0, p1, p2, p3⟩, pf0, pf1, pf2, pf3⟩ := hP8
      refine wpAnyH_ready (rs := [8]) (by kernel_rfl) (by simp) ?_
      refine AllReadyH.cons (o := ⟨none, _, _, _, _, _⟩) rfl (fun K hK => ?_) AllReadyH.nil
      go_simp
      refine hK.out _ _ ?_ (fun hH8 => ?_)
      · exact (((Lie.set hA8 hneA _).set hneA _).set hneA _).set hneA _
      clear hK K
      try simp only [Act.put, List.setIfInBounds_toArray, List.set_cons_zero, List.set_cons_succ]
      have F8 := hP8.put (.int .u64 (w0 A)) (.int .u64 (w1 A)) (.int .u64 (w2 A)) (.int .u64 (w3 A))
      have Z8 := ((((hQ8).set (a := ⟨v11.heap.size + 1, 0, none⟩) hne (.int .u64 (w0 A))).set (a := ⟨v11.heap.size + 1, 1, none⟩) hne (.int .u64 (w1 A))).set (a := ⟨v11.heap.size + 1, 2, none⟩) hne (.int .u64 (w2 A))).set (a := ⟨v11.heap.size + 1, 3, none⟩) hne (.int .u64 (w3 A))
      have ⟨⟨q0, q1, q2, q3⟩, qf0, qf1, qf2, qf3⟩ := Z8
      refine wpAnyH_ready (rs := [9]) (by kernel_rfl) (by simp) ?_
      refine AllReadyH.cons (o := ⟨none, _, _, _, _, _⟩) rfl (fun K hK => ?_) AllReadyH.nil
      go_simp
      refine hK.out _ _ ?_ (fun hH9 => ?_)
      · exact (((Lie.set hH8 hneB _).set hneB _).set hneB _).set hneB _
      clear hK K
      try simp only [Act.put, List.setIfInBounds_toArray, List.set_cons_zero, List.set_cons_succ]
      have F9 := Z8.put (.int .u64 0) (.int .u64 0) (.int .u64 0) (.int .u64 0)
      have G9 := (((F8.set (a := ⟨v11.heap.size + 1 + 1, 0, none⟩) (Ne.symm hne) (.int .u64 0)).set (a := ⟨v11.heap.size + 1 + 1, 1, none⟩) (Ne.symm hne) (.int .u64 0)).set (a := ⟨v11.heap.size + 1 + 1, 2, none⟩) (Ne.symm hne) (.int .u64 0)).set (a := ⟨v11.heap.size + 1 + 1, 3, none⟩) (Ne.symm hne) (.int .u64 0)
      refine wpAnyH_done (by kernel_rfl) ?_ _
      go_wp2_with fail
      go_meet
      exact ⟨_, _, rfl, rfl, G9, F9.1, F9.2.1, F9.2.2.1, F9.2.2.2, ((((((((hB8.setCell hgp _).setCell hgp _).setCell hgp _).setCell hgp _).setCell hgq _).setCell hgq _).setCell hgq _).setCell hgq _)⟩
    refine AllReadyH.cons (o := ⟨some 28, _, _, _, _, _⟩) rfl (fun K hK => ?_) AllReadyH.nil
    go_simp
    refine hK.out _ _ ?_ (fun hH35 => ?_)
    · exact Lie.alloc hH _
    have BB35 := below_laid BBs (.cells #[.int .u64 0, .int .u64 0, .int .u64 0, .int .u64 0] 24)
    have Zq35 := Zr.hereAt (v11.alloc (.cells #[.int .u64 (w0 A), .int .u64 (w1 A), .int .u64 (w2 A), .int .u64 (w3 A)] 24)).drew (v11.heap.size + 1) (by simp)
    clear hK K
    try simp only [Act.put, List.setIfInBounds_toArray, List.set_cons_zero, List.set_cons_succ]
    refine wpAnyH_ready (rs := [1, 6]) (by kernel_rfl) (by simp) ?_
    refine AllReadyH.cons (o := ⟨some 91, _, _, _, _, _⟩) rfl (fun K hK => ?_) ?_
    · go_simp
      refine (small_any 1 _).mono ?_
      rintro e y36 ⟨rfl, bb36⟩
      refine hK.out _ _ ?_ (fun hH36 => ?_)
      · exact Lie.past hH35 bb36
      have BB36 := below_call BB35 bb36
      have zz36 := bb36.size
      try simp only [World.size_alloc, World.size_drew] at zz36
      have Zq36 : Zr y36 (v11.heap.size + 1) := Zr.past Zq35 bb36
      clear hK K
      try simp only [Act.put, List.setIfInBounds_toArray, List.set_cons_zero, List.set_cons_succ]
      refine wpAnyH_ready (rs := [2, 6]) (by kernel_rfl) (by simp) ?_
      refine AllReadyH.cons (o := ⟨some 92, _, _, _, _, _⟩) rfl (fun K hK => ?_) ?_
      · go_simp
        refine (mul_one A hA _).mono ?_
        rintro e y37 ⟨rfl, bb37⟩
        refine hK.out _ _ ?_ (fun hH37 => ?_)
        · exact Lie.past hH36 bb37
        have BB37 := below_call BB36 bb37
        have zz37 := bb37.size
        try simp only [World.size_alloc, World.size_drew] at zz37
        have Zq37 : Zr y37 (v11.heap.size + 1) := Zr.past Zq36 bb37
        clear hK K
        try simp only [Act.put, List.setIfInBounds_toArray, List.set_cons_zero, List.set_cons_succ]
        refine wpAnyH_take (i := 3) (oi := ⟨some 89, _, _, _, _, _⟩) (v := ?_) rfl (by kernel_rfl) (by kernel_rfl) (by kernel_rfl) (fun _ _ _ h => h) (Or.inl ⟨by rfl, ?_⟩) hH37 ?_
        rotate_left
        focus (intro wS hSw; (try dsimp only at hSw); (obtain ⟨hS0, hS1, hS2, hS3⟩ := hSw); go_simp; try (with_reducible rfl))
        try simp only [Act.put, List.setIfInBounds_toArray, List.set_cons_zero, List.set_cons_succ]
        refine wpAnyH_take (i := 4) (oi := ⟨some 93, _, _, _, _, _⟩) (v := ?_) rfl (by kernel_rfl) (by kernel_rfl) (by kernel_rfl) (fun _ _ _ h => h) (Or.inl ⟨by rfl, ?_⟩) hH37 ?_
        rotate_left
        focus (intro wS hSw; (try dsimp only at hSw); (obtain ⟨hS0, hS1, hS2, hS3⟩ := hSw); go_simp; try (with_reducible rfl))
        try simp only [Act.put, List.setIfInBounds_toArray, List.set_cons_zero, List.set_cons_succ]
        refine wpAnyH_take (i := 5) (oi := ⟨some 94, _, _, _, _, _⟩) (v := ?_) rfl (by kernel_rfl) (by kernel_rfl) (by kernel_rfl) (fun _ _ _ h => h) (Or.inl ⟨by rfl, ?_⟩) hH37 ?_
        rotate_left
        focus (intro wS hSw; (try dsimp only at hSw); (obtain ⟨hS0, hS1, hS2, hS3⟩ := hSw); go_simp; try (with_reducible rfl))
        try simp only [Act.put, List.setIfInBounds_toArray, List.set_cons_zero, List.set_cons_succ]
        refine wpAnyH_ready (rs := [6]) (by kernel_rfl) (by simp) ?_
        refine AllReadyH.cons (o := ⟨some 27, _, _, _, _, _⟩) rfl (fun K hK => ?_) AllReadyH.nil
        go_simp
        refine hK.out _ _ ?_ (fun hH38 => ?_)
        · exact Lie.alloc hH37 _
        have BB38 := below_laid BB37 (.cells #[.int .u64 0, .int .u64 0, .int .u64 0, .int .u64 0] 24)
        have Zq38 := Zr.alloc Zq37 (.cells #[.int .u64 0, .int .u64 0, .int .u64 0, .int .u64 0] 24)
        have Zp38 := Zr.hereAt y37 (y37.heap.size) (by simp)
        clear hK K
        try simp only [Act.put, List.setIfInBounds_toArray, List.set_cons_zero, List.set_cons_succ]
        have ltp := Zp38.lt
        have ltq := Zq38.lt
        have neA : w.heap.size < v11.heap.size := lx
        have hgp : (v11.alloc (.cells #[.int .u64 (w0 A), .int .u64 (w1 A), .int .u64 (w2 A), .int .u64 (w3 A)] 24)).heap.size ≤ (y37.heap.size) := by simp only [World.size_alloc]; omega
        have hgq : (v11.alloc (.cells #[.int .u64 (w0 A), .int .u64 (w1 A), .int .u64 (w2 A), .int .u64 (w3 A)] 24)).heap.size ≤ (v11.heap.size + 1) := by simp only [World.size_alloc]; omega
        have hne : (y37.heap.size) ≠ (v11.heap.size + 1) := by omega
        have hneA : (y37.heap.size) ≠ w.heap.size := by omega
        have hneB : (v11.heap.size + 1) ≠ w.heap.size := by omega
        have hA8 := hH38
        have hP8 := Zp38
        have hQ8 := Zq38
        have hB8 := BB38
        clear ltp ltq
        generalize (y37.alloc (.cells #[.int .u64 0, .int .u64 0, .int .u64 0, .int .u64 0] 24)) = Wv at hA8 hP8 hQ8 hB8 ⊢
        have ⟨⟨p0, p1, p2, p3⟩, pf0, pf1, pf2, pf3⟩ := hP8
        refine wpAnyH_ready (rs := [8]) (by kernel_rfl) (by simp) ?_
        refine AllReadyH.cons (o := ⟨none, _, _, _, _, _⟩) rfl (fun K hK => ?_) AllReadyH.nil
        go_simp
        refine hK.out _ _ ?_ (fun hH8 => ?_)
        · exact (((Lie.set hA8 hneA _).set hneA _).set hneA _).set hneA _
        clear hK K
        try simp only [Act.put, List.setIfInBounds_toArray, List.set_cons_zero, List.set_cons_succ]
        have F8 := hP8.put (.int .u64 (w0 A)) (.int .u64 (w1 A)) (.int .u64 (w2 A)) (.int .u64 (w3 A))
        have Z8 := ((((hQ8).set (a := ⟨y37.heap.size, 0, none⟩) hne (.int .u64 (w0 A))).set (a := ⟨y37.heap.size, 1, none⟩) hne (.int .u64 (w1 A))).set (a := ⟨y37.heap.size, 2, none⟩) hne (.int .u64 (w2 A))).set (a := ⟨y37.heap.size, 3, none⟩) hne (.int .u64 (w3 A))
        have ⟨⟨q0, q1, q2, q3⟩, qf0, qf1, qf2, qf3⟩ := Z8
        refine wpAnyH_ready (rs := [9]) (by kernel_rfl) (by simp) ?_
        refine AllReadyH.cons (o := ⟨none, _, _, _, _, _⟩) rfl (fun K hK => ?_) AllReadyH.nil
        go_simp
        refine hK.out _ _ ?_ (fun hH9 => ?_)
        · exact (((Lie.set hH8 hneB _).set hneB _).set hneB _).set hneB _
        clear hK K
        try simp only [Act.put, List.setIfInBounds_toArray, List.set_cons_zero, List.set_cons_succ]
        have F9 := Z8.put (.int .u64 0) (.int .u64 0) (.int .u64 0) (.int .u64 0)
        have G9 := (((F8.set (a := ⟨v11.heap.size + 1, 0, none⟩) (Ne.symm hne) (.int .u64 0)).set (a := ⟨v11.heap.size + 1, 1, none⟩) (Ne.symm hne) (.int .u64 0)).set (a := ⟨v11.heap.size + 1, 2, none⟩) (Ne.symm hne) (.int .u64 0)).set (a := ⟨v11.heap.size + 1, 3, none⟩) (Ne.symm hne) (.int .u64 0)
        refine wpAnyH_done (by kernel_rfl) ?_ _
        go_wp2_with fail
        go_meet
        exact ⟨_, _, rfl, rfl, G9, F9.1, F9.2.1, F9.2.2.1, F9.2.2.2, ((((((((hB8.setCell hgp _).setCell hgp _).setCell hgp _).setCell hgp _).setCell hgq _).setCell hgq _).setCell hgq _).setCell hgq _)⟩
      refine AllReadyH.cons (o := ⟨some 27, _, _, _, _, _⟩) rfl (fun K hK => ?_) AllReadyH.nil
      go_simp
      refine hK.out _ _ ?_ (fun hH40 => ?_)
      · exact Lie.alloc hH36 _
      have BB40 := below_laid BB36 (.cells #[.int .u64 0, .int .u64 0, .int .u64 0, .int .u64 0] 24)
      have Zq40 := Zr.alloc Zq36 (.cells #[.int .u64 0, .int .u64 0, .int .u64 0, .int .u64 0] 24)
      have Zp40 := Zr.hereAt y36 (y36.heap.size) (by simp)
      clear hK K
      try simp only [Act.put, List.setIfInBounds_toArray, List.set_cons_zero, List.set_cons_succ]
      refine wpAnyH_ready (rs := [2]) (by kernel_rfl) (by simp) ?_
      refine AllReadyH.cons (o := ⟨some 92, _, _, _, _, _⟩) rfl (fun K hK => ?_) AllReadyH.nil
      go_simp
      refine (mul_one A hA _).mono ?_
      rintro e y41 ⟨rfl, bb41⟩
      refine hK.out _ _ ?_ (fun hH41 => ?_)
      · exact Lie.past hH40 bb41
      have BB41 := below_call BB40 bb41
      have zz41 := bb41.size
      try simp only [World.size_alloc, World.size_drew] at zz41
      have Zp41 : Zr y41 (y36.heap.size) := Zr.past Zp40 bb41
      have Zq41 : Zr y41 (v11.heap.size + 1) := Zr.past Zq40 bb41
      clear hK K
      try simp only [Act.put, List.setIfInBounds_toArray, List.set_cons_zero, List.set_cons_succ]
      refine wpAnyH_take (i := 3) (oi := ⟨some 89, _, _, _, _, _⟩) (v := ?_) rfl (by kernel_rfl) (by kernel_rfl) (by kernel_rfl) (fun _ _ _ h => h) (Or.inl ⟨by rfl, ?_⟩) hH41 ?_
      rotate_left
      focus (intro wS hSw; (try dsimp only at hSw); (obtain ⟨hS0, hS1, hS2, hS3⟩ := hSw); go_simp; try (with_reducible rfl))
      try simp only [Act.put, List.setIfInBounds_toArray, List.set_cons_zero, List.set_cons_succ]
      refine wpAnyH_take (i := 4) (oi := ⟨some 93, _, _, _, _, _⟩) (v := ?_) rfl (by kernel_rfl) (by kernel_rfl) (by kernel_rfl) (fun _ _ _ h => h) (Or.inl ⟨by rfl, ?_⟩) hH41 ?_
      rotate_left
      focus (intro wS hSw; (try dsimp only at hSw); (obtain ⟨hS0, hS1, hS2, hS3⟩ := hSw); go_simp; try (with_reducible rfl))
      try simp only [Act.put, List.setIfInBounds_toArray, List.set_cons_zero, List.set_cons_succ]
      refine wpAnyH_take (i := 5) (oi := ⟨some 94, _, _, _, _, _⟩) (v := ?_) rfl (by kernel_rfl) (by kernel_rfl) (by kernel_rfl) (fun _ _ _ h => h) (Or.inl ⟨by rfl, ?_⟩) hH41 ?_
      rotate_left
      focus (intro wS hSw; (try dsimp only at hSw); (obtain ⟨hS0, hS1, hS2, hS3⟩ := hSw); go_simp; try (with_reducible rfl))
      try simp only [Act.put, List.setIfInBounds_toArray, List.set_cons_zero, List.set_cons_succ]
      have ltp := Zp41.lt
      have ltq := Zq41.lt
      have neA : w.heap.size < v11.heap.size := lx
      have hgp : (v11.alloc (.cells #[.int .u64 (w0 A), .int .u64 (w1 A), .int .u64 (w2 A), .int .u64 (w3 A)] 24)).heap.size ≤ (y36.heap.size) := by simp only [World.size_alloc]; omega
      have hgq : (v11.alloc (.cells #[.int .u64 (w0 A), .int .u64 (w1 A), .int .u64 (w2 A), .int .u64 (w3 A)] 24)).heap.size ≤ (v11.heap.size + 1) := by simp only [World.size_alloc]; omega
      have hne : (y36.heap.size) ≠ (v11.heap.size + 1) := by omega
      have hneA : (y36.heap.size) ≠ w.heap.size := by omega
      have hneB : (v11.heap.size + 1) ≠ w.heap.size := by omega
      have hA8 := hH41
      have hP8 := Zp41
      have hQ8 := Zq41
      have hB8 := BB41
      clear ltp ltq
      have ⟨⟨p0, p1, p2, p3⟩, pf0, pf1, pf2, pf3⟩ := hP8
      refine wpAnyH_ready (rs := [8]) (by kernel_rfl) (by simp) ?_
      refine AllReadyH.cons (o := ⟨none, _, _, _, _, _⟩) rfl (fun K hK => ?_) AllReadyH.nil
      go_simp
      refine hK.out _ _ ?_ (fun hH8 => ?_)
      · exact (((Lie.set hA8 hneA _).set hneA _).set hneA _).set hneA _
      clear hK K
      try simp only [Act.put, List.setIfInBounds_toArray, List.set_cons_zero, List.set_cons_succ]
      have F8 := hP8.put (.int .u64 (w0 A)) (.int .u64 (w1 A)) (.int .u64 (w2 A)) (.int .u64 (w3 A))
      have Z8 := ((((hQ8).set (a := ⟨y36.heap.size, 0, none⟩) hne (.int .u64 (w0 A))).set (a := ⟨y36.heap.size, 1, none⟩) hne (.int .u64 (w1 A))).set (a := ⟨y36.heap.size, 2, none⟩) hne (.int .u64 (w2 A))).set (a := ⟨y36.heap.size, 3, none⟩) hne (.int .u64 (w3 A))
      have ⟨⟨q0, q1, q2, q3⟩, qf0, qf1, qf2, qf3⟩ := Z8
      refine wpAnyH_ready (rs := [9]) (by kernel_rfl) (by simp) ?_
      refine AllReadyH.cons (o := ⟨none, _, _, _, _, _⟩) rfl (fun K hK => ?_) AllReadyH.nil
      go_simp
      refine hK.out _ _ ?_ (fun hH9 => ?_)
      · exact (((Lie.set hH8 hneB _).set hneB _).set hneB _).set hneB _
      clear hK K
      try simp only [Act.put, List.setIfInBounds_toArray, List.set_cons_zero, List.set_cons_succ]
      have F9 := Z8.put (.int .u64 0) (.int .u64 0) (.int .u64 0) (.int .u64 0)
      have G9 := (((F8.set (a := ⟨v11.heap.size + 1, 0, none⟩) (Ne.symm hne) (.int .u64 0)).set (a := ⟨v11.heap.size + 1, 1, none⟩) (Ne.symm hne) (.int .u64 0)).set (a := ⟨v11.heap.size + 1, 2, none⟩) (Ne.symm hne) (.int .u64 0)).set (a := ⟨v11.heap.size + 1, 3, none⟩) (Ne.symm hne) (.int .u64 0)
      refine wpAnyH_done (by kernel_rfl) ?_ _
      go_wp2_with fail
      go_meet
      exact ⟨_, _, rfl, rfl, G9, F9.1, F9.2.1, F9.2.2.1, F9.2.2.2, ((((((((hB8.setCell hgp _).setCell hgp _).setCell hgp _).setCell hgp _).setCell hgq _).setCell hgq _).setCell hgq _).setCell hgq _)⟩
    refine AllReadyH.cons (o := ⟨some 27, _, _, _, _, _⟩) rfl (fun K hK => ?_) AllReadyH.nil
    go_simp
    refine hK.out _ _ ?_ (fun hH43 => ?_)
    · exact Lie.alloc hH35 _
    have BB43 := below_laid BB35 (.cells #[.int .u64 0, .int .u64 0, .int .u64 0, .int .u64 0] 24)
    have Zq43 := Zr.alloc Zq35 (.cells #[.int .u64 0, .int .u64 0, .int .u64 0, .int .u64 0] 24)
    have Zp43 := Zr.hereAt ((v11.alloc (.cells #[.int .u64 (w0 A), .int .u64 (w1 A), .int .u64 (w2 A), .int .u64 (w3 A)] 24)).drew.alloc (.cells #[.int .u64 0, .int .u64 0, .int .u64 0, .int .u64 0] 24)) (v11.heap.size + 1 + 1) (by simp)
    clear hK K
    try simp only [Act.put, List.setIfInBounds_toArray, List.set_cons_zero, List.set_cons_succ]
    refine wpAnyH_ready (rs := [1]) (by kernel_rfl) (by simp) ?_
    refine AllReadyH.cons (o := ⟨some 91, _, _, _, _, _⟩) rfl (fun K hK => ?_) AllReadyH.nil
    go_simp
    refine (small_any 1 _).mono ?_
    rintro e y44 ⟨rfl, bb44⟩
    refine hK.out _ _ ?_ (fun hH44 => ?_)
    · exact Lie.past hH43 bb44
    have BB44 := below_call BB43 bb44
    have zz44 := bb44.size
    try simp only [World.size_alloc, World.size_drew] at zz44
    have Zp44 : Zr y44 (v11.heap.size + 1 + 1) := Zr.past Zp43 bb44
    have Zq44 : Zr y44 (v11.heap.size + 1) := Zr.past Zq43 bb44
    clear hK K
    try simp only [Act.put, List.setIfInBounds_toArray, List.set_cons_zero, List.set_cons_succ]
    refine wpAnyH_ready (rs := [2]) (by kernel_rfl) (by simp) ?_
    refine AllReadyH.cons (o := ⟨some 92, _, _, _, _, _⟩) rfl (fun K hK => ?_) AllReadyH.nil
    go_simp
    refine (mul_one A hA _).mono ?_
    rintro e y45 ⟨rfl, bb45⟩
    refine hK.out _ _ ?_ (fun hH45 => ?_)
    · exact Lie.past hH44 bb45
    have BB45 := below_call BB44 bb45
    have zz45 := bb45.size
    try simp only [World.size_alloc, World.size_drew] at zz45
    have Zp45 : Zr y45 (v11.heap.size + 1 + 1) := Zr.past Zp44 bb45
    have Zq45 : Zr y45 (v11.heap.size + 1) := Zr.past Zq44 bb45
    clear hK K
    try simp only [Act.put, List.setIfInBounds_toArray, List.set_cons_zero, List.set_cons_succ]
    refine wpAnyH_take (i := 3) (oi := ⟨some 89, _, _, _, _, _⟩) (v := ?_) rfl (by kernel_rfl) (by kernel_rfl) (by kernel_rfl) (fun _ _ _ h => h) (Or.inl ⟨by rfl, ?_⟩) hH45 ?_
    rotate_left
    focus (intro wS hSw; (try dsimp only at hSw); (obtain ⟨hS0, hS1, hS2, hS3⟩ := hSw); go_simp; try (with_reducible rfl))
    try simp only [Act.put, List.setIfInBounds_toArray, List.set_cons_zero, List.set_cons_succ]
    refine wpAnyH_take (i := 4) (oi := ⟨some 93, _, _, _, _, _⟩) (v := ?_) rfl (by kernel_rfl) (by kernel_rfl) (by kernel_rfl) (fun _ _ _ h => h) (Or.inl ⟨by rfl, ?_⟩) hH45 ?_
    rotate_left
    focus (intro wS hSw; (try dsimp only at hSw); (obtain ⟨hS0, hS1, hS2, hS3⟩ := hSw); go_simp; try (with_reducible rfl))
    try simp only [Act.put, List.setIfInBounds_toArray, List.set_cons_zero, List.set_cons_succ]
    refine wpAnyH_take (i := 5) (oi := ⟨some 94, _, _, _, _, _⟩) (v := ?_) rfl (by kernel_rfl) (by kernel_rfl) (by kernel_rfl) (fun _ _ _ h => h) (Or.inl ⟨by rfl, ?_⟩) hH45 ?_
    rotate_left
    focus (intro wS hSw; (try dsimp only at hSw); (obtain ⟨hS0, hS1, hS2, hS3⟩ := hSw); go_simp; try (with_reducible rfl))
    try simp only [Act.put, List.setIfInBounds_toArray, List.set_cons_zero, List.set_cons_succ]
    have ltp := Zp45.lt
    have ltq := Zq45.lt
    have neA : w.heap.size < v11.heap.size := lx
    have hgp : (v11.alloc (.cells #[.int .u64 (w0 A), .int .u64 (w1 A), .int .u64 (w2 A), .int .u64 (w3 A)] 24)).heap.size ≤ (v11.heap.size + 1 + 1) := by simp only [World.size_alloc]; omega
    have hgq : (v11.alloc (.cells #[.int .u64 (w0 A), .int .u64 (w1 A), .int .u64 (w2 A), .int .u64 (w3 A)] 24)).heap.size ≤ (v11.heap.size + 1) := by simp only [World.size_alloc]; omega
    have hne : (v11.heap.size + 1 + 1) ≠ (v11.heap.size + 1) := by omega
    have hneA : (v11.heap.size + 1 + 1) ≠ w.heap.size := by omega
    have hneB : (v11.heap.size + 1) ≠ w.heap.size := by omega
    have hA8 := hH45
    have hP8 := Zp45
    have hQ8 := Zq45
    have hB8 := BB45
    clear ltp ltq
    have ⟨⟨p0, p1, p2, p3⟩, pf0, pf1, pf2, pf3⟩ := hP8
    refine wpAnyH_ready (rs := [8]) (by kernel_rfl) (by simp) ?_
    refine AllReadyH.cons (o := ⟨none, _, _, _, _, _⟩) rfl (fun K hK => ?_) AllReadyH.nil
    go_simp
    refine hK.out _ _ ?_ (fun hH8 => ?_)
    · exact (((Lie.set hA8 hneA _).set hneA _).set hneA _).set hneA _
    clear hK K
    try simp only [Act.put, List.setIfInBounds_toArray, List.set_cons_zero, List.set_cons_succ]
    have F8 := hP8.put (.int .u64 (w0 A)) (.int .u64 (w1 A)) (.int .u64 (w2 A)) (.int .u64 (w3 A))
    have Z8 := ((((hQ8).set (a := ⟨v11.heap.size + 1 + 1, 0, none⟩) hne (.int .u64 (w0 A))).set (a := ⟨v11.heap.size + 1 + 1, 1, none⟩) hne (.int .u64 (w1 A))).set (a := ⟨v11.heap.size + 1 + 1, 2, none⟩) hne (.int .u64 (w2 A))).set (a := ⟨v11.heap.size + 1 + 1, 3, none⟩) hne (.int .u64 (w3 A))
    have ⟨⟨q0, q1, q2, q3⟩, qf0, qf1, qf2, qf3⟩ := Z8
    refine wpAnyH_ready (rs := [9]) (by kernel_rfl) (by simp) ?_
    refine AllReadyH.cons (o := ⟨none, _, _, _, _, _⟩) rfl (fun K hK => ?_) AllReadyH.nil
    go_simp
    refine hK.out _ _ ?_ (fun hH9 => ?_)
    · exact (((Lie.set hH8 hneB _).set hneB _).set hneB _).set hneB _
    clear hK K
    try simp only [Act.put, List.setIfInBounds_toArray, List.set_cons_zero, List.set_cons_succ]
    have F9 := Z8.put (.int .u64 0) (.int .u64 0) (.int .u64 0) (.int .u64 0)
    have G9 := (((F8.set (a := ⟨v11.heap.size + 1, 0, none⟩) (Ne.symm hne) (.int .u64 0)).set (a := ⟨v11.heap.size + 1, 1, none⟩) (Ne.symm hne) (.int .u64 0)).set (a := ⟨v11.heap.size + 1, 2, none⟩) (Ne.symm hne) (.int .u64 0)).set (a := ⟨v11.heap.size + 1, 3, none⟩) (Ne.symm hne) (.int .u64 0)
    refine wpAnyH_done (by kernel_rfl) ?_ _
    go_wp2_with fail
    go_meet
    exact ⟨_, _, rfl, rfl, G9, F9.1, F9.2.1, F9.2.2.1, F9.2.2.2, ((((((((hB8.setCell hgp _).setCell hgp _).setCell hgp _).setCell hgp _).setCell hgq _).setCell hgq _).setCell hgq _).setCell hgq _)⟩
  case rest =>
    obtain ⟨b27, b28, rfl, rfl, LX, zz0, zz1, zz2, zz3, BR⟩ := hcut
    have LZ : Lie wc b28 0 := ⟨zz0, zz1, zz2, zz3⟩
    have M_A : Lie wc (w.heap.size) (A) := Lie.past (Lie.alloc L11_A (.cells #[.int .u64 (w0 A), .int .u64 (w1 A), .int .u64 (w2 A), .int .u64 (w3 A)] 24)) BR
    have M_ab : Lie wc (v1.heap.size) (sm A B) := Lie.past (Lie.alloc L11_ab (.cells #[.int .u64 (w0 A), .int .u64 (w1 A), .int .u64 (w2 A), .int .u64 (w3 A)] 24)) BR
    have M_ba : Lie wc (v2.heap.size) (sm A B) := Lie.past (Lie.alloc L11_ba (.cells #[.int .u64 (w0 A), .int .u64 (w1 A), .int .u64 (w2 A), .int .u64 (w3 A)] 24)) BR
    have M_left : Lie wc (v3.heap.size) (sm (sm A B) C) := Lie.past (Lie.alloc L11_left (.cells #[.int .u64 (w0 A), .int .u64 (w1 A), .int .u64 (w2 A), .int .u64 (w3 A)] 24)) BR
    have M_right : Lie wc (v5.heap.size) (sm (sm A B) C) := Lie.past (Lie.alloc L11_right (.cells #[.int .u64 (w0 A), .int .u64 (w1 A), .int .u64 (w2 A), .int .u64 (w3 A)] 24)) BR
    have M_back : Lie wc (v6.heap.size) (A) := Lie.past (Lie.alloc L11_back (.cells #[.int .u64 (w0 A), .int .u64 (w1 A), .int .u64 (w2 A), .int .u64 (w3 A)] 24)) BR
    have M_p : Lie wc (v8.heap.size) (pl A B) := Lie.past (Lie.alloc L11_p (.cells #[.int .u64 (w0 A), .int .u64 (w1 A), .int .u64 (w2 A), .int .u64 (w3 A)] 24)) BR
    have M_q : Lie wc (v8.heap.size + 1) (ph A B) := Lie.past (Lie.alloc L11_q (.cells #[.int .u64 (w0 A), .int .u64 (w1 A), .int .u64 (w2 A), .int .u64 (w3 A)] 24)) BR
    have M_r : Lie wc (v9.heap.size) (pl A B) := Lie.past (Lie.alloc L11_r (.cells #[.int .u64 (w0 A), .int .u64 (w1 A), .int .u64 (w2 A), .int .u64 (w3 A)] 24)) BR
    have M_s : Lie wc (v9.heap.size + 1) (ph A B) := Lie.past (Lie.alloc L11_s (.cells #[.int .u64 (w0 A), .int .u64 (w1 A), .int .u64 (w2 A), .int .u64 (w3 A)] 24)) BR
    have M_x : Lie wc (v11.heap.size) A := Lie.past (Lie.here _ _) BR
    have BW : Below w.heap.size w wc := below_call (below_laid BW11 _) BR
    clear zz0 zz1 zz2 zz3 BR L11_A L11_ab L11_ba L11_left L11_right L11_back L11_p L11_q L11_r L11_s
    go_wp2_with fail
    refine (alive_any _).mono ?_
    rintro e ve ⟨rfl, be⟩
    have BE := below_call BW be
    have M_o := LX
    have M_zz := LZ
    have N_A := M_A.past be
    have ⟨n1a, n1b, n1c, n1d⟩ := N_A
    have N_ab := M_ab.past be
    have ⟨n2a, n2b, n2c, n2d⟩ := N_ab
    have N_ba := M_ba.past be
    have ⟨n3a, n3b, n3c, n3d⟩ := N_ba
    have N_left := M_left.past be
    have ⟨n4a, n4b, n4c, n4d⟩ := N_left
    have N_right := M_right.past be
    have ⟨n5a, n5b, n5c, n5d⟩ := N_right
    have N_back := M_back.past be
    have ⟨n6a, n6b, n6c, n6d⟩ := N_back
    have N_p := M_p.past be
    have ⟨n7a, n7b, n7c, n7d⟩ := N_p
    have N_q := M_q.past be
    have ⟨n8a, n8b, n8c, n8d⟩ := N_q
    have N_r := M_r.past be
    have ⟨n9a, n9b, n9c, n9d⟩ := N_r
    have N_s := M_s.past be
    have ⟨n10a, n10b, n10c, n10d⟩ := N_s
    have N_x := M_x.past be
    have ⟨n11a, n11b, n11c, n11d⟩ := N_x
    have N_o := M_o.past be
    have ⟨n12a, n12b, n12c, n12d⟩ := N_o
    have N_zz := M_zz.past be
    have ⟨n13a, n13b, n13c, n13d⟩ := N_zz
    clear be
    have u0 : w0 0 = 0 := rfl
    have u1 : w1 0 = 0 := rfl
    have u2 : w2 0 = 0 := rfl
    have u3 : w3 0 = 0 := rfl
    rw [u0] at n13a
    rw [u1] at n13b
    rw [u2] at n13c
    rw [u3] at n13d
    clear u0 u1 u2 u3
    go_wp2
    go_ret
    exact ⟨rfl, BE⟩
end Go.Proofs.Ytiollplcmmlcgaa
