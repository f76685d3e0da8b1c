/-
  The walk of the law U256Sums.
-/
import Derived.Test.YtiollplcmmlcgaaAlive
import Derived.Test.YtiollplcmmlcgaaSum
import Derived.Test.YtiollplcmmlcgaaTake
import Derived.Test.YtiollplcmmlcgaaTo
import Derived.Test.YtiollplcmmlcgaaCmp
import Derived.Deep.RegionHeld3
import Derived.Deep.DeepCutAuto
namespace Go.Proofs.Ytiollplcmmlcgaa
open Go.ChangeShapes Go.WideShapes Go.ChangeAt Go.RowKit
set_option linter.unusedVariables false

theorem vl_of (A : Nat) (hA : A < big) : vl (dgs A 16) = A := by rw [vl_dgs, ← big_pow, Nat.mod_eq_of_lt hA]
theorem sm_lt (A B : Nat) : sm A B < big := Nat.mod_lt _ (by decide)
theorem df_lt (A B : Nat) : df A B < big := Nat.mod_lt _ (by decide)

theorem same_words {A B : Nat} (h : A = B) : (w0 A == w0 B && (w1 A == w1 B && (w2 A == w2 B && w3 A == w3 B))) = true := by
  subst h; simp

theorem words_ne {A B : Nat} (hA : A < big) (hB : B < big) (h : A ≠ B) : (w0 A == w0 B && (w1 A == w1 B && (w2 A == w2 B && w3 A == w3 B))) = false := by
  rw [Bool.eq_false_iff]
  intro e
  simp only [Bool.and_eq_true, beq_iff_eq] at e
  exact h (words_inj hA hB e.1 e.2.1 e.2.2.1 e.2.2.2)

theorem eq_op (ρ : Operand → Value) (o : Oper) (a b : Operand) (ho : o.op = Op.binOp BinOp.eql 24 a b 24) (a0 a1 a2 a3 : Int)
    (hx : ρ a = Value.agg #[Value.int IntKind.u64 a0, Value.int IntKind.u64 a1, Value.int IntKind.u64 a2, Value.int IntKind.u64 a3])
    (hy : ρ b = Value.agg #[Value.int IntKind.u64 a0, Value.int IntKind.u64 a1, Value.int IntKind.u64 a2, Value.int IntKind.u64 a3]) (w : World) :
    Sem.run Try.prog (execOp ρ o) w = .ok (.value (.bool true)) w := by
  have q := eqU_self
  unfold execOp
  simp only [ho, hx, hy]
  go_simp

set_option maxHeartbeats 40000000 in
set_option maxRecDepth 100000 in
theorem sums_eq (A : Nat) (hA : A < big) (B : Nat) (hB : B < big) (hcase : A = B) (w : World) : Calls Try.prog 3 #[uv A, uv B] w fun e w' => e = .returned (.bool true) ∧ Below w.heap.size w w' := by
  have q := eqU_self
  have qq := eqU
  have hlo : lo A B = false := by unfold lo; simp; omega
  have hcm : cm A B = 0 := by unfold cm; rw [if_pos hcase]
  have cSub := sub_any A B hA hB
  rw [hlo] at cSub
  have cCmp := cmp_any A B hA hB
  rw [hcm] at cCmp
  have vA := vl_of A hA
  have vB := vl_of B hB
  have lA := dgs_length A 16
  have lB := dgs_length B 16
  have hne := same_words hcase
  have HV := Lib.hid (And.intro vA (And.intro vB (And.intro lA (And.intro lB hcase))))
  clear vA vB lA lB hlo hcm hcase
  unfold uv
  go_enter Try.func3, Try.ntmps3
  have BW0 : Below w.heap.size w w := Below.refl _ _
  go_wp2_with fail
  refine (add_any A B hA hB _).mono ?_
  rintro e v1 ⟨rfl, b1⟩
  have BW1 : Below w.heap.size w v1 := below_call (below_laid (below_laid BW0 _) _) b1
  have L1_A : Lie v1 (w.heap.size) (A) := (((Lie.hereAt _ _ _ (by simp)).alloc _)).past b1
  have L1_B : Lie v1 (w.heap.size + 1) (B) := ((Lie.hereAt _ _ _ (by simp))).past b1
  clear b1
  have lt1 := L1_A.lt
  have ⟨p1a, p1b, p1c, p1d⟩ := L1_A
  have lt2 := L1_B.lt
  have ⟨p2a, p2b, p2c, p2d⟩ := L1_B
  go_wp2_with fail
  clear lt1 p1a p1b p1c p1d lt2 p2a p2b p2c p2d
  refine (cSub _).mono ?_
  rintro e v2 ⟨rfl, b2⟩
  have BW2 : Below w.heap.size w v2 := below_call (below_laid BW1 _) b2
  have L2_A : Lie v2 (w.heap.size) (A) := ((L1_A.alloc _)).past b2
  have L2_B : Lie v2 (w.heap.size + 1) (B) := ((L1_B.alloc _)).past b2
  have L2_s : Lie v2 (v1.heap.size) (sm A B) := ((Lie.hereAt _ _ _ (by simp))).past b2
  clear L1_A L1_B b2
  have lt3 := L2_A.lt
  have ⟨p3a, p3b, p3c, p3d⟩ := L2_A
  have lt4 := L2_B.lt
  have ⟨p4a, p4b, p4c, p4d⟩ := L2_B
  go_wp2_with fail
  clear lt3 p3a p3b p3c p3d lt4 p4a p4b p4c p4d
  as_aux_lemma =>
    refine wp_region_held_drew (S := fun w' => Lie w' (w.heap.size) (A) ∧ Lie w' (w.heap.size + 1) (B)) (by kernel_rfl) ?_ (fun hH => ?_)
    · exact ⟨((L2_A.alloc _)).drew, ((L2_B.alloc _)).drew⟩
    refine wpAnyH_take (i := 0) (oi := ⟨some 27, _, _, _, _, _⟩) (v := ?_) rfl (by as_aux_lemma => kernel_rfl) (by as_aux_lemma => kernel_rfl) (by as_aux_lemma => kernel_rfl) (fun _ _ _ h => h) (Or.inl ⟨by rfl, ?_⟩) hH ?_
    rotate_left
    focus (intro wS hSw; (try dsimp only at hSw); (obtain ⟨⟨a0, a1, a2, a3⟩, ⟨b0, b1, b2, b3⟩⟩ := hSw); go_simp; try (with_reducible rfl))
    try simp only [Act.put, List.setIfInBounds_toArray, List.set_cons_zero, List.set_cons_succ]
    refine wpAnyH_take (i := 2) (oi := ⟨some 29, _, _, _, _, _⟩) (v := ?_) rfl (by as_aux_lemma => kernel_rfl) (by as_aux_lemma => kernel_rfl) (by as_aux_lemma => kernel_rfl) (fun _ _ _ h => h) (Or.inl ⟨by rfl, ?_⟩) hH ?_
    rotate_left
    focus (intro wS hSw; (try dsimp only at hSw); (obtain ⟨⟨a0, a1, a2, a3⟩, ⟨b0, b1, b2, b3⟩⟩ := hSw); go_simp; try (with_reducible rfl))
    try simp only [Act.put, List.setIfInBounds_toArray, List.set_cons_zero, List.set_cons_succ]
    refine wpAnyH_ready (rs := [1]) (by as_aux_lemma => kernel_rfl) (by simp) ?_
    refine AllReadyH.cons (o := ⟨some 28, _, _, _, _, _⟩) rfl (fun K hK => ?_) AllReadyH.nil
    go_simp
    refine (of_any A _).mono ?_
    rintro e v3 ⟨x, rfl, Dx, b3⟩
    have BW3 : Below w.heap.size w v3 := below_call (Below.drew (below_laid BW2 _)) b3
    have L3_A : Lie v3 (w.heap.size) (A) := (((L2_A.alloc _)).drew).past b3
    have L3_B : Lie v3 (w.heap.size + 1) (B) := (((L2_B.alloc _)).drew).past b3
    have L3_s : Lie v3 (v1.heap.size) (sm A B) := (((L2_s.alloc _)).drew).past b3
    have L3_d : Lie v3 (v2.heap.size) (df A B) := (((Lie.hereAt _ _ _ (by simp))).drew).past b3
    clear L2_A L2_B L2_s b3
    refine hK.out _ _ ?_ (fun hH5 => ?_)
    · exact ⟨L3_A, L3_B⟩
    clear hK K
    try simp only [Act.put, List.setIfInBounds_toArray, List.set_cons_zero, List.set_cons_succ]
    refine wpAnyH_ready (rs := [3]) (by as_aux_lemma => kernel_rfl) (by simp) ?_
    refine AllReadyH.cons (o := ⟨some 30, _, _, _, _, _⟩) rfl (fun K hK => ?_) AllReadyH.nil
    go_simp
    refine (of_any B _).mono ?_
    rintro e v4 ⟨y, rfl, Dy, b4⟩
    have BW4 : Below w.heap.size w v4 := below_call BW3 b4
    have L4_A : Lie v4 (w.heap.size) (A) := (L3_A).past b4
    have L4_B : Lie v4 (w.heap.size + 1) (B) := (L3_B).past b4
    have L4_s : Lie v4 (v1.heap.size) (sm A B) := (L3_s).past b4
    have L4_d : Lie v4 (v2.heap.size) (df A B) := (L3_d).past b4
    have L4_x : Dig v4 x (dgs A 16) := (Dx).past b4
    clear L3_A L3_B L3_s L3_d Dx b4
    refine hK.out _ _ ?_ (fun hH6 => ?_)
    · exact ⟨L4_A, L4_B⟩
    clear hK K
    try simp only [Act.put, List.setIfInBounds_toArray, List.set_cons_zero, List.set_cons_succ]
    refine wpAnyH_take (i := 4) (oi := ⟨some 9, _, _, _, _, _⟩) (v := ?_) rfl (by as_aux_lemma => kernel_rfl) (by as_aux_lemma => kernel_rfl) (by as_aux_lemma => kernel_rfl) (fun _ _ _ h => h) (Or.inl ⟨by rfl, ?_⟩) hH6 ?_
    rotate_left
    focus (intro wS hSw; clear hSw; go_simp; try (with_reducible rfl))
    try simp only [Act.put, List.setIfInBounds_toArray, List.set_cons_zero, List.set_cons_succ]
    refine wpAnyH_take (i := 5) (oi := ⟨some 10, _, _, _, _, _⟩) (v := ?_) rfl (by as_aux_lemma => kernel_rfl) (by as_aux_lemma => kernel_rfl) (by as_aux_lemma => kernel_rfl) (fun _ _ _ h => h) (Or.inl ⟨by rfl, ?_⟩) hH6 ?_
    rotate_left
    focus (intro wS hSw; clear hSw; go_simp; try (with_reducible rfl))
    try simp only [Act.put, List.setIfInBounds_toArray, List.set_cons_zero, List.set_cons_succ]
    refine wpAnyH_done (by kernel_rfl) ?_ _
    go_wp2_with fail
    as_aux_lemma =>
      refine (sum_any _ _ _ _ (dgs_ok A 16) (dgs_ok B 16) (by have := HV.out; omega) (by have := HV.out; omega) _ L4_x Dy).mono ?_
      rintro e v5 ⟨z, l, rfl, Dz, okz, vz, lz, b5⟩
      have BW5 : Below w.heap.size w v5 := below_call BW4 b5
      have L5_A : Lie v5 (w.heap.size) (A) := (L4_A).past b5
      have L5_B : Lie v5 (w.heap.size + 1) (B) := (L4_B).past b5
      have L5_s : Lie v5 (v1.heap.size) (sm A B) := (L4_s).past b5
      have L5_d : Lie v5 (v2.heap.size) (df A B) := (L4_d).past b5
      have L5_x : Dig v5 x (dgs A 16) := (L4_x).past b5
      have L5_y : Dig v5 y (dgs B 16) := (Dy).past b5
      clear L4_A L4_B L4_s L4_d L4_x Dy b5
      go_wp2_with fail
      have cL := less_any _ _ _ _ (dgs_ok A 16) (dgs_ok B 16) (by have := HV.out; omega) (by have := HV.out; omega) _ L5_x L5_y
      rw [show ls (dgs A 16) (dgs B 16) = false by unfold ls; have := HV.out; rw [this.1, this.2.1]; simp; omega] at cL
      refine (cL).mono ?_
      rintro e w' ⟨rfl, rfl⟩
      clear cL
      go_wp2_with fail
      refine (full_any _).mono ?_
      rintro e v6 ⟨f, rfl, Df, b6⟩
      have BW6 : Below w.heap.size w v6 := below_call BW5 b6
      have L6_A : Lie v6 (w.heap.size) (A) := (L5_A).past b6
      have L6_B : Lie v6 (w.heap.size + 1) (B) := (L5_B).past b6
      have L6_s : Lie v6 (v1.heap.size) (sm A B) := (L5_s).past b6
      have L6_d : Lie v6 (v2.heap.size) (df A B) := (L5_d).past b6
      have L6_x : Dig v6 x (dgs A 16) := (L5_x).past b6
      have L6_y : Dig v6 y (dgs B 16) := (L5_y).past b6
      have L6_z : Dig v6 z l := (Dz).past b6
      clear L5_A L5_B L5_s L5_d L5_x L5_y Dz b6
      go_wp2_with fail
      refine (sum_any _ _ _ _ (dgs_ok A 16) fullD_ok (by have := HV.out; omega) (by decide) _ L6_x Df).mono ?_
      rintro e v7 ⟨g, m, rfl, Dg, okg, vg, lg, b7⟩
      have BW7 : Below w.heap.size w v7 := below_call BW6 b7
      have L7_A : Lie v7 (w.heap.size) (A) := (L6_A).past b7
      have L7_B : Lie v7 (w.heap.size + 1) (B) := (L6_B).past b7
      have L7_s : Lie v7 (v1.heap.size) (sm A B) := (L6_s).past b7
      have L7_d : Lie v7 (v2.heap.size) (df A B) := (L6_d).past b7
      have L7_x : Dig v7 x (dgs A 16) := (L6_x).past b7
      have L7_y : Dig v7 y (dgs B 16) := (L6_y).past b7
      have L7_z : Dig v7 z l := (L6_z).past b7
      have L7_f : Dig v7 f fullD := (Df).past b7
      clear L6_A L6_B L6_s L6_d L6_x L6_y L6_z Df b7
      have lmax : max (dgs A 16).length fullD.length ≤ 17 := by have := HV.out; rw [this.2.2.1]; decide
      have gle : vl (dgs B 16) ≤ vl m := by have := HV.out; rw [vg, fullD_val, this.1, this.2.1]; omega
      have lm : m.length ≤ 1000 := by omega
      clear lmax lg
      have Hg := Lib.hid vg
      clear vg
      go_wp2_with fail
      refine (take_any _ _ _ _ okg (dgs_ok B 16) lm (by have := HV.out; omega) gle _ Dg L7_y).mono ?_
      rintro e v8 ⟨h, n, rfl, Dh, okh, vh, lh, b8⟩
      have BW8 : Below w.heap.size w v8 := below_call BW7 b8
      have L8_A : Lie v8 (w.heap.size) (A) := (L7_A).past b8
      have L8_B : Lie v8 (w.heap.size + 1) (B) := (L7_B).past b8
      have L8_s : Lie v8 (v1.heap.size) (sm A B) := (L7_s).past b8
      have L8_d : Lie v8 (v2.heap.size) (df A B) := (L7_d).past b8
      have L8_x : Dig v8 x (dgs A 16) := (L7_x).past b8
      have L8_y : Dig v8 y (dgs B 16) := (L7_y).past b8
      have L8_z : Dig v8 z l := (L7_z).past b8
      have L8_f : Dig v8 f fullD := (L7_f).past b8
      have L8_g : Dig v8 g m := (Dg).past b8
      clear L7_A L7_B L7_s L7_d L7_x L7_y L7_z L7_f Dg b8
      have Hh := Lib.hid vh
      have ln : n.length ≤ 1000 := by omega
      have ll : l.length ≤ 1000 := by have := HV.out; omega
      have Hz := Lib.hid vz
      clear vh lh vz lz gle
      clear L8_x
      clear L8_y
      clear L8_f
      clear L8_g
      have es : vl l % big = sm A B := by have := HV.out; rw [Hz.out, this.1, this.2.1]; rfl
      have ed : vl n % big = df A B := by have := HV.out; rw [Hh.out, Hg.out, fullD_val, this.1, this.2.1]; rfl
      have eo : ls l fullD = !(ov A B) := by have := HV.out; unfold ls ov; rw [Hz.out, fullD_val, this.1, this.2.1]; rw [← decide_not]; congr 1; rw [eq_iff_iff]; omega
      have HE := Lib.hid (And.intro es (And.intro ed eo))
      clear es ed eo
      have lt7 := L8_A.lt
      have ⟨p7a, p7b, p7c, p7d⟩ := L8_A
      have lt8 := L8_B.lt
      have ⟨p8a, p8b, p8c, p8d⟩ := L8_B
      go_upto_if 45 with (fail)
      go_cut [14] (fun s14 wx => s14 = .int .i64 (0) ∧ wx = v8)
      case first =>
        go_wp2_with fail
        go_meet
        exact ⟨rfl, rfl⟩
      case rest =>
        obtain ⟨rfl, hwc⟩ := hcut
        rw [hwc]
        clear hwc
        clear qq
        generalize df A B = D at L8_d HE
        clear lt7 p7a p7b p7c p7d lt8 p8a p8b p8c p8d
        have lt9 := L8_s.lt
        have ⟨p9a, p9b, p9c, p9d⟩ := L8_s
        have lt10 := L8_d.lt
        have ⟨p10a, p10b, p10c, p10d⟩ := L8_d
        have lt11 := L8_A.lt
        have ⟨p11a, p11b, p11c, p11d⟩ := L8_A
        have lt12 := L8_B.lt
        have ⟨p12a, p12b, p12c, p12d⟩ := L8_B
        go_wp2_with fail
        clear lt9 p9a p9b p9c p9d lt10 p10a p10b p10c p10d lt11 p11a p11b p11c p11d lt12 p12a p12b p12c p12d
        refine wp_region_held_drew (S := fun w' => Lie w' (v1.heap.size) (sm A B) ∧ Lie w' (v2.heap.size) (D) ∧ Lie w' (w.heap.size) (A) ∧ Lie w' (w.heap.size + 1) (B)) (by kernel_rfl) ?_ (fun hH => ?_)
        · exact ⟨(L8_s).drew, (L8_d).drew, (L8_A).drew, (L8_B).drew⟩
        refine wpAnyH_ready (rs := [0]) (by as_aux_lemma => kernel_rfl) (by simp) ?_
        refine AllReadyH.cons (o := ⟨some 47, _, _, _, _, _⟩) rfl (fun K hK => ?_) AllReadyH.nil
        go_simp
        refine (alive_any _).mono ?_
        rintro e v9 ⟨rfl, b9⟩
        have BW9 : Below w.heap.size w v9 := below_call (Below.drew BW8) b9
        have L9_A : Lie v9 (w.heap.size) (A) := ((L8_A).drew).past b9
        have L9_B : Lie v9 (w.heap.size + 1) (B) := ((L8_B).drew).past b9
        have L9_s : Lie v9 (v1.heap.size) (sm A B) := ((L8_s).drew).past b9
        have L9_d : Lie v9 (v2.heap.size) (D) := ((L8_d).drew).past b9
        have L9_z : Dig v9 z l := ((L8_z).drew).past b9
        have L9_h : Dig v9 h n := ((Dh).drew).past b9
        clear L8_A L8_B L8_s L8_d L8_z Dh b9
        refine hK.out _ _ ?_ (fun hH13 => ?_)
        · exact ⟨L9_s, L9_d, L9_A, L9_B⟩
        clear hK K
        try simp only [Act.put, List.setIfInBounds_toArray, List.set_cons_zero, List.set_cons_succ]
        refine wpAnyH_take (i := 1) (oi := ⟨some 48, _, _, _, _, _⟩) (v := ?_) rfl (by as_aux_lemma => kernel_rfl) (by as_aux_lemma => kernel_rfl) (by as_aux_lemma => kernel_rfl) (fun _ _ _ h => h) (Or.inl ⟨by rfl, ?_⟩) hH13 ?_
        rotate_left
        focus (intro wS hSw; clear hSw; go_simp; try (with_reducible rfl))
        try simp only [Act.put, List.setIfInBounds_toArray, List.set_cons_zero, List.set_cons_succ]
        refine wpAnyH_take (i := 2) (oi := ⟨some 49, _, _, _, _, _⟩) (v := ?_) rfl (by as_aux_lemma => kernel_rfl) (by as_aux_lemma => kernel_rfl) (by as_aux_lemma => kernel_rfl) (fun _ _ _ h => h) (Or.inl ⟨by rfl, ?_⟩) hH13 ?_
        rotate_left
        focus (intro wS hSw; (try dsimp only at hSw); (obtain ⟨⟨s0, s1, s2, s3⟩, ⟨d0, d1, d2, d3⟩, ⟨a0, a1, a2, a3⟩, ⟨b0, b1, b2, b3⟩⟩ := hSw); go_simp; try (with_reducible rfl))
        try simp only [Act.put, List.setIfInBounds_toArray, List.set_cons_zero, List.set_cons_succ]
        refine wpAnyH_take (i := 3) (oi := ⟨some 50, _, _, _, _, _⟩) (v := ?_) rfl (by as_aux_lemma => kernel_rfl) (by as_aux_lemma => kernel_rfl) (by as_aux_lemma => kernel_rfl) (fun _ _ _ h => h) (Or.inl ⟨by rfl, ?_⟩) hH13 ?_
        rotate_left
        focus (intro wS hSw; clear hSw; go_simp; try (with_reducible rfl))
        try simp only [Act.put, List.setIfInBounds_toArray, List.set_cons_zero, List.set_cons_succ]
        have cT := to_any _ l okz ll _ L9_z
        rw [HE.out.1] at cT
        refine wpAnyH_ready (rs := [4]) (by as_aux_lemma => kernel_rfl) (by simp) ?_
        refine AllReadyH.cons (o := ⟨some 51, _, _, _, _, _⟩) rfl (fun K hK => ?_) AllReadyH.nil
        go_simp
        refine (cT).mono ?_
        rintro e v10 ⟨rfl, b10⟩
        have BW10 : Below w.heap.size w v10 := below_call BW9 b10
        have L10_A : Lie v10 (w.heap.size) (A) := (L9_A).past b10
        have L10_B : Lie v10 (w.heap.size + 1) (B) := (L9_B).past b10
        have L10_s : Lie v10 (v1.heap.size) (sm A B) := (L9_s).past b10
        have L10_d : Lie v10 (v2.heap.size) (D) := (L9_d).past b10
        have L10_z : Dig v10 z l := (L9_z).past b10
        have L10_h : Dig v10 h n := (L9_h).past b10
        clear L9_A L9_B L9_s L9_d L9_z L9_h b10
        clear cT
        refine hK.out _ _ ?_ (fun hH14 => ?_)
        · exact ⟨L10_s, L10_d, L10_A, L10_B⟩
        clear hK K
        try simp only [Act.put, List.setIfInBounds_toArray, List.set_cons_zero, List.set_cons_succ]
        refine wpAnyH_take (i := 5) (oi := ⟨some 52, _, _, _, _, _⟩) (v := ?_) rfl (by as_aux_lemma => kernel_rfl) (by as_aux_lemma => kernel_rfl) (by as_aux_lemma => kernel_rfl) (fun _ _ _ h => h) (Or.inl ⟨by rfl, ?_⟩) hH14 ?_
        rotate_left
        focus (intro wS hSw; clear hSw; go_simp; try (with_reducible rfl))
        try simp only [Act.put, List.setIfInBounds_toArray, List.set_cons_zero, List.set_cons_succ]
        refine wpAnyH_take (i := 6) (oi := ⟨some 53, _, _, _, _, _⟩) (v := ?_) rfl (by as_aux_lemma => kernel_rfl) (by as_aux_lemma => kernel_rfl) (by as_aux_lemma => kernel_rfl) (fun _ _ _ h => h) (Or.inl ⟨by rfl, ?_⟩) hH14 ?_
        rotate_left
        focus (intro wS hSw; clear hSw; go_simp; try (with_reducible rfl))
        try simp only [Act.put, List.setIfInBounds_toArray, List.set_cons_zero, List.set_cons_succ]
        refine wpAnyH_take (i := 7) (oi := ⟨some 54, _, _, _, _, _⟩) (v := ?_) rfl (by as_aux_lemma => kernel_rfl) (by as_aux_lemma => kernel_rfl) (by as_aux_lemma => kernel_rfl) (fun _ _ _ h => h) (Or.inl ⟨by rfl, ?_⟩) hH14 ?_
        rotate_left
        focus (intro wS hSw; clear hSw; go_simp; try (with_reducible rfl))
        try simp only [Act.put, List.setIfInBounds_toArray, List.set_cons_zero, List.set_cons_succ]
        refine wpAnyH_take (i := 8) (oi := ⟨some 55, _, _, _, _, _⟩) (v := ?_) rfl (by as_aux_lemma => kernel_rfl) (by as_aux_lemma => kernel_rfl) (by as_aux_lemma => kernel_rfl) (fun _ _ _ h => h) (Or.inl ⟨by rfl, ?_⟩) hH14 ?_
        rotate_left
        focus (intro wS hSw; clear hSw; go_simp; try (with_reducible rfl))
        try simp only [Act.put, List.setIfInBounds_toArray, List.set_cons_zero, List.set_cons_succ]
        refine wpAnyH_take (i := 9) (oi := ⟨some 56, _, _, _, _, _⟩) (v := ?_) rfl (by as_aux_lemma => kernel_rfl) (by as_aux_lemma => kernel_rfl) (by as_aux_lemma => kernel_rfl) (fun _ _ _ h => h) (Or.inl ⟨by rfl, ?_⟩) hH14 ?_
        rotate_left
        focus (intro wS hSw; clear hSw; go_simp; try (with_reducible rfl))
        try simp only [Act.put, List.setIfInBounds_toArray, List.set_cons_zero, List.set_cons_succ]
        refine wpAnyH_ready (rs := [10]) (by as_aux_lemma => kernel_rfl) (by simp) ?_
        refine AllReadyH.cons (o := ⟨some 57, _, _, _, _, _⟩) rfl (fun K hK => ?_) AllReadyH.nil
        go_simp
        refine (full_any _).mono ?_
        rintro e v11 ⟨f2, rfl, Df2, b11⟩
        have BW11 : Below w.heap.size w v11 := below_call BW10 b11
        have L11_A : Lie v11 (w.heap.size) (A) := (L10_A).past b11
        have L11_B : Lie v11 (w.heap.size + 1) (B) := (L10_B).past b11
        have L11_s : Lie v11 (v1.heap.size) (sm A B) := (L10_s).past b11
        have L11_d : Lie v11 (v2.heap.size) (D) := (L10_d).past b11
        have L11_z : Dig v11 z l := (L10_z).past b11
        have L11_h : Dig v11 h n := (L10_h).past b11
        clear L10_A L10_B L10_s L10_d L10_z L10_h b11
        refine hK.out _ _ ?_ (fun hH15 => ?_)
        · exact ⟨L11_s, L11_d, L11_A, L11_B⟩
        clear hK K
        try simp only [Act.put, List.setIfInBounds_toArray, List.set_cons_zero, List.set_cons_succ]
        have cL := less_any _ _ l fullD okz fullD_ok ll (by decide) _ L11_z Df2
        rw [HE.out.2.2] at cL
        refine wpAnyH_ready (rs := [11]) (by as_aux_lemma => kernel_rfl) (by simp) ?_
        refine AllReadyH.cons (o := ⟨some 58, _, _, _, _, _⟩) rfl (fun K hK => ?_) AllReadyH.nil
        go_simp
        refine (cL).mono ?_
        rintro e w' ⟨rfl, rfl⟩
        refine hK.out _ _ ?_ (fun hH16 => ?_)
        · exact hH15
        clear hK K
        try simp only [Act.put, List.setIfInBounds_toArray, List.set_cons_zero, List.set_cons_succ]
        clear cL Df2
        refine wpAnyH_take (i := 12) (oi := ⟨some 59, _, _, _, _, _⟩) (v := ?_) rfl (by as_aux_lemma => kernel_rfl) (by as_aux_lemma => kernel_rfl) (by as_aux_lemma => kernel_rfl) (fun _ _ _ h => h) (Or.inl ⟨by rfl, ?_⟩) hH16 ?_
        rotate_left
        focus (intro wS hSw; clear hSw; go_simp; try (with_reducible rfl))
        try simp only [Act.put, List.setIfInBounds_toArray, List.set_cons_zero, List.set_cons_succ]
        refine wpAnyH_take (i := 13) (oi := ⟨some 60, _, _, _, _, _⟩) (v := ?_) rfl (by as_aux_lemma => kernel_rfl) (by as_aux_lemma => kernel_rfl) (by as_aux_lemma => kernel_rfl) (fun _ _ _ h => h) (Or.inl ⟨by rfl, ?_⟩) hH16 ?_
        rotate_left
        focus (intro wS hSw; clear hSw; go_simp; try (with_reducible rfl))
        try simp only [Act.put, List.setIfInBounds_toArray, List.set_cons_zero, List.set_cons_succ]
        refine wpAnyH_take (i := 14) (oi := ⟨some 61, _, _, _, _, _⟩) (v := ?_) rfl (by as_aux_lemma => kernel_rfl) (by as_aux_lemma => kernel_rfl) (by as_aux_lemma => kernel_rfl) (fun _ _ _ h => h) (Or.inl ⟨by rfl, ?_⟩) hH16 ?_
        rotate_left
        focus (intro wS hSw; clear hSw; go_simp; try (with_reducible rfl))
        try simp only [Act.put, List.setIfInBounds_toArray, List.set_cons_zero, List.set_cons_succ]
        refine wpAnyH_take (i := 15) (oi := ⟨some 62, _, _, _, _, _⟩) (v := ?_) rfl (by as_aux_lemma => kernel_rfl) (by as_aux_lemma => kernel_rfl) (by as_aux_lemma => kernel_rfl) (fun _ _ _ h => h) (Or.inl ⟨by rfl, ?_⟩) hH16 ?_
        rotate_left
        focus (intro wS hSw; clear hSw; go_simp; try (with_reducible rfl))
        try simp only [Act.put, List.setIfInBounds_toArray, List.set_cons_zero, List.set_cons_succ]
        refine wpAnyH_take (i := 16) (oi := ⟨some 63, _, _, _, _, _⟩) (v := ?_) rfl (by as_aux_lemma => kernel_rfl) (by as_aux_lemma => kernel_rfl) (by as_aux_lemma => kernel_rfl) (fun _ _ _ h => h) (Or.inl ⟨by rfl, ?_⟩) hH16 ?_
        rotate_left
        focus (intro wS hSw; (try dsimp only at hSw); (obtain ⟨⟨s0, s1, s2, s3⟩, ⟨d0, d1, d2, d3⟩, ⟨a0, a1, a2, a3⟩, ⟨b0, b1, b2, b3⟩⟩ := hSw); go_simp; try (with_reducible rfl))
        try simp only [Act.put, List.setIfInBounds_toArray, List.set_cons_zero, List.set_cons_succ]
        refine wpAnyH_take (i := 17) (oi := ⟨some 64, _, _, _, _, _⟩) (v := ?_) rfl (by as_aux_lemma => kernel_rfl) (by as_aux_lemma => kernel_rfl) (by as_aux_lemma => kernel_rfl) (fun _ _ _ h => h) (Or.inl ⟨by rfl, ?_⟩) hH16 ?_
        rotate_left
        focus (intro wS hSw; clear hSw; go_simp; try (with_reducible rfl))
        try simp only [Act.put, List.setIfInBounds_toArray, List.set_cons_zero, List.set_cons_succ]
        have cT := to_any _ n okh ln _ L11_h
        rw [HE.out.2.1] at cT
        refine wpAnyH_ready (rs := [18]) (by as_aux_lemma => kernel_rfl) (by simp) ?_
        refine AllReadyH.cons (o := ⟨some 65, _, _, _, _, _⟩) rfl (fun K hK => ?_) AllReadyH.nil
        go_simp
        refine (cT).mono ?_
        rintro e v12 ⟨rfl, b12⟩
        have BW12 : Below w.heap.size w v12 := below_call BW11 b12
        have L12_A : Lie v12 (w.heap.size) (A) := (L11_A).past b12
        have L12_B : Lie v12 (w.heap.size + 1) (B) := (L11_B).past b12
        have L12_s : Lie v12 (v1.heap.size) (sm A B) := (L11_s).past b12
        have L12_d : Lie v12 (v2.heap.size) (D) := (L11_d).past b12
        have L12_z : Dig v12 z l := (L11_z).past b12
        have L12_h : Dig v12 h n := (L11_h).past b12
        clear L11_A L11_B L11_s L11_d L11_z L11_h b12
        clear cT
        refine hK.out _ _ ?_ (fun hH17 => ?_)
        · exact ⟨L12_s, L12_d, L12_A, L12_B⟩
        clear hK K
        try simp only [Act.put, List.setIfInBounds_toArray, List.set_cons_zero, List.set_cons_succ]
        refine wpAnyH_take (i := 19) (oi := ⟨some 66, _, _, _, _, _⟩) (v := .bool true) rfl (by as_aux_lemma => kernel_rfl) (by as_aux_lemma => kernel_rfl) (by as_aux_lemma => kernel_rfl) (fun _ _ _ h => h) (Or.inl ⟨by rfl, ?_⟩) hH17 ?_
        focus (intro wS hSw; clear hSw; exact eq_op _ _ _ _ rfl (w0 D) (w1 D) (w2 D) (w3 D) (by as_aux_lemma => kernel_rfl) (by as_aux_lemma => kernel_rfl) _)
        try simp only [Act.put, List.setIfInBounds_toArray, List.set_cons_zero, List.set_cons_succ]
        refine wpAnyH_take (i := 20) (oi := ⟨some 67, _, _, _, _, _⟩) (v := ?_) rfl (by as_aux_lemma => kernel_rfl) (by as_aux_lemma => kernel_rfl) (by as_aux_lemma => kernel_rfl) (fun _ _ _ h => h) (Or.inl ⟨by rfl, ?_⟩) hH17 ?_
        rotate_left
        focus (intro wS hSw; clear hSw; go_simp; try (with_reducible rfl))
        try simp only [Act.put, List.setIfInBounds_toArray, List.set_cons_zero, List.set_cons_succ]
        refine wpAnyH_take (i := 21) (oi := ⟨some 68, _, _, _, _, _⟩) (v := ?_) rfl (by as_aux_lemma => kernel_rfl) (by as_aux_lemma => kernel_rfl) (by as_aux_lemma => kernel_rfl) (fun _ _ _ h => h) (Or.inl ⟨by rfl, ?_⟩) hH17 ?_
        rotate_left
        focus (intro wS hSw; clear hSw; go_simp; try (with_reducible rfl))
        try simp only [Act.put, List.setIfInBounds_toArray, List.set_cons_zero, List.set_cons_succ]
        refine wpAnyH_take (i := 22) (oi := ⟨some 69, _, _, _, _, _⟩) (v := ?_) rfl (by as_aux_lemma => kernel_rfl) (by as_aux_lemma => kernel_rfl) (by as_aux_lemma => kernel_rfl) (fun _ _ _ h => h) (Or.inl ⟨by rfl, ?_⟩) hH17 ?_
        rotate_left
        focus (intro wS hSw; clear hSw; go_simp; try (with_reducible rfl))
        try simp only [Act.put, List.setIfInBounds_toArray, List.set_cons_zero, List.set_cons_succ]
        refine wpAnyH_take (i := 23) (oi := ⟨some 70, _, _, _, _, _⟩) (v := ?_) rfl (by as_aux_lemma => kernel_rfl) (by as_aux_lemma => kernel_rfl) (by as_aux_lemma => kernel_rfl) (fun _ _ _ h => h) (Or.inl ⟨by rfl, ?_⟩) hH17 ?_
        rotate_left
        focus (intro wS hSw; clear hSw; go_simp; try (with_reducible rfl))
        try simp only [Act.put, List.setIfInBounds_toArray, List.set_cons_zero, List.set_cons_succ]
        refine wpAnyH_take (i := 24) (oi := ⟨some 71, _, _, _, _, _⟩) (v := ?_) rfl (by as_aux_lemma => kernel_rfl) (by as_aux_lemma => kernel_rfl) (by as_aux_lemma => kernel_rfl) (fun _ _ _ h => h) (Or.inl ⟨by rfl, ?_⟩) hH17 ?_
        rotate_left
        focus (intro wS hSw; clear hSw; go_simp; try (with_reducible rfl))
        try simp only [Act.put, List.setIfInBounds_toArray, List.set_cons_zero, List.set_cons_succ]
        refine wpAnyH_take (i := 25) (oi := ⟨some 72, _, _, _, _, _⟩) (v := ?_) rfl (by as_aux_lemma => kernel_rfl) (by as_aux_lemma => kernel_rfl) (by as_aux_lemma => kernel_rfl) (fun _ _ _ h => h) (Or.inl ⟨by rfl, ?_⟩) hH17 ?_
        rotate_left
        focus (intro wS hSw; clear hSw; go_simp; try (with_reducible rfl))
        try simp only [Act.put, List.setIfInBounds_toArray, List.set_cons_zero, List.set_cons_succ]
        refine wpAnyH_take (i := 26) (oi := ⟨some 73, _, _, _, _, _⟩) (v := ?_) rfl (by as_aux_lemma => kernel_rfl) (by as_aux_lemma => kernel_rfl) (by as_aux_lemma => kernel_rfl) (fun _ _ _ h => h) (Or.inl ⟨by rfl, ?_⟩) hH17 ?_
        rotate_left
        focus (intro wS hSw; clear hSw; go_simp; try (with_reducible rfl))
        try simp only [Act.put, List.setIfInBounds_toArray, List.set_cons_zero, List.set_cons_succ]
        refine wpAnyH_take (i := 27) (oi := ⟨some 74, _, _, _, _, _⟩) (v := ?_) rfl (by as_aux_lemma => kernel_rfl) (by as_aux_lemma => kernel_rfl) (by as_aux_lemma => kernel_rfl) (fun _ _ _ h => h) (Or.inl ⟨by rfl, ?_⟩) hH17 ?_
        rotate_left
        focus (intro wS hSw; (try dsimp only at hSw); (obtain ⟨⟨s0, s1, s2, s3⟩, ⟨d0, d1, d2, d3⟩, ⟨a0, a1, a2, a3⟩, ⟨b0, b1, b2, b3⟩⟩ := hSw); go_simp; try (with_reducible rfl))
        try simp only [Act.put, List.setIfInBounds_toArray, List.set_cons_zero, List.set_cons_succ]
        refine wpAnyH_take (i := 28) (oi := ⟨some 75, _, _, _, _, _⟩) (v := ?_) rfl (by as_aux_lemma => kernel_rfl) (by as_aux_lemma => kernel_rfl) (by as_aux_lemma => kernel_rfl) (fun _ _ _ h => h) (Or.inl ⟨by rfl, ?_⟩) hH17 ?_
        rotate_left
        focus (intro wS hSw; (try dsimp only at hSw); (obtain ⟨⟨s0, s1, s2, s3⟩, ⟨d0, d1, d2, d3⟩, ⟨a0, a1, a2, a3⟩, ⟨b0, b1, b2, b3⟩⟩ := hSw); go_simp; try (with_reducible rfl))
        try simp only [Act.put, List.setIfInBounds_toArray, List.set_cons_zero, List.set_cons_succ]
        refine wpAnyH_take (i := 30) (oi := ⟨some 77, _, _, _, _, _⟩) (v := ?_) rfl (by as_aux_lemma => kernel_rfl) (by as_aux_lemma => kernel_rfl) (by as_aux_lemma => kernel_rfl) (fun _ _ _ h => h) (Or.inl ⟨by rfl, ?_⟩) hH17 ?_
        rotate_left
        focus (intro wS hSw; clear hSw; go_simp; try (with_reducible rfl))
        try simp only [Act.put, List.setIfInBounds_toArray, List.set_cons_zero, List.set_cons_succ]
        refine wpAnyH_ready (rs := [29]) (by as_aux_lemma => kernel_rfl) (by simp) ?_
        refine AllReadyH.cons (o := ⟨some 76, _, _, _, _, _⟩) rfl (fun K hK => ?_) AllReadyH.nil
        go_simp
        refine (cCmp _).mono ?_
        rintro e v13 ⟨rfl, b13⟩
        have BW13 : Below w.heap.size w v13 := below_call BW12 b13
        have L13_A : Lie v13 (w.heap.size) (A) := (L12_A).past b13
        have L13_B : Lie v13 (w.heap.size + 1) (B) := (L12_B).past b13
        have L13_s : Lie v13 (v1.heap.size) (sm A B) := (L12_s).past b13
        have L13_d : Lie v13 (v2.heap.size) (D) := (L12_d).past b13
        have L13_z : Dig v13 z l := (L12_z).past b13
        have L13_h : Dig v13 h n := (L12_h).past b13
        clear L12_A L12_B L12_s L12_d L12_z L12_h b13
        refine hK.out _ _ ?_ (fun hH18 => ?_)
        · exact ⟨L13_s, L13_d, L13_A, L13_B⟩
        clear hK K
        try simp only [Act.put, List.setIfInBounds_toArray, List.set_cons_zero, List.set_cons_succ]
        refine wpAnyH_take (i := 31) (oi := ⟨some 78, _, _, _, _, _⟩) (v := ?_) rfl (by as_aux_lemma => kernel_rfl) (by as_aux_lemma => kernel_rfl) (by as_aux_lemma => kernel_rfl) (fun _ _ _ h => h) (Or.inl ⟨by rfl, ?_⟩) hH18 ?_
        rotate_left
        focus (intro wS hSw; clear hSw; go_simp; try (with_reducible rfl))
        try simp only [Act.put, List.setIfInBounds_toArray, List.set_cons_zero, List.set_cons_succ]
        refine wpAnyH_take (i := 32) (oi := ⟨some 79, _, _, _, _, _⟩) (v := ?_) rfl (by as_aux_lemma => kernel_rfl) (by as_aux_lemma => kernel_rfl) (by as_aux_lemma => kernel_rfl) (fun _ _ _ h => h) (Or.inl ⟨by rfl, ?_⟩) hH18 ?_
        rotate_left
        focus (intro wS hSw; clear hSw; go_simp; try (with_reducible rfl))
        try simp only [Act.put, List.setIfInBounds_toArray, List.set_cons_zero, List.set_cons_succ]
        refine wpAnyH_take (i := 33) (oi := ⟨some 4, _, _, _, _, _⟩) (v := ?_) rfl (by as_aux_lemma => kernel_rfl) (by as_aux_lemma => kernel_rfl) (by as_aux_lemma => kernel_rfl) (fun _ _ _ h => h) (Or.inl ⟨by rfl, ?_⟩) hH18 ?_
        rotate_left
        focus (intro wS hSw; clear hSw; go_simp; try (with_reducible rfl))
        try simp only [Act.put, List.setIfInBounds_toArray, List.set_cons_zero, List.set_cons_succ]
        refine wpAnyH_done (by kernel_rfl) ?_ _
        go_wp2
        go_ret
        exact ⟨rfl, BW13⟩

set_option maxHeartbeats 40000000 in
set_option maxRecDepth 100000 in
theorem sums_lt (A : Nat) (hA : A < big) (B : Nat) (hB : B < big) (hcase : A < B) (w : World) : Calls Try.prog 3 #[uv A, uv B] w fun e w' => e = .returned (.bool true) ∧ Below w.heap.size w w' := by
  have q := eqU_self
  have qq := eqU
  have hlo : lo A B = true := by unfold lo; simp; omega
  have hcm : cm A B = -1 := by unfold cm; rw [if_neg (by omega), if_pos hcase]
  have cSub := sub_any A B hA hB
  rw [hlo] at cSub
  have cCmp := cmp_any A B hA hB
  rw [hcm] at cCmp
  have vA := vl_of A hA
  have vB := vl_of B hB
  have lA := dgs_length A 16
  have lB := dgs_length B 16
  have hne := words_ne hA hB (by omega : A ≠ B)
  have HV := Lib.hid (And.intro vA (And.intro vB (And.intro lA (And.intro lB hcase))))
  clear vA vB lA lB hlo hcm hcase
  unfold uv
  go_enter Try.func3, Try.ntmps3
  have BW0 : Below w.heap.size w w := Below.refl _ _
  go_wp2_with fail
  refine (add_any A B hA hB _).mono ?_
  rintro e v1 ⟨rfl, b1⟩
  have BW1 : Below w.heap.size w v1 := below_call (below_laid (below_laid BW0 _) _) b1
  have L1_A : Lie v1 (w.heap.size) (A) := (((Lie.hereAt _ _ _ (by simp)).alloc _)).past b1
  have L1_B : Lie v1 (w.heap.size + 1) (B) := ((Lie.hereAt _ _ _ (by simp))).past b1
  clear b1
  have lt1 := L1_A.lt
  have ⟨p1a, p1b, p1c, p1d⟩ := L1_A
  have lt2 := L1_B.lt
  have ⟨p2a, p2b, p2c, p2d⟩ := L1_B
  go_wp2_with fail
  clear lt1 p1a p1b p1c p1d lt2 p2a p2b p2c p2d
  refine (cSub _).mono ?_
  rintro e v2 ⟨rfl, b2⟩
  have BW2 : Below w.heap.size w v2 := below_call (below_laid BW1 _) b2
  have L2_A : Lie v2 (w.heap.size) (A) := ((L1_A.alloc _)).past b2
  have L2_B : Lie v2 (w.heap.size + 1) (B) := ((L1_B.alloc _)).past b2
  have L2_s : Lie v2 (v1.heap.size) (sm A B) := ((Lie.hereAt _ _ _ (by simp))).past b2
  clear L1_A L1_B b2
  have lt3 := L2_A.lt
  have ⟨p3a, p3b, p3c, p3d⟩ := L2_A
  have lt4 := L2_B.lt
  have ⟨p4a, p4b, p4c, p4d⟩ := L2_B
  go_wp2_with fail
  clear lt3 p3a p3b p3c p3d lt4 p4a p4b p4c p4d
  as_aux_lemma =>
    refine wp_region_held_drew (S := fun w' => Lie w' (w.heap.size) (A) ∧ Lie w' (w.heap.size + 1) (B)) (by kernel_rfl) ?_ (fun hH => ?_)
    · exact ⟨((L2_A.alloc _)).drew, ((L2_B.alloc _)).drew⟩
    refine wpAnyH_take (i := 0) (oi := ⟨some 27, _, _, _, _, _⟩) (v := ?_) rfl (by as_aux_lemma => kernel_rfl) (by as_aux_lemma => kernel_rfl) (by as_aux_lemma => kernel_rfl) (fun _ _ _ h => h) (Or.inl ⟨by rfl, ?_⟩) hH ?_
    rotate_left
    focus (intro wS hSw; (try dsimp only at hSw); (obtain ⟨⟨a0, a1, a2, a3⟩, ⟨b0, b1, b2, b3⟩⟩ := hSw); go_simp; try (with_reducible rfl))
    try simp only [Act.put, List.setIfInBounds_toArray, List.set_cons_zero, List.set_cons_succ]
    refine wpAnyH_take (i := 2) (oi := ⟨some 29, _, _, _, _, _⟩) (v := ?_) rfl (by as_aux_lemma => kernel_rfl) (by as_aux_lemma => kernel_rfl) (by as_aux_lemma => kernel_rfl) (fun _ _ _ h => h) (Or.inl ⟨by rfl, ?_⟩) hH ?_
    rotate_left
    focus (intro wS hSw; (try dsimp only at hSw); (obtain ⟨⟨a0, a1, a2, a3⟩, ⟨b0, b1, b2, b3⟩⟩ := hSw); go_simp; try (with_reducible rfl))
    try simp only [Act.put, List.setIfInBounds_toArray, List.set_cons_zero, List.set_cons_succ]
    refine wpAnyH_ready (rs := [1]) (by as_aux_lemma => kernel_rfl) (by simp) ?_
    refine AllReadyH.cons (o := ⟨some 28, _, _, _, _, _⟩) rfl (fun K hK => ?_) AllReadyH.nil
    go_simp
    refine (of_any A _).mono ?_
    rintro e v3 ⟨x, rfl, Dx, b3⟩
    have BW3 : Below w.heap.size w v3 := below_call (Below.drew (below_laid BW2 _)) b3
    have L3_A : Lie v3 (w.heap.size) (A) := (((L2_A.alloc _)).drew).past b3
    have L3_B : Lie v3 (w.heap.size + 1) (B) := (((L2_B.alloc _)).drew).past b3
    have L3_s : Lie v3 (v1.heap.size) (sm A B) := (((L2_s.alloc _)).drew).past b3
    have L3_d : Lie v3 (v2.heap.size) (df A B) := (((Lie.hereAt _ _ _ (by simp))).drew).past b3
    clear L2_A L2_B L2_s b3
    refine hK.out _ _ ?_ (fun hH5 => ?_)
    · exact ⟨L3_A, L3_B⟩
    clear hK K
    try simp only [Act.put, List.setIfInBounds_toArray, List.set_cons_zero, List.set_cons_succ]
    refine wpAnyH_ready (rs := [3]) (by as_aux_lemma => kernel_rfl) (by simp) ?_
    refine AllReadyH.cons (o := ⟨some 30, _, _, _, _, _⟩) rfl (fun K hK => ?_) AllReadyH.nil
    go_simp
    refine (of_any B _).mono ?_
    rintro e v4 ⟨y, rfl, Dy, b4⟩
    have BW4 : Below w.heap.size w v4 := below_call BW3 b4
    have L4_A : Lie v4 (w.heap.size) (A) := (L3_A).past b4
    have L4_B : Lie v4 (w.heap.size + 1) (B) := (L3_B).past b4
    have L4_s : Lie v4 (v1.heap.size) (sm A B) := (L3_s).past b4
    have L4_d : Lie v4 (v2.heap.size) (df A B) := (L3_d).past b4
    have L4_x : Dig v4 x (dgs A 16) := (Dx).past b4
    clear L3_A L3_B L3_s L3_d Dx b4
    refine hK.out _ _ ?_ (fun hH6 => ?_)
    · exact ⟨L4_A, L4_B⟩
    clear hK K
    try simp only [Act.put, List.setIfInBounds_toArray, List.set_cons_zero, List.set_cons_succ]
    refine wpAnyH_take (i := 4) (oi := ⟨some 9, _, _, _, _, _⟩) (v := ?_) rfl (by as_aux_lemma => kernel_rfl) (by as_aux_lemma => kernel_rfl) (by as_aux_lemma => kernel_rfl) (fun _ _ _ h => h) (Or.inl ⟨by rfl, ?_⟩) hH6 ?_
    rotate_left
    focus (intro wS hSw; clear hSw; go_simp; try (with_reducible rfl))
    try simp only [Act.put, List.setIfInBounds_toArray, List.set_cons_zero, List.set_cons_succ]
    refine wpAnyH_take (i := 5) (oi := ⟨some 10, _, _, _, _, _⟩) (v := ?_) rfl (by as_aux_lemma => kernel_rfl) (by as_aux_lemma => kernel_rfl) (by as_aux_lemma => kernel_rfl) (fun _ _ _ h => h) (Or.inl ⟨by rfl, ?_⟩) hH6 ?_
    rotate_left
    focus (intro wS hSw; clear hSw; go_simp; try (with_reducible rfl))
    try simp only [Act.put, List.setIfInBounds_toArray, List.set_cons_zero, List.set_cons_succ]
    refine wpAnyH_done (by kernel_rfl) ?_ _
    go_wp2_with fail
    as_aux_lemma =>
      refine (sum_any _ _ _ _ (dgs_ok A 16) (dgs_ok B 16) (by have := HV.out; omega) (by have := HV.out; omega) _ L4_x Dy).mono ?_
      rintro e v5 ⟨z, l, rfl, Dz, okz, vz, lz, b5⟩
      have BW5 : Below w.heap.size w v5 := below_call BW4 b5
      have L5_A : Lie v5 (w.heap.size) (A) := (L4_A).past b5
      have L5_B : Lie v5 (w.heap.size + 1) (B) := (L4_B).past b5
      have L5_s : Lie v5 (v1.heap.size) (sm A B) := (L4_s).past b5
      have L5_d : Lie v5 (v2.heap.size) (df A B) := (L4_d).past b5
      have L5_x : Dig v5 x (dgs A 16) := (L4_x).past b5
      have L5_y : Dig v5 y (dgs B 16) := (Dy).past b5
      clear L4_A L4_B L4_s L4_d L4_x Dy b5
      go_wp2_with fail
      have cL := less_any _ _ _ _ (dgs_ok A 16) (dgs_ok B 16) (by have := HV.out; omega) (by have := HV.out; omega) _ L5_x L5_y
      rw [show ls (dgs A 16) (dgs B 16) = true by unfold ls; have := HV.out; rw [this.1, this.2.1]; simp; omega] at cL
      refine (cL).mono ?_
      rintro e w' ⟨rfl, rfl⟩
      clear cL
      go_wp2_with fail
      refine (full_any _).mono ?_
      rintro e v6 ⟨f, rfl, Df, b6⟩
      have BW6 : Below w.heap.size w v6 := below_call BW5 b6
      have L6_A : Lie v6 (w.heap.size) (A) := (L5_A).past b6
      have L6_B : Lie v6 (w.heap.size + 1) (B) := (L5_B).past b6
      have L6_s : Lie v6 (v1.heap.size) (sm A B) := (L5_s).past b6
      have L6_d : Lie v6 (v2.heap.size) (df A B) := (L5_d).past b6
      have L6_x : Dig v6 x (dgs A 16) := (L5_x).past b6
      have L6_y : Dig v6 y (dgs B 16) := (L5_y).past b6
      have L6_z : Dig v6 z l := (Dz).past b6
      clear L5_A L5_B L5_s L5_d L5_x L5_y Dz b6
      go_wp2_with fail
      refine (sum_any _ _ _ _ (dgs_ok A 16) fullD_ok (by have := HV.out; omega) (by decide) _ L6_x Df).mono ?_
      rintro e v7 ⟨g, m, rfl, Dg, okg, vg, lg, b7⟩
      have BW7 : Below w.heap.size w v7 := below_call BW6 b7
      have L7_A : Lie v7 (w.heap.size) (A) := (L6_A).past b7
      have L7_B : Lie v7 (w.heap.size + 1) (B) := (L6_B).past b7
      have L7_s : Lie v7 (v1.heap.size) (sm A B) := (L6_s).past b7
      have L7_d : Lie v7 (v2.heap.size) (df A B) := (L6_d).past b7
      have L7_x : Dig v7 x (dgs A 16) := (L6_x).past b7
      have L7_y : Dig v7 y (dgs B 16) := (L6_y).past b7
      have L7_z : Dig v7 z l := (L6_z).past b7
      have L7_f : Dig v7 f fullD := (Df).past b7
      clear L6_A L6_B L6_s L6_d L6_x L6_y L6_z Df b7
      have lmax : max (dgs A 16).length fullD.length ≤ 17 := by have := HV.out; rw [this.2.2.1]; decide
      have gle : vl (dgs B 16) ≤ vl m := by have := HV.out; rw [vg, fullD_val, this.1, this.2.1]; omega
      have lm : m.length ≤ 1000 := by omega
      clear lmax lg
      have Hg := Lib.hid vg
      clear vg
      go_wp2_with fail
      refine (take_any _ _ _ _ okg (dgs_ok B 16) lm (by have := HV.out; omega) gle _ Dg L7_y).mono ?_
      rintro e v8 ⟨h, n, rfl, Dh, okh, vh, lh, b8⟩
      have BW8 : Below w.heap.size w v8 := below_call BW7 b8
      have L8_A : Lie v8 (w.heap.size) (A) := (L7_A).past b8
      have L8_B : Lie v8 (w.heap.size + 1) (B) := (L7_B).past b8
      have L8_s : Lie v8 (v1.heap.size) (sm A B) := (L7_s).past b8
      have L8_d : Lie v8 (v2.heap.size) (df A B) := (L7_d).past b8
      have L8_x : Dig v8 x (dgs A 16) := (L7_x).past b8
      have L8_y : Dig v8 y (dgs B 16) := (L7_y).past b8
      have L8_z : Dig v8 z l := (L7_z).past b8
      have L8_f : Dig v8 f fullD := (L7_f).past b8
      have L8_g : Dig v8 g m := (Dg).past b8
      clear L7_A L7_B L7_s L7_d L7_x L7_y L7_z L7_f Dg b8
      have Hh := Lib.hid vh
      have ln : n.length ≤ 1000 := by omega
      have ll : l.length ≤ 1000 := by have := HV.out; omega
      have Hz := Lib.hid vz
      clear vh lh vz lz gle
      clear L8_x
      clear L8_y
      clear L8_f
      clear L8_g
      have es : vl l % big = sm A B := by have := HV.out; rw [Hz.out, this.1, this.2.1]; rfl
      have ed : vl n % big = df A B := by have := HV.out; rw [Hh.out, Hg.out, fullD_val, this.1, this.2.1]; rfl
      have eo : ls l fullD = !(ov A B) := by have := HV.out; unfold ls ov; rw [Hz.out, fullD_val, this.1, this.2.1]; rw [← decide_not]; congr 1; rw [eq_iff_iff]; omega
      have HE := Lib.hid (And.intro es (And.intro ed eo))
      clear es ed eo
      have lt7 := L8_A.lt
      have ⟨p7a, p7b, p7c, p7d⟩ := L8_A
      have lt8 := L8_B.lt
      have ⟨p8a, p8b, p8c, p8d⟩ := L8_B
      go_upto_if 45 with (fail)
      go_cut [14] (fun s14 wx => s14 = .int .i64 (-1) ∧ wx = v8)
      case first =>
        go_wp2_with fail
        go_meet
        exact ⟨rfl, rfl⟩
      case rest =>
        obtain ⟨rfl, hwc⟩ := hcut
        rw [hwc]
        clear hwc
        clear qq
        generalize df A B = D at L8_d HE
        clear lt7 p7a p7b p7c p7d lt8 p8a p8b p8c p8d
        have lt9 := L8_s.lt
        have ⟨p9a, p9b, p9c, p9d⟩ := L8_s
        have lt10 := L8_d.lt
        have ⟨p10a, p10b, p10c, p10d⟩ := L8_d
        have lt11 := L8_A.lt
        have ⟨p11a, p11b, p11c, p11d⟩ := L8_A
        have lt12 := L8_B.lt
        have ⟨p12a, p12b, p12c, p12d⟩ := L8_B
        go_wp2_with fail
        clear lt9 p9a p9b p9c p9d lt10 p10a p10b p10c p10d lt11 p11a p11b p11c p11d lt12 p12a p12b p12c p12d
        refine wp_region_held_drew (S := fun w' => Lie w' (v1.heap.size) (sm A B) ∧ Lie w' (v2.heap.size) (D) ∧ Lie w' (w.heap.size) (A) ∧ Lie w' (w.heap.size + 1) (B)) (by kernel_rfl) ?_ (fun hH => ?_)
        · exact ⟨(L8_s).drew, (L8_d).drew, (L8_A).drew, (L8_B).drew⟩
        refine wpAnyH_ready (rs := [0]) (by as_aux_lemma => kernel_rfl) (by simp) ?_
        refine AllReadyH.cons (o := ⟨some 47, _, _, _, _, _⟩) rfl (fun K hK => ?_) AllReadyH.nil
        go_simp
        refine (alive_any _).mono ?_
        rintro e v9 ⟨rfl, b9⟩
        have BW9 : Below w.heap.size w v9 := below_call (Below.drew BW8) b9
        have L9_A : Lie v9 (w.heap.size) (A) := ((L8_A).drew).past b9
        have L9_B : Lie v9 (w.heap.size + 1) (B) := ((L8_B).drew).past b9
        have L9_s : Lie v9 (v1.heap.size) (sm A B) := ((L8_s).drew).past b9
        have L9_d : Lie v9 (v2.heap.size) (D) := ((L8_d).drew).past b9
        have L9_z : Dig v9 z l := ((L8_z).drew).past b9
        have L9_h : Dig v9 h n := ((Dh).drew).past b9
        clear L8_A L8_B L8_s L8_d L8_z Dh b9
        refine hK.out _ _ ?_ (fun hH13 => ?_)
        · exact ⟨L9_s, L9_d, L9_A, L9_B⟩
        clear hK K
        try simp only [Act.put, List.setIfInBounds_toArray, List.set_cons_zero, List.set_cons_succ]
        refine wpAnyH_take (i := 1) (oi := ⟨some 48, _, _, _, _, _⟩) (v := ?_) rfl (by as_aux_lemma => kernel_rfl) (by as_aux_lemma => kernel_rfl) (by as_aux_lemma => kernel_rfl) (fun _ _ _ h => h) (Or.inl ⟨by rfl, ?_⟩) hH13 ?_
        rotate_left
        focus (intro wS hSw; clear hSw; go_simp; try (with_reducible rfl))
        try simp only [Act.put, List.setIfInBounds_toArray, List.set_cons_zero, List.set_cons_succ]
        refine wpAnyH_take (i := 2) (oi := ⟨some 49, _, _, _, _, _⟩) (v := ?_) rfl (by as_aux_lemma => kernel_rfl) (by as_aux_lemma => kernel_rfl) (by as_aux_lemma => kernel_rfl) (fun _ _ _ h => h) (Or.inl ⟨by rfl, ?_⟩) hH13 ?_
        rotate_left
        focus (intro wS hSw; (try dsimp only at hSw); (obtain ⟨⟨s0, s1, s2, s3⟩, ⟨d0, d1, d2, d3⟩, ⟨a0, a1, a2, a3⟩, ⟨b0, b1, b2, b3⟩⟩ := hSw); go_simp; try (with_reducible rfl))
        try simp only [Act.put, List.setIfInBounds_toArray, List.set_cons_zero, List.set_cons_succ]
        refine wpAnyH_take (i := 3) (oi := ⟨some 50, _, _, _, _, _⟩) (v := ?_) rfl (by as_aux_lemma => kernel_rfl) (by as_aux_lemma => kernel_rfl) (by as_aux_lemma => kernel_rfl) (fun _ _ _ h => h) (Or.inl ⟨by rfl, ?_⟩) hH13 ?_
        rotate_left
        focus (intro wS hSw; clear hSw; go_simp; try (with_reducible rfl))
        try simp only [Act.put, List.setIfInBounds_toArray, List.set_cons_zero, List.set_cons_succ]
        have cT := to_any _ l okz ll _ L9_z
        rw [HE.out.1] at cT
        refine wpAnyH_ready (rs := [4]) (by as_aux_lemma => kernel_rfl) (by simp) ?_
        refine AllReadyH.cons (o := ⟨some 51, _, _, _, _, _⟩) rfl (fun K hK => ?_) AllReadyH.nil
        go_simp
        refine (cT).mono ?_
        rintro e v10 ⟨rfl, b10⟩
        have BW10 : Below w.heap.size w v10 := below_call BW9 b10
        have L10_A : Lie v10 (w.heap.size) (A) := (L9_A).past b10
        have L10_B : Lie v10 (w.heap.size + 1) (B) := (L9_B).past b10
        have L10_s : Lie v10 (v1.heap.size) (sm A B) := (L9_s).past b10
        have L10_d : Lie v10 (v2.heap.size) (D) := (L9_d).past b10
        have L10_z : Dig v10 z l := (L9_z).past b10
        have L10_h : Dig v10 h n := (L9_h).past b10
        clear L9_A L9_B L9_s L9_d L9_z L9_h b10
        clear cT
        refine hK.out _ _ ?_ (fun hH14 => ?_)
        · exact ⟨L10_s, L10_d, L10_A, L10_B⟩
        clear hK K
        try simp only [Act.put, List.setIfInBounds_toArray, List.set_cons_zero, List.set_cons_succ]
        refine wpAnyH_take (i := 5) (oi := ⟨some 52, _, _, _, _, _⟩) (v := ?_) rfl (by as_aux_lemma => kernel_rfl) (by as_aux_lemma => kernel_rfl) (by as_aux_lemma => kernel_rfl) (fun _ _ _ h => h) (Or.inl ⟨by rfl, ?_⟩) hH14 ?_
        rotate_left
        focus (intro wS hSw; clear hSw; go_simp; try (with_reducible rfl))
        try simp only [Act.put, List.setIfInBounds_toArray, List.set_cons_zero, List.set_cons_succ]
        refine wpAnyH_take (i := 6) (oi := ⟨some 53, _, _, _, _, _⟩) (v := ?_) rfl (by as_aux_lemma => kernel_rfl) (by as_aux_lemma => kernel_rfl) (by as_aux_lemma => kernel_rfl) (fun _ _ _ h => h) (Or.inl ⟨by rfl, ?_⟩) hH14 ?_
        rotate_left
        focus (intro wS hSw; clear hSw; go_simp; try (with_reducible rfl))
        try simp only [Act.put, List.setIfInBounds_toArray, List.set_cons_zero, List.set_cons_succ]
        refine wpAnyH_take (i := 7) (oi := ⟨some 54, _, _, _, _, _⟩) (v := ?_) rfl (by as_aux_lemma => kernel_rfl) (by as_aux_lemma => kernel_rfl) (by as_aux_lemma => kernel_rfl) (fun _ _ _ h => h) (Or.inl ⟨by rfl, ?_⟩) hH14 ?_
        rotate_left
        focus (intro wS hSw; clear hSw; go_simp; try (with_reducible rfl))
        try simp only [Act.put, List.setIfInBounds_toArray, List.set_cons_zero, List.set_cons_succ]
        refine wpAnyH_take (i := 8) (oi := ⟨some 55, _, _, _, _, _⟩) (v := ?_) rfl (by as_aux_lemma => kernel_rfl) (by as_aux_lemma => kernel_rfl) (by as_aux_lemma => kernel_rfl) (fun _ _ _ h => h) (Or.inl ⟨by rfl, ?_⟩) hH14 ?_
        rotate_left
        focus (intro wS hSw; clear hSw; go_simp; try (with_reducible rfl))
        try simp only [Act.put, List.setIfInBounds_toArray, List.set_cons_zero, List.set_cons_succ]
        refine wpAnyH_take (i := 9) (oi := ⟨some 56, _, _, _, _, _⟩) (v := ?_) rfl (by as_aux_lemma => kernel_rfl) (by as_aux_lemma => kernel_rfl) (by as_aux_lemma => kernel_rfl) (fun _ _ _ h => h) (Or.inl ⟨by rfl, ?_⟩) hH14 ?_
        rotate_left
        focus (intro wS hSw; clear hSw; go_simp; try (with_reducible rfl))
        try simp only [Act.put, List.setIfInBounds_toArray, List.set_cons_zero, List.set_cons_succ]
        refine wpAnyH_ready (rs := [10]) (by as_aux_lemma => kernel_rfl) (by simp) ?_
        refine AllReadyH.cons (o := ⟨some 57, _, _, _, _, _⟩) rfl (fun K hK => ?_) AllReadyH.nil
        go_simp
        refine (full_any _).mono ?_
        rintro e v11 ⟨f2, rfl, Df2, b11⟩
        have BW11 : Below w.heap.size w v11 := below_call BW10 b11
        have L11_A : Lie v11 (w.heap.size) (A) := (L10_A).past b11
        have L11_B : Lie v11 (w.heap.size + 1) (B) := (L10_B).past b11
        have L11_s : Lie v11 (v1.heap.size) (sm A B) := (L10_s).past b11
        have L11_d : Lie v11 (v2.heap.size) (D) := (L10_d).past b11
        have L11_z : Dig v11 z l := (L10_z).past b11
        have L11_h : Dig v11 h n := (L10_h).past b11
        clear L10_A L10_B L10_s L10_d L10_z L10_h b11
        refine hK.out _ _ ?_ (fun hH15 => ?_)
        · exact ⟨L11_s, L11_d, L11_A, L11_B⟩
        clear hK K
        try simp only [Act.put, List.setIfInBounds_toArray, List.set_cons_zero, List.set_cons_succ]
        have cL := less_any _ _ l fullD okz fullD_ok ll (by decide) _ L11_z Df2
        rw [HE.out.2.2] at cL
        refine wpAnyH_ready (rs := [11]) (by as_aux_lemma => kernel_rfl) (by simp) ?_
        refine AllReadyH.cons (o := ⟨some 58, _, _, _, _, _⟩) rfl (fun K hK => ?_) AllReadyH.nil
        go_simp
        refine (cL).mono ?_
        rintro e w' ⟨rfl, rfl⟩
        refine hK.out _ _ ?_ (fun hH16 => ?_)
        · exact hH15
        clear hK K
        try simp only [Act.put, List.setIfInBounds_toArray, List.set_cons_zero, List.set_cons_succ]
        clear cL Df2
        refine wpAnyH_take (i := 12) (oi := ⟨some 59, _, _, _, _, _⟩) (v := ?_) rfl (by as_aux_lemma => kernel_rfl) (by as_aux_lemma => kernel_rfl) (by as_aux_lemma => kernel_rfl) (fun _ _ _ h => h) (Or.inl ⟨by rfl, ?_⟩) hH16 ?_
        rotate_left
        focus (intro wS hSw; clear hSw; go_simp; try (with_reducible rfl))
        try simp only [Act.put, List.setIfInBounds_toArray, List.set_cons_zero, List.set_cons_succ]
        refine wpAnyH_take (i := 13) (oi := ⟨some 60, _, _, _, _, _⟩) (v := ?_) rfl (by as_aux_lemma => kernel_rfl) (by as_aux_lemma => kernel_rfl) (by as_aux_lemma => kernel_rfl) (fun _ _ _ h => h) (Or.inl ⟨by rfl, ?_⟩) hH16 ?_
        rotate_left
        focus (intro wS hSw; clear hSw; go_simp; try (with_reducible rfl))
        try simp only [Act.put, List.setIfInBounds_toArray, List.set_cons_zero, List.set_cons_succ]
        refine wpAnyH_take (i := 14) (oi := ⟨some 61, _, _, _, _, _⟩) (v := ?_) rfl (by as_aux_lemma => kernel_rfl) (by as_aux_lemma => kernel_rfl) (by as_aux_lemma => kernel_rfl) (fun _ _ _ h => h) (Or.inl ⟨by rfl, ?_⟩) hH16 ?_
        rotate_left
        focus (intro wS hSw; clear hSw; go_simp; try (with_reducible rfl))
        try simp only [Act.put, List.setIfInBounds_toArray, List.set_cons_zero, List.set_cons_succ]
        refine wpAnyH_take (i := 15) (oi := ⟨some 62, _, _, _, _, _⟩) (v := ?_) rfl (by as_aux_lemma => kernel_rfl) (by as_aux_lemma => kernel_rfl) (by as_aux_lemma => kernel_rfl) (fun _ _ _ h => h) (Or.inl ⟨by rfl, ?_⟩) hH16 ?_
        rotate_left
        focus (intro wS hSw; clear hSw; go_simp; try (with_reducible rfl))
        try simp only [Act.put, List.setIfInBounds_toArray, List.set_cons_zero, List.set_cons_succ]
        refine wpAnyH_take (i := 16) (oi := ⟨some 63, _, _, _, _, _⟩) (v := ?_) rfl (by as_aux_lemma => kernel_rfl) (by as_aux_lemma => kernel_rfl) (by as_aux_lemma => kernel_rfl) (fun _ _ _ h => h) (Or.inl ⟨by rfl, ?_⟩) hH16 ?_
        rotate_left
        focus (intro wS hSw; (try dsimp only at hSw); (obtain ⟨⟨s0, s1, s2, s3⟩, ⟨d0, d1, d2, d3⟩, ⟨a0, a1, a2, a3⟩, ⟨b0, b1, b2, b3⟩⟩ := hSw); go_simp; try (with_reducible rfl))
        try simp only [Act.put, List.setIfInBounds_toArray, List.set_cons_zero, List.set_cons_succ]
        refine wpAnyH_take (i := 17) (oi := ⟨some 64, _, _, _, _, _⟩) (v := ?_) rfl (by as_aux_lemma => kernel_rfl) (by as_aux_lemma => kernel_rfl) (by as_aux_lemma => kernel_rfl) (fun _ _ _ h => h) (Or.inl ⟨by rfl, ?_⟩) hH16 ?_
        rotate_left
        focus (intro wS hSw; clear hSw; go_simp; try (with_reducible rfl))
        try simp only [Act.put, List.setIfInBounds_toArray, List.set_cons_zero, List.set_cons_succ]
        have cT := to_any _ n okh ln _ L11_h
        rw [HE.out.2.1] at cT
        refine wpAnyH_ready (rs := [18]) (by as_aux_lemma => kernel_rfl) (by simp) ?_
        refine AllReadyH.cons (o := ⟨some 65, _, _, _, _, _⟩) rfl (fun K hK => ?_) AllReadyH.nil
        go_simp
        refine (cT).mono ?_
        rintro e v12 ⟨rfl, b12⟩
        have BW12 : Below w.heap.size w v12 := below_call BW11 b12
        have L12_A : Lie v12 (w.heap.size) (A) := (L11_A).past b12
        have L12_B : Lie v12 (w.heap.size + 1) (B) := (L11_B).past b12
        have L12_s : Lie v12 (v1.heap.size) (sm A B) := (L11_s).past b12
        have L12_d : Lie v12 (v2.heap.size) (D) := (L11_d).past b12
        have L12_z : Dig v12 z l := (L11_z).past b12
        have L12_h : Dig v12 h n := (L11_h).past b12
        clear L11_A L11_B L11_s L11_d L11_z L11_h b12
        clear cT
        refine hK.out _ _ ?_ (fun hH17 => ?_)
        · exact ⟨L12_s, L12_d, L12_A, L12_B⟩
        clear hK K
        try simp only [Act.put, List.setIfInBounds_toArray, List.set_cons_zero, List.set_cons_succ]
        refine wpAnyH_take (i := 19) (oi := ⟨some 66, _, _, _, _, _⟩) (v := .bool true) rfl (by as_aux_lemma => kernel_rfl) (by as_aux_lemma => kernel_rfl) (by as_aux_lemma => kernel_rfl) (fun _ _ _ h => h) (Or.inl ⟨by rfl, ?_⟩) hH17 ?_
        focus (intro wS hSw; clear hSw; exact eq_op _ _ _ _ rfl (w0 D) (w1 D) (w2 D) (w3 D) (by as_aux_lemma => kernel_rfl) (by as_aux_lemma => kernel_rfl) _)
        try simp only [Act.put, List.setIfInBounds_toArray, List.set_cons_zero, List.set_cons_succ]
        refine wpAnyH_take (i := 20) (oi := ⟨some 67, _, _, _, _, _⟩) (v := ?_) rfl (by as_aux_lemma => kernel_rfl) (by as_aux_lemma => kernel_rfl) (by as_aux_lemma => kernel_rfl) (fun _ _ _ h => h) (Or.inl ⟨by rfl, ?_⟩) hH17 ?_
        rotate_left
        focus (intro wS hSw; clear hSw; go_simp; try (with_reducible rfl))
        try simp only [Act.put, List.setIfInBounds_toArray, List.set_cons_zero, List.set_cons_succ]
        refine wpAnyH_take (i := 21) (oi := ⟨some 68, _, _, _, _, _⟩) (v := ?_) rfl (by as_aux_lemma => kernel_rfl) (by as_aux_lemma => kernel_rfl) (by as_aux_lemma => kernel_rfl) (fun _ _ _ h => h) (Or.inl ⟨by rfl, ?_⟩) hH17 ?_
        rotate_left
        focus (intro wS hSw; clear hSw; go_simp; try (with_reducible rfl))
        try simp only [Act.put, List.setIfInBounds_toArray, List.set_cons_zero, List.set_cons_succ]
        refine wpAnyH_take (i := 22) (oi := ⟨some 69, _, _, _, _, _⟩) (v := ?_) rfl (by as_aux_lemma => kernel_rfl) (by as_aux_lemma => kernel_rfl) (by as_aux_lemma => kernel_rfl) (fun _ _ _ h => h) (Or.inl ⟨by rfl, ?_⟩) hH17 ?_
        rotate_left
        focus (intro wS hSw; clear hSw; go_simp; try (with_reducible rfl))
        try simp only [Act.put, List.setIfInBounds_toArray, List.set_cons_zero, List.set_cons_succ]
        refine wpAnyH_take (i := 23) (oi := ⟨some 70, _, _, _, _, _⟩) (v := ?_) rfl (by as_aux_lemma => kernel_rfl) (by as_aux_lemma => kernel_rfl) (by as_aux_lemma => kernel_rfl) (fun _ _ _ h => h) (Or.inl ⟨by rfl, ?_⟩) hH17 ?_
        rotate_left
        focus (intro wS hSw; clear hSw; go_simp; try (with_reducible rfl))
        try simp only [Act.put, List.setIfInBounds_toArray, List.set_cons_zero, List.set_cons_succ]
        refine wpAnyH_take (i := 24) (oi := ⟨some 71, _, _, _, _, _⟩) (v := ?_) rfl (by as_aux_lemma => kernel_rfl) (by as_aux_lemma => kernel_rfl) (by as_aux_lemma => kernel_rfl) (fun _ _ _ h => h) (Or.inl ⟨by rfl, ?_⟩) hH17 ?_
        rotate_left
        focus (intro wS hSw; clear hSw; go_simp; try (with_reducible rfl))
        try simp only [Act.put, List.setIfInBounds_toArray, List.set_cons_zero, List.set_cons_succ]
        refine wpAnyH_take (i := 25) (oi := ⟨some 72, _, _, _, _, _⟩) (v := ?_) rfl (by as_aux_lemma => kernel_rfl) (by as_aux_lemma => kernel_rfl) (by as_aux_lemma => kernel_rfl) (fun _ _ _ h => h) (Or.inl ⟨by rfl, ?_⟩) hH17 ?_
        rotate_left
        focus (intro wS hSw; clear hSw; go_simp; try (with_reducible rfl))
        try simp only [Act.put, List.setIfInBounds_toArray, List.set_cons_zero, List.set_cons_succ]
        refine wpAnyH_take (i := 26) (oi := ⟨some 73, _, _, _, _, _⟩) (v := ?_) rfl (by as_aux_lemma => kernel_rfl) (by as_aux_lemma => kernel_rfl) (by as_aux_lemma => kernel_rfl) (fun _ _ _ h => h) (Or.inl ⟨by rfl, ?_⟩) hH17 ?_
        rotate_left
        focus (intro wS hSw; clear hSw; go_simp; try (with_reducible rfl))
        try simp only [Act.put, List.setIfInBounds_toArray, List.set_cons_zero, List.set_cons_succ]
        refine wpAnyH_take (i := 27) (oi := ⟨some 74, _, _, _, _, _⟩) (v := ?_) rfl (by as_aux_lemma => kernel_rfl) (by as_aux_lemma => kernel_rfl) (by as_aux_lemma => kernel_rfl) (fun _ _ _ h => h) (Or.inl ⟨by rfl, ?_⟩) hH17 ?_
        rotate_left
        focus (intro wS hSw; (try dsimp only at hSw); (obtain ⟨⟨s0, s1, s2, s3⟩, ⟨d0, d1, d2, d3⟩, ⟨a0, a1, a2, a3⟩, ⟨b0, b1, b2, b3⟩⟩ := hSw); go_simp; try (with_reducible rfl))
        try simp only [Act.put, List.setIfInBounds_toArray, List.set_cons_zero, List.set_cons_succ]
        refine wpAnyH_take (i := 28) (oi := ⟨some 75, _, _, _, _, _⟩) (v := ?_) rfl (by as_aux_lemma => kernel_rfl) (by as_aux_lemma => kernel_rfl) (by as_aux_lemma => kernel_rfl) (fun _ _ _ h => h) (Or.inl ⟨by rfl, ?_⟩) hH17 ?_
        rotate_left
        focus (intro wS hSw; (try dsimp only at hSw); (obtain ⟨⟨s0, s1, s2, s3⟩, ⟨d0, d1, d2, d3⟩, ⟨a0, a1, a2, a3⟩, ⟨b0, b1, b2, b3⟩⟩ := hSw); go_simp; try (with_reducible rfl))
        try simp only [Act.put, List.setIfInBounds_toArray, List.set_cons_zero, List.set_cons_succ]
        refine wpAnyH_take (i := 30) (oi := ⟨some 77, _, _, _, _, _⟩) (v := ?_) rfl (by as_aux_lemma => kernel_rfl) (by as_aux_lemma => kernel_rfl) (by as_aux_lemma => kernel_rfl) (fun _ _ _ h => h) (Or.inl ⟨by rfl, ?_⟩) hH17 ?_
        rotate_left
        focus (intro wS hSw; clear hSw; go_simp; try (with_reducible rfl))
        try simp only [Act.put, List.setIfInBounds_toArray, List.set_cons_zero, List.set_cons_succ]
        refine wpAnyH_ready (rs := [29]) (by as_aux_lemma => kernel_rfl) (by simp) ?_
        refine AllReadyH.cons (o := ⟨some 76, _, _, _, _, _⟩) rfl (fun K hK => ?_) AllReadyH.nil
        go_simp
        refine (cCmp _).mono ?_
        rintro e v13 ⟨rfl, b13⟩
        have BW13 : Below w.heap.size w v13 := below_call BW12 b13
        have L13_A : Lie v13 (w.heap.size) (A) := (L12_A).past b13
        have L13_B : Lie v13 (w.heap.size + 1) (B) := (L12_B).past b13
        have L13_s : Lie v13 (v1.heap.size) (sm A B) := (L12_s).past b13
        have L13_d : Lie v13 (v2.heap.size) (D) := (L12_d).past b13
        have L13_z : Dig v13 z l := (L12_z).past b13
        have L13_h : Dig v13 h n := (L12_h).past b13
        clear L12_A L12_B L12_s L12_d L12_z L12_h b13
        refine hK.out _ _ ?_ (fun hH18 => ?_)
        · exact ⟨L13_s, L13_d, L13_A, L13_B⟩
        clear hK K
        try simp only [Act.put, List.setIfInBounds_toArray, List.set_cons_zero, List.set_cons_succ]
        refine wpAnyH_take (i := 31) (oi := ⟨some 78, _, _, _, _, _⟩) (v := ?_) rfl (by as_aux_lemma => kernel_rfl) (by as_aux_lemma => kernel_rfl) (by as_aux_lemma => kernel_rfl) (fun _ _ _ h => h) (Or.inl ⟨by rfl, ?_⟩) hH18 ?_
        rotate_left
        focus (intro wS hSw; clear hSw; go_simp; try (with_reducible rfl))
        try simp only [Act.put, List.setIfInBounds_toArray, List.set_cons_zero, List.set_cons_succ]
        refine wpAnyH_take (i := 32) (oi := ⟨some 79, _, _, _, _, _⟩) (v := ?_) rfl (by as_aux_lemma => kernel_rfl) (by as_aux_lemma => kernel_rfl) (by as_aux_lemma => kernel_rfl) (fun _ _ _ h => h) (Or.inl ⟨by rfl, ?_⟩) hH18 ?_
        rotate_left
        focus (intro wS hSw; clear hSw; go_simp; try (with_reducible rfl))
        try simp only [Act.put, List.setIfInBounds_toArray, List.set_cons_zero, List.set_cons_succ]
        refine wpAnyH_take (i := 33) (oi := ⟨some 4, _, _, _, _, _⟩) (v := ?_) rfl (by as_aux_lemma => kernel_rfl) (by as_aux_lemma => kernel_rfl) (by as_aux_lemma => kernel_rfl) (fun _ _ _ h => h) (Or.inl ⟨by rfl, ?_⟩) hH18 ?_
        rotate_left
        focus (intro wS hSw; clear hSw; go_simp; try (with_reducible rfl))
        try simp only [Act.put, List.setIfInBounds_toArray, List.set_cons_zero, List.set_cons_succ]
        refine wpAnyH_done (by kernel_rfl) ?_ _
        go_wp2
        go_ret
        exact ⟨rfl, BW13⟩

set_option maxHeartbeats 40000000 in
set_option maxRecDepth 100000 in
theorem sums_gt (A : Nat) (hA : A < big) (B : Nat) (hB : B < big) (hcase : B < A) (w : World) : Calls Try.prog 3 #[uv A, uv B] w fun e w' => e = .returned (.bool true) ∧ Below w.heap.size w w' := by
  have q := eqU_self
  have qq := eqU
  have hlo : lo A B = false := by unfold lo; simp; omega
  have hcm : cm A B = 1 := by unfold cm; rw [if_neg (by omega), if_neg (by omega)]
  have cSub := sub_any A B hA hB
  rw [hlo] at cSub
  have cCmp := cmp_any A B hA hB
  rw [hcm] at cCmp
  have vA := vl_of A hA
  have vB := vl_of B hB
  have lA := dgs_length A 16
  have lB := dgs_length B 16
  have hne := words_ne hA hB (by omega : A ≠ B)
  have HV := Lib.hid (And.intro vA (And.intro vB (And.intro lA (And.intro lB hcase))))
  clear vA vB lA lB hlo hcm hcase
  unfold uv
  go_enter Try.func3, Try.ntmps3
  have BW0 : Below w.heap.size w w := Below.refl _ _
  go_wp2_with fail
  refine (add_any A B hA hB _).mono ?_
  rintro e v1 ⟨rfl, b1⟩
  have BW1 : Below w.heap.size w v1 := below_call (below_laid (below_laid BW0 _) _) b1
  have L1_A : Lie v1 (w.heap.size) (A) := (((Lie.hereAt _ _ _ (by simp)).alloc _)).past b1
  have L1_B : Lie v1 (w.heap.size + 1) (B) := ((Lie.hereAt _ _ _ (by simp))).past b1
  clear b1
  have lt1 := L1_A.lt
  have ⟨p1a, p1b, p1c, p1d⟩ := L1_A
  have lt2 := L1_B.lt
  have ⟨p2a, p2b, p2c, p2d⟩ := L1_B
  go_wp2_with fail
  clear lt1 p1a p1b p1c p1d lt2 p2a p2b p2c p2d
  refine (cSub _).mono ?_
  rintro e v2 ⟨rfl, b2⟩
  have BW2 : Below w.heap.size w v2 := below_call (below_laid BW1 _) b2
  have L2_A : Lie v2 (w.heap.size) (A) := ((L1_A.alloc _)).past b2
  have L2_B : Lie v2 (w.heap.size + 1) (B) := ((L1_B.alloc _)).past b2
  have L2_s : Lie v2 (v1.heap.size) (sm A B) := ((Lie.hereAt _ _ _ (by simp))).past b2
  clear L1_A L1_B b2
  have lt3 := L2_A.lt
  have ⟨p3a, p3b, p3c, p3d⟩ := L2_A
  have lt4 := L2_B.lt
  have ⟨p4a, p4b, p4c, p4d⟩ := L2_B
  go_wp2_with fail
  clear lt3 p3a p3b p3c p3d lt4 p4a p4b p4c p4d
  as_aux_lemma =>
    refine wp_region_held_drew (S := fun w' => Lie w' (w.heap.size) (A) ∧ Lie w' (w.heap.size + 1) (B)) (by kernel_rfl) ?_ (fun hH => ?_)
    · exact ⟨((L2_A.alloc _)).drew, ((L2_B.alloc _)).drew⟩
    refine wpAnyH_take (i := 0) (oi := ⟨some 27, _, _, _, _, _⟩) (v := ?_) rfl (by as_aux_lemma => kernel_rfl) (by as_aux_lemma => kernel_rfl) (by as_aux_lemma => kernel_rfl) (fun _ _ _ h => h) (Or.inl ⟨by rfl, ?_⟩) hH ?_
    rotate_left
    focus (intro wS hSw; (try dsimp only at hSw); (obtain ⟨⟨a0, a1, a2, a3⟩, ⟨b0, b1, b2, b3⟩⟩ := hSw); go_simp; try (with_reducible rfl))
    try simp only [Act.put, List.setIfInBounds_toArray, List.set_cons_zero, List.set_cons_succ]
    refine wpAnyH_take (i := 2) (oi := ⟨some 29, _, _, _, _, _⟩) (v := ?_) rfl (by as_aux_lemma => kernel_rfl) (by as_aux_lemma => kernel_rfl) (by as_aux_lemma => kernel_rfl) (fun _ _ _ h => h) (Or.inl ⟨by rfl, ?_⟩) hH ?_
    rotate_left
    focus (intro wS hSw; (try dsimp only at hSw); (obtain ⟨⟨a0, a1, a2, a3⟩, ⟨b0, b1, b2, b3⟩⟩ := hSw); go_simp; try (with_reducible rfl))
    try simp only [Act.put, List.setIfInBounds_toArray, List.set_cons_zero, List.set_cons_succ]
    refine wpAnyH_ready (rs := [1]) (by as_aux_lemma => kernel_rfl) (by simp) ?_
    refine AllReadyH.cons (o := ⟨some 28, _, _, _, _, _⟩) rfl (fun K hK => ?_) AllReadyH.nil
    go_simp
    refine (of_any A _).mono ?_
    rintro e v3 ⟨x, rfl, Dx, b3⟩
    have BW3 : Below w.heap.size w v3 := below_call (Below.drew (below_laid BW2 _)) b3
    have L3_A : Lie v3 (w.heap.size) (A) := (((L2_A.alloc _)).drew).past b3
    have L3_B : Lie v3 (w.heap.size + 1) (B) := (((L2_B.alloc _)).drew).past b3
    have L3_s : Lie v3 (v1.heap.size) (sm A B) := (((L2_s.alloc _)).drew).past b3
    have L3_d : Lie v3 (v2.heap.size) (df A B) := (((Lie.hereAt _ _ _ (by simp))).drew).past b3
    clear L2_A L2_B L2_s b3
    refine hK.out _ _ ?_ (fun hH5 => ?_)
    · exact ⟨L3_A, L3_B⟩
    clear hK K
    try simp only [Act.put, List.setIfInBounds_toArray, List.set_cons_zero, List.set_cons_succ]
    refine wpAnyH_ready (rs := [3]) (by as_aux_lemma => kernel_rfl) (by simp) ?_
    refine AllReadyH.cons (o := ⟨some 30, _, _, _, _, _⟩) rfl (fun K hK => ?_) AllReadyH.nil
    go_simp
    refine (of_any B _).mono ?_
    rintro e v4 ⟨y, rfl, Dy, b4⟩
    have BW4 : Below w.heap.size w v4 := below_call BW3 b4
    have L4_A : Lie v4 (w.heap.size) (A) := (L3_A).past b4
    have L4_B : Lie v4 (w.heap.size + 1) (B) := (L3_B).past b4
    have L4_s : Lie v4 (v1.heap.size) (sm A B) := (L3_s).past b4
    have L4_d : Lie v4 (v2.heap.size) (df A B) := (L3_d).past b4
    have L4_x : Dig v4 x (dgs A 16) := (Dx).past b4
    clear L3_A L3_B L3_s L3_d Dx b4
    refine hK.out _ _ ?_ (fun hH6 => ?_)
    · exact ⟨L4_A, L4_B⟩
    clear hK K
    try simp only [Act.put, List.setIfInBounds_toArray, List.set_cons_zero, List.set_cons_succ]
    refine wpAnyH_take (i := 4) (oi := ⟨some 9, _, _, _, _, _⟩) (v := ?_) rfl (by as_aux_lemma => kernel_rfl) (by as_aux_lemma => kernel_rfl) (by as_aux_lemma => kernel_rfl) (fun _ _ _ h => h) (Or.inl ⟨by rfl, ?_⟩) hH6 ?_
    rotate_left
    focus (intro wS hSw; clear hSw; go_simp; try (with_reducible rfl))
    try simp only [Act.put, List.setIfInBounds_toArray, List.set_cons_zero, List.set_cons_succ]
    refine wpAnyH_take (i := 5) (oi := ⟨some 10, _, _, _, _, _⟩) (v := ?_) rfl (by as_aux_lemma => kernel_rfl) (by as_aux_lemma => kernel_rfl) (by as_aux_lemma => kernel_rfl) (fun _ _ _ h => h) (Or.inl ⟨by rfl, ?_⟩) hH6 ?_
    rotate_left
    focus (intro wS hSw; clear hSw; go_simp; try (with_reducible rfl))
    try simp only [Act.put, List.setIfInBounds_toArray, List.set_cons_zero, List.set_cons_succ]
    refine wpAnyH_done (by kernel_rfl) ?_ _
    go_wp2_with fail
    as_aux_lemma =>
      refine (sum_any _ _ _ _ (dgs_ok A 16) (dgs_ok B 16) (by have := HV.out; omega) (by have := HV.out; omega) _ L4_x Dy).mono ?_
      rintro e v5 ⟨z, l, rfl, Dz, okz, vz, lz, b5⟩
      have BW5 : Below w.heap.size w v5 := below_call BW4 b5
      have L5_A : Lie v5 (w.heap.size) (A) := (L4_A).past b5
      have L5_B : Lie v5 (w.heap.size + 1) (B) := (L4_B).past b5
      have L5_s : Lie v5 (v1.heap.size) (sm A B) := (L4_s).past b5
      have L5_d : Lie v5 (v2.heap.size) (df A B) := (L4_d).past b5
      have L5_x : Dig v5 x (dgs A 16) := (L4_x).past b5
      have L5_y : Dig v5 y (dgs B 16) := (Dy).past b5
      clear L4_A L4_B L4_s L4_d L4_x Dy b5
      go_wp2_with fail
      have cL := less_any _ _ _ _ (dgs_ok A 16) (dgs_ok B 16) (by have := HV.out; omega) (by have := HV.out; omega) _ L5_x L5_y
      rw [show ls (dgs A 16) (dgs B 16) = false by unfold ls; have := HV.out; rw [this.1, this.2.1]; simp; omega] at cL
      refine (cL).mono ?_
      rintro e w' ⟨rfl, rfl⟩
      clear cL
      go_wp2_with fail
      refine (full_any _).mono ?_
      rintro e v6 ⟨f, rfl, Df, b6⟩
      have BW6 : Below w.heap.size w v6 := below_call BW5 b6
      have L6_A : Lie v6 (w.heap.size) (A) := (L5_A).past b6
      have L6_B : Lie v6 (w.heap.size + 1) (B) := (L5_B).past b6
      have L6_s : Lie v6 (v1.heap.size) (sm A B) := (L5_s).past b6
      have L6_d : Lie v6 (v2.heap.size) (df A B) := (L5_d).past b6
      have L6_x : Dig v6 x (dgs A 16) := (L5_x).past b6
      have L6_y : Dig v6 y (dgs B 16) := (L5_y).past b6
      have L6_z : Dig v6 z l := (Dz).past b6
      clear L5_A L5_B L5_s L5_d L5_x L5_y Dz b6
      go_wp2_with fail
      refine (sum_any _ _ _ _ (dgs_ok A 16) fullD_ok (by have := HV.out; omega) (by decide) _ L6_x Df).mono ?_
      rintro e v7 ⟨g, m, rfl, Dg, okg, vg, lg, b7⟩
      have BW7 : Below w.heap.size w v7 := below_call BW6 b7
      have L7_A : Lie v7 (w.heap.size) (A) := (L6_A).past b7
      have L7_B : Lie v7 (w.heap.size + 1) (B) := (L6_B).past b7
      have L7_s : Lie v7 (v1.heap.size) (sm A B) := (L6_s).past b7
      have L7_d : Lie v7 (v2.heap.size) (df A B) := (L6_d).past b7
      have L7_x : Dig v7 x (dgs A 16) := (L6_x).past b7
      have L7_y : Dig v7 y (dgs B 16) := (L6_y).past b7
      have L7_z : Dig v7 z l := (L6_z).past b7
      have L7_f : Dig v7 f fullD := (Df).past b7
      clear L6_A L6_B L6_s L6_d L6_x L6_y L6_z Df b7
      have lmax : max (dgs A 16).length fullD.length ≤ 17 := by have := HV.out; rw [this.2.2.1]; decide
      have gle : vl (dgs B 16) ≤ vl m := by have := HV.out; rw [vg, fullD_val, this.1, this.2.1]; omega
      have lm : m.length ≤ 1000 := by omega
      clear lmax lg
      have Hg := Lib.hid vg
      clear vg
      go_wp2_with fail
      refine (take_any _ _ _ _ okg (dgs_ok B 16) lm (by have := HV.out; omega) gle _ Dg L7_y).mono ?_
      rintro e v8 ⟨h, n, rfl, Dh, okh, vh, lh, b8⟩
      have BW8 : Below w.heap.size w v8 := below_call BW7 b8
      have L8_A : Lie v8 (w.heap.size) (A) := (L7_A).past b8
      have L8_B : Lie v8 (w.heap.size + 1) (B) := (L7_B).past b8
      have L8_s : Lie v8 (v1.heap.size) (sm A B) := (L7_s).past b8
      have L8_d : Lie v8 (v2.heap.size) (df A B) := (L7_d).past b8
      have L8_x : Dig v8 x (dgs A 16) := (L7_x).past b8
      have L8_y : Dig v8 y (dgs B 16) := (L7_y).past b8
      have L8_z : Dig v8 z l := (L7_z).past b8
      have L8_f : Dig v8 f fullD := (L7_f).past b8
      have L8_g : Dig v8 g m := (Dg).past b8
      clear L7_A L7_B L7_s L7_d L7_x L7_y L7_z L7_f Dg b8
      have Hh := Lib.hid vh
      have ln : n.length ≤ 1000 := by omega
      have ll : l.length ≤ 1000 := by have := HV.out; omega
      have Hz := Lib.hid vz
      clear vh lh vz lz gle
      clear L8_x
      clear L8_y
      clear L8_f
      clear L8_g
      have es : vl l % big = sm A B := by have := HV.out; rw [Hz.out, this.1, this.2.1]; rfl
      have ed : vl n % big = df A B := by have := HV.out; rw [Hh.out, Hg.out, fullD_val, this.1, this.2.1]; rfl
      have eo : ls l fullD = !(ov A B) := by have := HV.out; unfold ls ov; rw [Hz.out, fullD_val, this.1, this.2.1]; rw [← decide_not]; congr 1; rw [eq_iff_iff]; omega
      have HE := Lib.hid (And.intro es (And.intro ed eo))
      clear es ed eo
      have lt7 := L8_A.lt
      have ⟨p7a, p7b, p7c, p7d⟩ := L8_A
      have lt8 := L8_B.lt
      have ⟨p8a, p8b, p8c, p8d⟩ := L8_B
      go_upto_if 45 with (fail)
      go_cut [14] (fun s14 wx => s14 = .int .i64 (1) ∧ wx = v8)
      case first =>
        go_wp2_with fail
        go_meet
        exact ⟨rfl, rfl⟩
      case rest =>
        obtain ⟨rfl, hwc⟩ := hcut
        rw [hwc]
        clear hwc
        clear qq
        generalize df A B = D at L8_d HE
        clear lt7 p7a p7b p7c p7d lt8 p8a p8b p8c p8d
        have lt9 := L8_s.lt
        have ⟨p9a, p9b, p9c, p9d⟩ := L8_s
        have lt10 := L8_d.lt
        have ⟨p10a, p10b, p10c, p10d⟩ := L8_d
        have lt11 := L8_A.lt
        have ⟨p11a, p11b, p11c, p11d⟩ := L8_A
        have lt12 := L8_B.lt
        have ⟨p12a, p12b, p12c, p12d⟩ := L8_B
        go_wp2_with fail
        clear lt9 p9a p9b p9c p9d lt10 p10a p10b p10c p10d lt11 p11a p11b p11c p11d lt12 p12a p12b p12c p12d
        refine wp_region_held_drew (S := fun w' => Lie w' (v1.heap.size) (sm A B) ∧ Lie w' (v2.heap.size) (D) ∧ Lie w' (w.heap.size) (A) ∧ Lie w' (w.heap.size + 1) (B)) (by kernel_rfl) ?_ (fun hH => ?_)
        · exact ⟨(L8_s).drew, (L8_d).drew, (L8_A).drew, (L8_B).drew⟩
        refine wpAnyH_ready (rs := [0]) (by as_aux_lemma => kernel_rfl) (by simp) ?_
        refine AllReadyH.cons (o := ⟨some 47, _, _, _, _, _⟩) rfl (fun K hK => ?_) AllReadyH.nil
        go_simp
        refine (alive_any _).mono ?_
        rintro e v9 ⟨rfl, b9⟩
        have BW9 : Below w.heap.size w v9 := below_call (Below.drew BW8) b9
        have L9_A : Lie v9 (w.heap.size) (A) := ((L8_A).drew).past b9
        have L9_B : Lie v9 (w.heap.size + 1) (B) := ((L8_B).drew).past b9
        have L9_s : Lie v9 (v1.heap.size) (sm A B) := ((L8_s).drew).past b9
        have L9_d : Lie v9 (v2.heap.size) (D) := ((L8_d).drew).past b9
        have L9_z : Dig v9 z l := ((L8_z).drew).past b9
        have L9_h : Dig v9 h n := ((Dh).drew).past b9
        clear L8_A L8_B L8_s L8_d L8_z Dh b9
        refine hK.out _ _ ?_ (fun hH13 => ?_)
        · exact ⟨L9_s, L9_d, L9_A, L9_B⟩
        clear hK K
        try simp only [Act.put, List.setIfInBounds_toArray, List.set_cons_zero, List.set_cons_succ]
        refine wpAnyH_take (i := 1) (oi := ⟨some 48, _, _, _, _, _⟩) (v := ?_) rfl (by as_aux_lemma => kernel_rfl) (by as_aux_lemma => kernel_rfl) (by as_aux_lemma => kernel_rfl) (fun _ _ _ h => h) (Or.inl ⟨by rfl, ?_⟩) hH13 ?_
        rotate_left
        focus (intro wS hSw; clear hSw; go_simp; try (with_reducible rfl))
        try simp only [Act.put, List.setIfInBounds_toArray, List.set_cons_zero, List.set_cons_succ]
        refine wpAnyH_take (i := 2) (oi := ⟨some 49, _, _, _, _, _⟩) (v := ?_) rfl (by as_aux_lemma => kernel_rfl) (by as_aux_lemma => kernel_rfl) (by as_aux_lemma => kernel_rfl) (fun _ _ _ h => h) (Or.inl ⟨by rfl, ?_⟩) hH13 ?_
        rotate_left
        focus (intro wS hSw; (try dsimp only at hSw); (obtain ⟨⟨s0, s1, s2, s3⟩, ⟨d0, d1, d2, d3⟩, ⟨a0, a1, a2, a3⟩, ⟨b0, b1, b2, b3⟩⟩ := hSw); go_simp; try (with_reducible rfl))
        try simp only [Act.put, List.setIfInBounds_toArray, List.set_cons_zero, List.set_cons_succ]
        refine wpAnyH_take (i := 3) (oi := ⟨some 50, _, _, _, _, _⟩) (v := ?_) rfl (by as_aux_lemma => kernel_rfl) (by as_aux_lemma => kernel_rfl) (by as_aux_lemma => kernel_rfl) (fun _ _ _ h => h) (Or.inl ⟨by rfl, ?_⟩) hH13 ?_
        rotate_left
        focus (intro wS hSw; clear hSw; go_simp; try (with_reducible rfl))
        try simp only [Act.put, List.setIfInBounds_toArray, List.set_cons_zero, List.set_cons_succ]
        have cT := to_any _ l okz ll _ L9_z
        rw [HE.out.1] at cT
        refine wpAnyH_ready (rs := [4]) (by as_aux_lemma => kernel_rfl) (by simp) ?_
        refine AllReadyH.cons (o := ⟨some 51, _, _, _, _, _⟩) rfl (fun K hK => ?_) AllReadyH.nil
        go_simp
        refine (cT).mono ?_
        rintro e v10 ⟨rfl, b10⟩
        have BW10 : Below w.heap.size w v10 := below_call BW9 b10
        have L10_A : Lie v10 (w.heap.size) (A) := (L9_A).past b10
        have L10_B : Lie v10 (w.heap.size + 1) (B) := (L9_B).past b10
        have L10_s : Lie v10 (v1.heap.size) (sm A B) := (L9_s).past b10
        have L10_d : Lie v10 (v2.heap.size) (D) := (L9_d).past b10
        have L10_z : Dig v10 z l := (L9_z).past b10
        have L10_h : Dig v10 h n := (L9_h).past b10
        clear L9_A L9_B L9_s L9_d L9_z L9_h b10
        clear cT
        refine hK.out _ _ ?_ (fun hH14 => ?_)
        · exact ⟨L10_s, L10_d, L10_A, L10_B⟩
        clear hK K
        try simp only [Act.put, List.setIfInBounds_toArray, List.set_cons_zero, List.set_cons_succ]
        refine wpAnyH_take (i := 5) (oi := ⟨some 52, _, _, _, _, _⟩) (v := ?_) rfl (by as_aux_lemma => kernel_rfl) (by as_aux_lemma => kernel_rfl) (by as_aux_lemma => kernel_rfl) (fun _ _ _ h => h) (Or.inl ⟨by rfl, ?_⟩) hH14 ?_
        rotate_left
        focus (intro wS hSw; clear hSw; go_simp; try (with_reducible rfl))
        try simp only [Act.put, List.setIfInBounds_toArray, List.set_cons_zero, List.set_cons_succ]
        refine wpAnyH_take (i := 6) (oi := ⟨some 53, _, _, _, _, _⟩) (v := ?_) rfl (by as_aux_lemma => kernel_rfl) (by as_aux_lemma => kernel_rfl) (by as_aux_lemma => kernel_rfl) (fun _ _ _ h => h) (Or.inl ⟨by rfl, ?_⟩) hH14 ?_
        rotate_left
        focus (intro wS hSw; clear hSw; go_simp; try (with_reducible rfl))
        try simp only [Act.put, List.setIfInBounds_toArray, List.set_cons_zero, List.set_cons_succ]
        refine wpAnyH_take (i := 7) (oi := ⟨some 54, _, _, _, _, _⟩) (v := ?_) rfl (by as_aux_lemma => kernel_rfl) (by as_aux_lemma => kernel_rfl) (by as_aux_lemma => kernel_rfl) (fun _ _ _ h => h) (Or.inl ⟨by rfl, ?_⟩) hH14 ?_
        rotate_left
        focus (intro wS hSw; clear hSw; go_simp; try (with_reducible rfl))
        try simp only [Act.put, List.setIfInBounds_toArray, List.set_cons_zero, List.set_cons_succ]
        refine wpAnyH_take (i := 8) (oi := ⟨some 55, _, _, _, _, _⟩) (v := ?_) rfl (by as_aux_lemma => kernel_rfl) (by as_aux_lemma => kernel_rfl) (by as_aux_lemma => kernel_rfl) (fun _ _ _ h => h) (Or.inl ⟨by rfl, ?_⟩) hH14 ?_
        rotate_left
        focus (intro wS hSw; clear hSw; go_simp; try (with_reducible rfl))
        try simp only [Act.put, List.setIfInBounds_toArray, List.set_cons_zero, List.set_cons_succ]
        refine wpAnyH_take (i := 9) (oi := ⟨some 56, _, _, _, _, _⟩) (v := ?_) rfl (by as_aux_lemma => kernel_rfl) (by as_aux_lemma => kernel_rfl) (by as_aux_lemma => kernel_rfl) (fun _ _ _ h => h) (Or.inl ⟨by rfl, ?_⟩) hH14 ?_
        rotate_left
        focus (intro wS hSw; clear hSw; go_simp; try (with_reducible rfl))
        try simp only [Act.put, List.setIfInBounds_toArray, List.set_cons_zero, List.set_cons_succ]
        refine wpAnyH_ready (rs := [10]) (by as_aux_lemma => kernel_rfl) (by simp) ?_
        refine AllReadyH.cons (o := ⟨some 57, _, _, _, _, _⟩) rfl (fun K hK => ?_) AllReadyH.nil
        go_simp
        refine (full_any _).mono ?_
        rintro e v11 ⟨f2, rfl, Df2, b11⟩
        have BW11 : Below w.heap.size w v11 := below_call BW10 b11
        have L11_A : Lie v11 (w.heap.size) (A) := (L10_A).past b11
        have L11_B : Lie v11 (w.heap.size + 1) (B) := (L10_B).past b11
        have L11_s : Lie v11 (v1.heap.size) (sm A B) := (L10_s).past b11
        have L11_d : Lie v11 (v2.heap.size) (D) := (L10_d).past b11
        have L11_z : Dig v11 z l := (L10_z).past b11
        have L11_h : Dig v11 h n := (L10_h).past b11
        clear L10_A L10_B L10_s L10_d L10_z L10_h b11
        refine hK.out _ _ ?_ (fun hH15 => ?_)
        · exact ⟨L11_s, L11_d, L11_A, L11_B⟩
        clear hK K
        try simp only [Act.put, List.setIfInBounds_toArray, List.set_cons_zero, List.set_cons_succ]
        have cL := less_any _ _ l fullD okz fullD_ok ll (by decide) _ L11_z Df2
        rw [HE.out.2.2] at cL
        refine wpAnyH_ready (rs := [11]) (by as_aux_lemma => kernel_rfl) (by simp) ?_
        refine AllReadyH.cons (o := ⟨some 58, _, _, _, _, _⟩) rfl (fun K hK => ?_) AllReadyH.nil
        go_simp
        refine (cL).mono ?_
        rintro e w' ⟨rfl, rfl⟩
        refine hK.out _ _ ?_ (fun hH16 => ?_)
        · exact hH15
        clear hK K
        try simp only [Act.put, List.setIfInBounds_toArray, List.set_cons_zero, List.set_cons_succ]
        clear cL Df2
        refine wpAnyH_take (i := 12) (oi := ⟨some 59, _, _, _, _, _⟩) (v := ?_) rfl (by as_aux_lemma => kernel_rfl) (by as_aux_lemma => kernel_rfl) (by as_aux_lemma => kernel_rfl) (fun _ _ _ h => h) (Or.inl ⟨by rfl, ?_⟩) hH16 ?_
        rotate_left
        focus (intro wS hSw; clear hSw; go_simp; try (with_reducible rfl))
        try simp only [Act.put, List.setIfInBounds_toArray, List.set_cons_zero, List.set_cons_succ]
        refine wpAnyH_take (i := 13) (oi := ⟨some 60, _, _, _, _, _⟩) (v := ?_) rfl (by as_aux_lemma => kernel_rfl) (by as_aux_lemma => kernel_rfl) (by as_aux_lemma => kernel_rfl) (fun _ _ _ h => h) (Or.inl ⟨by rfl, ?_⟩) hH16 ?_
        rotate_left
        focus (intro wS hSw; clear hSw; go_simp; try (with_reducible rfl))
        try simp only [Act.put, List.setIfInBounds_toArray, List.set_cons_zero, List.set_cons_succ]
        refine wpAnyH_take (i := 14) (oi := ⟨some 61, _, _, _, _, _⟩) (v := ?_) rfl (by as_aux_lemma => kernel_rfl) (by as_aux_lemma => kernel_rfl) (by as_aux_lemma => kernel_rfl) (fun _ _ _ h => h) (Or.inl ⟨by rfl, ?_⟩) hH16 ?_
        rotate_left
        focus (intro wS hSw; clear hSw; go_simp; try (with_reducible rfl))
        try simp only [Act.put, List.setIfInBounds_toArray, List.set_cons_zero, List.set_cons_succ]
        refine wpAnyH_take (i := 15) (oi := ⟨some 62, _, _, _, _, _⟩) (v := ?_) rfl (by as_aux_lemma => kernel_rfl) (by as_aux_lemma => kernel_rfl) (by as_aux_lemma => kernel_rfl) (fun _ _ _ h => h) (Or.inl ⟨by rfl, ?_⟩) hH16 ?_
        rotate_left
        focus (intro wS hSw; clear hSw; go_simp; try (with_reducible rfl))
        try simp only [Act.put, List.setIfInBounds_toArray, List.set_cons_zero, List.set_cons_succ]
        refine wpAnyH_take (i := 16) (oi := ⟨some 63, _, _, _, _, _⟩) (v := ?_) rfl (by as_aux_lemma => kernel_rfl) (by as_aux_lemma => kernel_rfl) (by as_aux_lemma => kernel_rfl) (fun _ _ _ h => h) (Or.inl ⟨by rfl, ?_⟩) hH16 ?_
        rotate_left
        focus (intro wS hSw; (try dsimp only at hSw); (obtain ⟨⟨s0, s1, s2, s3⟩, ⟨d0, d1, d2, d3⟩, ⟨a0, a1, a2, a3⟩, ⟨b0, b1, b2, b3⟩⟩ := hSw); go_simp; try (with_reducible rfl))
        try simp only [Act.put, List.setIfInBounds_toArray, List.set_cons_zero, List.set_cons_succ]
        refine wpAnyH_take (i := 17) (oi := ⟨some 64, _, _, _, _, _⟩) (v := ?_) rfl (by as_aux_lemma => kernel_rfl) (by as_aux_lemma => kernel_rfl) (by as_aux_lemma => kernel_rfl) (fun _ _ _ h => h) (Or.inl ⟨by rfl, ?_⟩) hH16 ?_
        rotate_left
        focus (intro wS hSw; clear hSw; go_simp; try (with_reducible rfl))
        try simp only [Act.put, List.setIfInBounds_toArray, List.set_cons_zero, List.set_cons_succ]
        have cT := to_any _ n okh ln _ L11_h
        rw [HE.out.2.1] at cT
        refine wpAnyH_ready (rs := [18]) (by as_aux_lemma => kernel_rfl) (by simp) ?_
        refine AllReadyH.cons (o := ⟨some 65, _, _, _, _, _⟩) rfl (fun K hK => ?_) AllReadyH.nil
        go_simp
        refine (cT).mono ?_
        rintro e v12 ⟨rfl, b12⟩
        have BW12 : Below w.heap.size w v12 := below_call BW11 b12
        have L12_A : Lie v12 (w.heap.size) (A) := (L11_A).past b12
        have L12_B : Lie v12 (w.heap.size + 1) (B) := (L11_B).past b12
        have L12_s : Lie v12 (v1.heap.size) (sm A B) := (L11_s).past b12
        have L12_d : Lie v12 (v2.heap.size) (D) := (L11_d).past b12
        have L12_z : Dig v12 z l := (L11_z).past b12
        have L12_h : Dig v12 h n := (L11_h).past b12
        clear L11_A L11_B L11_s L11_d L11_z L11_h b12
        clear cT
        refine hK.out _ _ ?_ (fun hH17 => ?_)
        · exact ⟨L12_s, L12_d, L12_A, L12_B⟩
        clear hK K
        try simp only [Act.put, List.setIfInBounds_toArray, List.set_cons_zero, List.set_cons_succ]
        refine wpAnyH_take (i := 19) (oi := ⟨some 66, _, _, _, _, _⟩) (v := .bool true) rfl (by as_aux_lemma => kernel_rfl) (by as_aux_lemma => kernel_rfl) (by as_aux_lemma => kernel_rfl) (fun _ _ _ h => h) (Or.inl ⟨by rfl, ?_⟩) hH17 ?_
        focus (intro wS hSw; clear hSw; exact eq_op _ _ _ _ rfl (w0 D) (w1 D) (w2 D) (w3 D) (by as_aux_lemma => kernel_rfl) (by as_aux_lemma => kernel_rfl) _)
        try simp only [Act.put, List.setIfInBounds_toArray, List.set_cons_zero, List.set_cons_succ]
        refine wpAnyH_take (i := 20) (oi := ⟨some 67, _, _, _, _, _⟩) (v := ?_) rfl (by as_aux_lemma => kernel_rfl) (by as_aux_lemma => kernel_rfl) (by as_aux_lemma => kernel_rfl) (fun _ _ _ h => h) (Or.inl ⟨by rfl, ?_⟩) hH17 ?_
        rotate_left
        focus (intro wS hSw; clear hSw; go_simp; try (with_reducible rfl))
        try simp only [Act.put, List.setIfInBounds_toArray, List.set_cons_zero, List.set_cons_succ]
        refine wpAnyH_take (i := 21) (oi := ⟨some 68, _, _, _, _, _⟩) (v := ?_) rfl (by as_aux_lemma => kernel_rfl) (by as_aux_lemma => kernel_rfl) (by as_aux_lemma => kernel_rfl) (fun _ _ _ h => h) (Or.inl ⟨by rfl, ?_⟩) hH17 ?_
        rotate_left
        focus (intro wS hSw; clear hSw; go_simp; try (with_reducible rfl))
        try simp only [Act.put, List.setIfInBounds_toArray, List.set_cons_zero, List.set_cons_succ]
        refine wpAnyH_take (i := 22) (oi := ⟨some 69, _, _, _, _, _⟩) (v := ?_) rfl (by as_aux_lemma => kernel_rfl) (by as_aux_lemma => kernel_rfl) (by as_aux_lemma => kernel_rfl) (fun _ _ _ h => h) (Or.inl ⟨by rfl, ?_⟩) hH17 ?_
        rotate_left
        focus (intro wS hSw; clear hSw; go_simp; try (with_reducible rfl))
        try simp only [Act.put, List.setIfInBounds_toArray, List.set_cons_zero, List.set_cons_succ]
        refine wpAnyH_take (i := 23) (oi := ⟨some 70, _, _, _, _, _⟩) (v := ?_) rfl (by as_aux_lemma => kernel_rfl) (by as_aux_lemma => kernel_rfl) (by as_aux_lemma => kernel_rfl) (fun _ _ _ h => h) (Or.inl ⟨by rfl, ?_⟩) hH17 ?_
        rotate_left
        focus (intro wS hSw; clear hSw; go_simp; try (with_reducible rfl))
        try simp only [Act.put, List.setIfInBounds_toArray, List.set_cons_zero, List.set_cons_succ]
        refine wpAnyH_take (i := 24) (oi := ⟨some 71, _, _, _, _, _⟩) (v := ?_) rfl (by as_aux_lemma => kernel_rfl) (by as_aux_lemma => kernel_rfl) (by as_aux_lemma => kernel_rfl) (fun _ _ _ h => h) (Or.inl ⟨by rfl, ?_⟩) hH17 ?_
        rotate_left
        focus (intro wS hSw; clear hSw; go_simp; try (with_reducible rfl))
        try simp only [Act.put, List.setIfInBounds_toArray, List.set_cons_zero, List.set_cons_succ]
        refine wpAnyH_take (i := 25) (oi := ⟨some 72, _, _, _, _, _⟩) (v := ?_) rfl (by as_aux_lemma => kernel_rfl) (by as_aux_lemma => kernel_rfl) (by as_aux_lemma => kernel_rfl) (fun _ _ _ h => h) (Or.inl ⟨by rfl, ?_⟩) hH17 ?_
        rotate_left
        focus (intro wS hSw; clear hSw; go_simp; try (with_reducible rfl))
        try simp only [Act.put, List.setIfInBounds_toArray, List.set_cons_zero, List.set_cons_succ]
        refine wpAnyH_take (i := 26) (oi := ⟨some 73, _, _, _, _, _⟩) (v := ?_) rfl (by as_aux_lemma => kernel_rfl) (by as_aux_lemma => kernel_rfl) (by as_aux_lemma => kernel_rfl) (fun _ _ _ h => h) (Or.inl ⟨by rfl, ?_⟩) hH17 ?_
        rotate_left
        focus (intro wS hSw; clear hSw; go_simp; try (with_reducible rfl))
        try simp only [Act.put, List.setIfInBounds_toArray, List.set_cons_zero, List.set_cons_succ]
        refine wpAnyH_take (i := 27) (oi := ⟨some 74, _, _, _, _, _⟩) (v := ?_) rfl (by as_aux_lemma => kernel_rfl) (by as_aux_lemma => kernel_rfl) (by as_aux_lemma => kernel_rfl) (fun _ _ _ h => h) (Or.inl ⟨by rfl, ?_⟩) hH17 ?_
        rotate_left
        focus (intro wS hSw; (try dsimp only at hSw); (obtain ⟨⟨s0, s1, s2, s3⟩, ⟨d0, d1, d2, d3⟩, ⟨a0, a1, a2, a3⟩, ⟨b0, b1, b2, b3⟩⟩ := hSw); go_simp; try (with_reducible rfl))
        try simp only [Act.put, List.setIfInBounds_toArray, List.set_cons_zero, List.set_cons_succ]
        refine wpAnyH_take (i := 28) (oi := ⟨some 75, _, _, _, _, _⟩) (v := ?_) rfl (by as_aux_lemma => kernel_rfl) (by as_aux_lemma => kernel_rfl) (by as_aux_lemma => kernel_rfl) (fun _ _ _ h => h) (Or.inl ⟨by rfl, ?_⟩) hH17 ?_
        rotate_left
        focus (intro wS hSw; (try dsimp only at hSw); (obtain ⟨⟨s0, s1, s2, s3⟩, ⟨d0, d1, d2, d3⟩, ⟨a0, a1, a2, a3⟩, ⟨b0, b1, b2, b3⟩⟩ := hSw); go_simp; try (with_reducible rfl))
        try simp only [Act.put, List.setIfInBounds_toArray, List.set_cons_zero, List.set_cons_succ]
        refine wpAnyH_take (i := 30) (oi := ⟨some 77, _, _, _, _, _⟩) (v := ?_) rfl (by as_aux_lemma => kernel_rfl) (by as_aux_lemma => kernel_rfl) (by as_aux_lemma => kernel_rfl) (fun _ _ _ h => h) (Or.inl ⟨by rfl, ?_⟩) hH17 ?_
        rotate_left
        focus (intro wS hSw; clear hSw; go_simp; try (with_reducible rfl))
        try simp only [Act.put, List.setIfInBounds_toArray, List.set_cons_zero, List.set_cons_succ]
        refine wpAnyH_ready (rs := [29]) (by as_aux_lemma => kernel_rfl) (by simp) ?_
        refine AllReadyH.cons (o := ⟨some 76, _, _, _, _, _⟩) rfl (fun K hK => ?_) AllReadyH.nil
        go_simp
        refine (cCmp _).mono ?_
        rintro e v13 ⟨rfl, b13⟩
        have BW13 : Below w.heap.size w v13 := below_call BW12 b13
        have L13_A : Lie v13 (w.heap.size) (A) := (L12_A).past b13
        have L13_B : Lie v13 (w.heap.size + 1) (B) := (L12_B).past b13
        have L13_s : Lie v13 (v1.heap.size) (sm A B) := (L12_s).past b13
        have L13_d : Lie v13 (v2.heap.size) (D) := (L12_d).past b13
        have L13_z : Dig v13 z l := (L12_z).past b13
        have L13_h : Dig v13 h n := (L12_h).past b13
        clear L12_A L12_B L12_s L12_d L12_z L12_h b13
        refine hK.out _ _ ?_ (fun hH18 => ?_)
        · exact ⟨L13_s, L13_d, L13_A, L13_B⟩
        clear hK K
        try simp only [Act.put, List.setIfInBounds_toArray, List.set_cons_zero, List.set_cons_succ]
        refine wpAnyH_take (i := 31) (oi := ⟨some 78, _, _, _, _, _⟩) (v := ?_) rfl (by as_aux_lemma => kernel_rfl) (by as_aux_lemma => kernel_rfl) (by as_aux_lemma => kernel_rfl) (fun _ _ _ h => h) (Or.inl ⟨by rfl, ?_⟩) hH18 ?_
        rotate_left
        focus (intro wS hSw; clear hSw; go_simp; try (with_reducible rfl))
        try simp only [Act.put, List.setIfInBounds_toArray, List.set_cons_zero, List.set_cons_succ]
        refine wpAnyH_take (i := 32) (oi := ⟨some 79, _, _, _, _, _⟩) (v := ?_) rfl (by as_aux_lemma => kernel_rfl) (by as_aux_lemma => kernel_rfl) (by as_aux_lemma => kernel_rfl) (fun _ _ _ h => h) (Or.inl ⟨by rfl, ?_⟩) hH18 ?_
        rotate_left
        focus (intro wS hSw; clear hSw; go_simp; try (with_reducible rfl))
        try simp only [Act.put, List.setIfInBounds_toArray, List.set_cons_zero, List.set_cons_succ]
        refine wpAnyH_take (i := 33) (oi := ⟨some 4, _, _, _, _, _⟩) (v := ?_) rfl (by as_aux_lemma => kernel_rfl) (by as_aux_lemma => kernel_rfl) (by as_aux_lemma => kernel_rfl) (fun _ _ _ h => h) (Or.inl ⟨by rfl, ?_⟩) hH18 ?_
        rotate_left
        focus (intro wS hSw; clear hSw; go_simp; try (with_reducible rfl))
        try simp only [Act.put, List.setIfInBounds_toArray, List.set_cons_zero, List.set_cons_succ]
        refine wpAnyH_done (by kernel_rfl) ?_ _
        go_wp2
        go_ret
        exact ⟨rfl, BW13⟩

theorem sums_walk (A : Nat) (hA : A < big) (B : Nat) (hB : B < big) (w : World) : Calls Try.prog 3 #[uv A, uv B] w fun e w' => e = .returned (.bool true) ∧ Below w.heap.size w w' := by
  by_cases h : A = B
  · exact sums_eq A hA B hB h w
  · by_cases k : A < B
    · exact sums_lt A hA B hB k w
    · exact sums_gt A hA B hB (by omega) w

end Go.Proofs.Ytiollplcmmlcgaa
