/-
  The walk of the law U256Products.
-/
import Derived.Test.YtiollplcmmlcgaaAlive
import Derived.Test.YtiollplcmmlcgaaMulWalk
import Derived.Test.YtiollplcmmlcgaaTimes
import Derived.Test.YtiollplcmmlcgaaTo
import Derived.Deep.RegionHeld3
namespace Go.Proofs.Ytiollplcmmlcgaa
open Go.ChangeShapes Go.WideShapes Go.ChangeAt Go.RowKit
set_option linter.unusedVariables false

theorem vl_of (A : Nat) (hA : A < big) : vl (dgs A 16) = A := by rw [vl_dgs, ← big_pow, Nat.mod_eq_of_lt hA]
theorem times_of (A B : Nat) (hA : A < big) (hB : B < big) (va vb : Value) (w : World) (ha : Dig w va (dgs A 16)) (hb : Dig w vb (dgs B 16)) :
    Calls Try.prog 21 #[va, vb] w fun e w' => ∃ l, e = .returned (.slice (some ⟨w.heap.size, 0, none⟩) 33 33) ∧ Dig w' (.slice (some ⟨w.heap.size, 0, none⟩) 33 33) l ∧ Ok l ∧ vl l = A * B ∧ l.length = 33 ∧ Below w.heap.size w w' := by
  have lA := dgs_length A 16
  have lB := dgs_length B 16
  have h := times_any va vb _ _ (dgs_ok A 16) (dgs_ok B 16) (by omega) (by omega) w ha hb
  rw [lA, lB, vl_of A hA, vl_of B hB] at h
  exact h.mono fun e w' ⟨v, l, he, hv, D, ok, hv2, hl, hb⟩ => by subst hv; exact ⟨l, he, D, ok, hv2, hl, hb⟩
theorem Dig.drop16 {W : World} {g : Nat} {l : List Nat} (h : Dig W (.slice (some ⟨g, 0, none⟩) 33 33) l) (hl : l.length = 33) : Dig W (.slice (some ⟨g, 16, none⟩) 17 17) (l.drop 16) := by
  obtain ⟨a, cap, e, hc⟩ := h
  injection e with e1 e2 e3
  have hd : (l.drop 16).length = 17 := by simp [hl]
  refine ⟨_, 17, by rw [hd], .inr ?_⟩
  rcases hc with hc | ⟨g', o, rfl, hg, hc⟩
  · subst hc; simp at hl
  · injection e1 with e1
    injection e1 with e4 e5
    subst e4 e5
    refine ⟨g, 16, rfl, hg, fun i hi => ?_⟩
    have := hc (16 + i) (by omega)
    rw [Nat.zero_add] at this
    rw [this, dAt_drop]
theorem ph_val (A B : Nat) (hA : A < big) (hB : B < big) : ph A B % big = ph A B := by
  unfold ph
  refine Nat.mod_eq_of_lt ?_
  have : A * B < big * big := Nat.mul_lt_mul_of_lt_of_le hA (Nat.le_of_lt hB) (by decide)
  exact Nat.div_lt_of_lt_mul this

set_option maxHeartbeats 40000000 in
set_option maxRecDepth 100000 in
theorem products_walk (A : Nat) (hA : A < big) (B : Nat) (hB : B < big) (w : World) : Calls Try.prog 4 #[uv A, uv B] w fun e w' => e = .returned (.bool true) ∧ Below w.heap.size w w' := by
  have q := eqU_self
  unfold uv
  go_enter Try.func4, Try.ntmps4
  have BW0 : Below w.heap.size w w := Below.refl _ _
  go_wp2_with fail
  refine (mul_any A B hA hB _).mono ?_
  rintro e v1 ⟨rfl, b1⟩
  have BW1 : Below w.heap.size w v1 := below_call (below_laid (below_laid BW0 _) _) b1
  have L1_A : Lie v1 (w.heap.size) (A) := (((Lie.hereAt _ _ _ (by simp)).alloc _)).past b1
  have L1_B : Lie v1 (w.heap.size + 1) (B) := ((Lie.hereAt _ _ _ (by simp))).past b1
  clear b1
  have lt1 := L1_A.lt
  have ⟨p1a, p1b, p1c, p1d⟩ := L1_A
  have lt2 := L1_B.lt
  have ⟨p2a, p2b, p2c, p2d⟩ := L1_B
  go_wp2_with fail
  clear lt1 p1a p1b p1c p1d lt2 p2a p2b p2c p2d
  refine wp_region_held_drew (S := fun w' => Lie w' (w.heap.size) (A) ∧ Lie w' (w.heap.size + 1) (B)) (by kernel_rfl) ?_ (fun hH => ?_)
  · exact ⟨(((L1_A.alloc _).alloc _)).drew, (((L1_B.alloc _).alloc _)).drew⟩
  refine wpAnyH_take (i := 0) (oi := ⟨some 14, _, _, _, _, _⟩) (v := ?_) rfl (by as_aux_lemma => kernel_rfl) (by as_aux_lemma => kernel_rfl) (by as_aux_lemma => kernel_rfl) (fun _ _ _ h => h) (Or.inl ⟨by rfl, ?_⟩) hH ?_
  rotate_left
  focus (intro wS hSw; (try dsimp only at hSw); (obtain ⟨⟨a0, a1, a2, a3⟩, ⟨b0, b1, b2, b3⟩⟩ := hSw); go_simp; try (with_reducible rfl))
  try simp only [Act.put, List.setIfInBounds_toArray, List.set_cons_zero, List.set_cons_succ]
  refine wpAnyH_take (i := 2) (oi := ⟨some 16, _, _, _, _, _⟩) (v := ?_) rfl (by as_aux_lemma => kernel_rfl) (by as_aux_lemma => kernel_rfl) (by as_aux_lemma => kernel_rfl) (fun _ _ _ h => h) (Or.inl ⟨by rfl, ?_⟩) hH ?_
  rotate_left
  focus (intro wS hSw; (try dsimp only at hSw); (obtain ⟨⟨a0, a1, a2, a3⟩, ⟨b0, b1, b2, b3⟩⟩ := hSw); go_simp; try (with_reducible rfl))
  try simp only [Act.put, List.setIfInBounds_toArray, List.set_cons_zero, List.set_cons_succ]
  refine wpAnyH_ready (rs := [1]) (by as_aux_lemma => kernel_rfl) (by simp) ?_
  refine AllReadyH.cons (o := ⟨some 15, _, _, _, _, _⟩) rfl (fun K hK => ?_) AllReadyH.nil
  go_simp
  refine (of_any A _).mono ?_
  rintro e v2 ⟨x, rfl, Dx, b2⟩
  have BW2 : Below w.heap.size w v2 := below_call (Below.drew (below_laid (below_laid BW1 _) _)) b2
  have L2_A : Lie v2 (w.heap.size) (A) := ((((L1_A.alloc _).alloc _)).drew).past b2
  have L2_B : Lie v2 (w.heap.size + 1) (B) := ((((L1_B.alloc _).alloc _)).drew).past b2
  have L2_p : Lie v2 (v1.heap.size) (pl A B) := ((((Lie.hereAt _ _ _ (by simp)).alloc _)).drew).past b2
  have L2_q : Lie v2 (v1.heap.size + 1) (ph A B) := (((Lie.hereAt _ _ _ (by simp))).drew).past b2
  clear L1_A L1_B b2
  refine hK.out _ _ ?_ (fun hH3 => ?_)
  · exact ⟨L2_A, L2_B⟩
  clear hK K
  try simp only [Act.put, List.setIfInBounds_toArray, List.set_cons_zero, List.set_cons_succ]
  refine wpAnyH_ready (rs := [3]) (by as_aux_lemma => kernel_rfl) (by simp) ?_
  refine AllReadyH.cons (o := ⟨some 17, _, _, _, _, _⟩) rfl (fun K hK => ?_) AllReadyH.nil
  go_simp
  refine (of_any B _).mono ?_
  rintro e v3 ⟨y, rfl, Dy, b3⟩
  have BW3 : Below w.heap.size w v3 := below_call BW2 b3
  have L3_A : Lie v3 (w.heap.size) (A) := (L2_A).past b3
  have L3_B : Lie v3 (w.heap.size + 1) (B) := (L2_B).past b3
  have L3_p : Lie v3 (v1.heap.size) (pl A B) := (L2_p).past b3
  have L3_q : Lie v3 (v1.heap.size + 1) (ph A B) := (L2_q).past b3
  have L3_x : Dig v3 x (dgs A 16) := (Dx).past b3
  clear L2_A L2_B L2_p L2_q Dx b3
  refine hK.out _ _ ?_ (fun hH4 => ?_)
  · exact ⟨L3_A, L3_B⟩
  clear hK K
  try simp only [Act.put, List.setIfInBounds_toArray, List.set_cons_zero, List.set_cons_succ]
  refine wpAnyH_ready (rs := [4]) (by as_aux_lemma => kernel_rfl) (by simp) ?_
  refine AllReadyH.cons (o := ⟨some 18, _, _, _, _, _⟩) rfl (fun K hK => ?_) AllReadyH.nil
  go_simp
  refine (times_of A B hA hB _ _ _ L3_x Dy).mono ?_
  rintro e v4 ⟨l, rfl, Dz, okz, vz, lz, b4⟩
  have BW4 : Below w.heap.size w v4 := below_call BW3 b4
  have L4_A : Lie v4 (w.heap.size) (A) := (L3_A).past b4
  have L4_B : Lie v4 (w.heap.size + 1) (B) := (L3_B).past b4
  have L4_p : Lie v4 (v1.heap.size) (pl A B) := (L3_p).past b4
  have L4_q : Lie v4 (v1.heap.size + 1) (ph A B) := (L3_q).past b4
  have L4_x : Dig v4 x (dgs A 16) := (L3_x).past b4
  have L4_y : Dig v4 y (dgs B 16) := (Dy).past b4
  clear L3_A L3_B L3_p L3_q L3_x Dy b4
  refine hK.out _ _ ?_ (fun hH5 => ?_)
  · exact ⟨L4_A, L4_B⟩
  clear hK K
  try simp only [Act.put, List.setIfInBounds_toArray, List.set_cons_zero, List.set_cons_succ]
  refine wpAnyH_take (i := 5) (oi := ⟨some 7, _, _, _, _, _⟩) (v := ?_) rfl (by as_aux_lemma => kernel_rfl) (by as_aux_lemma => kernel_rfl) (by as_aux_lemma => kernel_rfl) (fun _ _ _ h => h) (Or.inl ⟨by rfl, ?_⟩) hH5 ?_
  rotate_left
  focus (intro wS hSw; (try dsimp only at hSw); (obtain ⟨⟨a0, a1, a2, a3⟩, ⟨b0, b1, b2, b3⟩⟩ := hSw); go_simp; try (with_reducible rfl))
  try simp only [Act.put, List.setIfInBounds_toArray, List.set_cons_zero, List.set_cons_succ]
  refine wpAnyH_done (by kernel_rfl) ?_ _
  clear L4_x
  clear L4_y
  clear L4_A
  clear L4_B
  have Hv := Lib.hid (And.intro vz lz)
  clear vz lz
  have lt6 := L4_p.lt
  have ⟨p6a, p6b, p6c, p6d⟩ := L4_p
  have lt7 := L4_q.lt
  have ⟨p7a, p7b, p7c, p7d⟩ := L4_q
  go_wp2_with fail
  clear lt6 p6a p6b p6c p6d lt7 p7a p7b p7c p7d
  refine wp_region_held_drew (S := fun w' => Lie w' (v1.heap.size) (pl A B) ∧ Lie w' (v1.heap.size + 1) (ph A B)) (by kernel_rfl) ?_ (fun hH => ?_)
  · exact ⟨(L4_p).drew, (L4_q).drew⟩
  refine wpAnyH_ready (rs := [0]) (by as_aux_lemma => kernel_rfl) (by simp) ?_
  refine AllReadyH.cons (o := ⟨some 19, _, _, _, _, _⟩) rfl (fun K hK => ?_) AllReadyH.nil
  go_simp
  refine (alive_any _).mono ?_
  rintro e v5 ⟨rfl, b5⟩
  have BW5 : Below w.heap.size w v5 := below_call (Below.drew BW4) b5
  have L5_p : Lie v5 (v1.heap.size) (pl A B) := ((L4_p).drew).past b5
  have L5_q : Lie v5 (v1.heap.size + 1) (ph A B) := ((L4_q).drew).past b5
  have L5_z : Dig v5 (.slice (some ⟨v3.heap.size, 0, none⟩) 33 33) l := ((Dz).drew).past b5
  clear L4_p L4_q Dz b5
  refine hK.out _ _ ?_ (fun hH8 => ?_)
  · exact ⟨L5_p, L5_q⟩
  clear hK K
  try simp only [Act.put, List.setIfInBounds_toArray, List.set_cons_zero, List.set_cons_succ]
  refine wpAnyH_take (i := 1) (oi := ⟨some 20, _, _, _, _, _⟩) (v := ?_) rfl (by as_aux_lemma => kernel_rfl) (by as_aux_lemma => kernel_rfl) (by as_aux_lemma => kernel_rfl) (fun _ _ _ h => h) (Or.inl ⟨by rfl, ?_⟩) hH8 ?_
  rotate_left
  focus (intro wS hSw; (try dsimp only at hSw); (obtain ⟨⟨p0, p1, p2, p3⟩, ⟨q0, q1, q2, q3⟩⟩ := hSw); go_simp; try (with_reducible rfl))
  try simp only [Act.put, List.setIfInBounds_toArray, List.set_cons_zero, List.set_cons_succ]
  refine wpAnyH_take (i := 2) (oi := ⟨some 21, _, _, _, _, _⟩) (v := ?_) rfl (by as_aux_lemma => kernel_rfl) (by as_aux_lemma => kernel_rfl) (by as_aux_lemma => kernel_rfl) (fun _ _ _ h => h) (Or.inl ⟨by rfl, ?_⟩) hH8 ?_
  rotate_left
  focus (intro wS hSw; (try dsimp only at hSw); (obtain ⟨⟨p0, p1, p2, p3⟩, ⟨q0, q1, q2, q3⟩⟩ := hSw); go_simp; try (with_reducible rfl))
  try simp only [Act.put, List.setIfInBounds_toArray, List.set_cons_zero, List.set_cons_succ]
  refine wpAnyH_take (i := 3) (oi := ⟨some 22, _, _, _, _, _⟩) (v := ?_) rfl (by as_aux_lemma => kernel_rfl) (by as_aux_lemma => kernel_rfl) (by as_aux_lemma => kernel_rfl) (fun _ _ _ h => h) (Or.inl ⟨by rfl, ?_⟩) hH8 ?_
  rotate_left
  focus (intro wS hSw; (try dsimp only at hSw); (obtain ⟨⟨p0, p1, p2, p3⟩, ⟨q0, q1, q2, q3⟩⟩ := hSw); go_simp; try (with_reducible rfl))
  try simp only [Act.put, List.setIfInBounds_toArray, List.set_cons_zero, List.set_cons_succ]
  have cT := to_any _ l okz (by have := Hv.out; omega) _ L5_z
  rw [show vl l % big = pl A B by rw [Hv.out.1]; rfl] at cT
  refine wpAnyH_ready (rs := [4]) (by as_aux_lemma => kernel_rfl) (by simp) ?_
  refine AllReadyH.cons (o := ⟨some 23, _, _, _, _, _⟩) rfl (fun K hK => ?_) AllReadyH.nil
  go_simp
  refine (cT).mono ?_
  rintro e v6 ⟨rfl, b6⟩
  have BW6 : Below w.heap.size w v6 := below_call BW5 b6
  have L6_p : Lie v6 (v1.heap.size) (pl A B) := (L5_p).past b6
  have L6_q : Lie v6 (v1.heap.size + 1) (ph A B) := (L5_q).past b6
  have L6_z : Dig v6 (.slice (some ⟨v3.heap.size, 0, none⟩) 33 33) l := (L5_z).past b6
  clear L5_p L5_q L5_z b6
  clear cT
  refine hK.out _ _ ?_ (fun hH9 => ?_)
  · exact ⟨L6_p, L6_q⟩
  clear hK K
  try simp only [Act.put, List.setIfInBounds_toArray, List.set_cons_zero, List.set_cons_succ]
  refine wpAnyH_take (i := 5) (oi := ⟨some 24, _, _, _, _, _⟩) (v := ?_) rfl (by as_aux_lemma => kernel_rfl) (by as_aux_lemma => kernel_rfl) (by as_aux_lemma => kernel_rfl) (fun _ _ _ h => h) (Or.inl ⟨by rfl, ?_⟩) hH9 ?_
  rotate_left
  focus (intro wS hSw; (try dsimp only at hSw); (obtain ⟨⟨p0, p1, p2, p3⟩, ⟨q0, q1, q2, q3⟩⟩ := hSw); go_simp; try (with_reducible rfl))
  try simp only [Act.put, List.setIfInBounds_toArray, List.set_cons_zero, List.set_cons_succ]
  refine wpAnyH_take (i := 6) (oi := ⟨some 25, _, _, _, _, _⟩) (v := ?_) rfl (by as_aux_lemma => kernel_rfl) (by as_aux_lemma => kernel_rfl) (by as_aux_lemma => kernel_rfl) (fun _ _ _ h => h) (Or.inl ⟨by rfl, ?_⟩) hH9 ?_
  rotate_left
  focus (intro wS hSw; (try dsimp only at hSw); (obtain ⟨⟨p0, p1, p2, p3⟩, ⟨q0, q1, q2, q3⟩⟩ := hSw); go_simp; try (with_reducible rfl))
  try simp only [Act.put, List.setIfInBounds_toArray, List.set_cons_zero, List.set_cons_succ]
  refine wpAnyH_take (i := 7) (oi := ⟨some 26, _, _, _, _, _⟩) (v := ?_) rfl (by as_aux_lemma => kernel_rfl) (by as_aux_lemma => kernel_rfl) (by as_aux_lemma => kernel_rfl) (fun _ _ _ h => h) (Or.inl ⟨by rfl, ?_⟩) hH9 ?_
  rotate_left
  focus (intro wS hSw; (try dsimp only at hSw); (obtain ⟨⟨p0, p1, p2, p3⟩, ⟨q0, q1, q2, q3⟩⟩ := hSw); go_simp; try (with_reducible rfl))
  try simp only [Act.put, List.setIfInBounds_toArray, List.set_cons_zero, List.set_cons_succ]
  refine wpAnyH_take (i := 8) (oi := ⟨some 27, _, _, _, _, _⟩) (v := ?_) rfl (by as_aux_lemma => kernel_rfl) (by as_aux_lemma => kernel_rfl) (by as_aux_lemma => kernel_rfl) (fun _ _ _ h => h) (Or.inl ⟨by rfl, ?_⟩) hH9 ?_
  rotate_left
  focus (intro wS hSw; (try dsimp only at hSw); (obtain ⟨⟨p0, p1, p2, p3⟩, ⟨q0, q1, q2, q3⟩⟩ := hSw); go_simp; try (with_reducible rfl))
  try simp only [Act.put, List.setIfInBounds_toArray, List.set_cons_zero, List.set_cons_succ]
  refine wpAnyH_take (i := 9) (oi := ⟨some 28, _, _, _, _, _⟩) (v := ?_) rfl (by as_aux_lemma => kernel_rfl) (by as_aux_lemma => kernel_rfl) (by as_aux_lemma => kernel_rfl) (fun _ _ _ h => h) (Or.inl ⟨by rfl, ?_⟩) hH9 ?_
  rotate_left
  focus (intro wS hSw; (try dsimp only at hSw); (obtain ⟨⟨p0, p1, p2, p3⟩, ⟨q0, q1, q2, q3⟩⟩ := hSw); go_simp; try (with_reducible rfl))
  try simp only [Act.put, List.setIfInBounds_toArray, List.set_cons_zero, List.set_cons_succ]
  refine wpAnyH_take (i := 10) (oi := ⟨some 29, _, _, _, _, _⟩) (v := ?_) rfl (by as_aux_lemma => kernel_rfl) (by as_aux_lemma => kernel_rfl) (by as_aux_lemma => kernel_rfl) (fun _ _ _ h => h) (Or.inl ⟨by rfl, ?_⟩) hH9 ?_
  rotate_left
  focus (intro wS hSw; (try dsimp only at hSw); (obtain ⟨⟨p0, p1, p2, p3⟩, ⟨q0, q1, q2, q3⟩⟩ := hSw); go_simp; try (with_reducible rfl))
  try simp only [Act.put, List.setIfInBounds_toArray, List.set_cons_zero, List.set_cons_succ]
  refine wpAnyH_take (i := 11) (oi := ⟨some 30, _, _, _, _, _⟩) (v := ?_) rfl (by as_aux_lemma => kernel_rfl) (by as_aux_lemma => kernel_rfl) (by as_aux_lemma => kernel_rfl) (fun _ _ _ h => h) (Or.inl ⟨by rfl, ?_⟩) hH9 ?_
  rotate_left
  focus (intro wS hSw; (try dsimp only at hSw); (obtain ⟨⟨p0, p1, p2, p3⟩, ⟨q0, q1, q2, q3⟩⟩ := hSw); go_simp; try (with_reducible rfl))
  try simp only [Act.put, List.setIfInBounds_toArray, List.set_cons_zero, List.set_cons_succ]
  refine wpAnyH_take (i := 12) (oi := ⟨some 31, _, _, _, _, _⟩) (v := ?_) rfl (by as_aux_lemma => kernel_rfl) (by as_aux_lemma => kernel_rfl) (by as_aux_lemma => kernel_rfl) (fun _ _ _ h => h) (Or.inl ⟨by rfl, ?_⟩) hH9 ?_
  rotate_left
  focus (intro wS hSw; (try dsimp only at hSw); (obtain ⟨⟨p0, p1, p2, p3⟩, ⟨q0, q1, q2, q3⟩⟩ := hSw); go_simp; try (with_reducible rfl))
  try simp only [Act.put, List.setIfInBounds_toArray, List.set_cons_zero, List.set_cons_succ]
  refine wpAnyH_take (i := 13) (oi := ⟨some 32, _, _, _, _, _⟩) (v := ?_) rfl (by as_aux_lemma => kernel_rfl) (by as_aux_lemma => kernel_rfl) (by as_aux_lemma => kernel_rfl) (fun _ _ _ h => h) (Or.inl ⟨by rfl, ?_⟩) hH9 ?_
  rotate_left
  focus (intro wS hSw; (try dsimp only at hSw); (obtain ⟨⟨p0, p1, p2, p3⟩, ⟨q0, q1, q2, q3⟩⟩ := hSw); go_simp; try (with_reducible rfl))
  try simp only [Act.put, List.setIfInBounds_toArray, List.set_cons_zero, List.set_cons_succ]
  refine wpAnyH_take (i := 14) (oi := ⟨some 33, _, _, _, _, _⟩) (v := ?_) rfl (by as_aux_lemma => kernel_rfl) (by as_aux_lemma => kernel_rfl) (by as_aux_lemma => kernel_rfl) (fun _ _ _ h => h) (Or.inl ⟨by rfl, ?_⟩) hH9 ?_
  rotate_left
  focus (intro wS hSw; (try dsimp only at hSw); (obtain ⟨⟨p0, p1, p2, p3⟩, ⟨q0, q1, q2, q3⟩⟩ := hSw); go_simp; try (with_reducible rfl))
  try simp only [Act.put, List.setIfInBounds_toArray, List.set_cons_zero, List.set_cons_succ]
  refine wpAnyH_take (i := 15) (oi := ⟨some 34, _, _, _, _, _⟩) (v := ?_) rfl (by as_aux_lemma => kernel_rfl) (by as_aux_lemma => kernel_rfl) (by as_aux_lemma => kernel_rfl) (fun _ _ _ h => h) (Or.inl ⟨by rfl, ?_⟩) hH9 ?_
  rotate_left
  focus (intro wS hSw; (try dsimp only at hSw); (obtain ⟨⟨p0, p1, p2, p3⟩, ⟨q0, q1, q2, q3⟩⟩ := hSw); go_simp; try (with_reducible rfl))
  try simp only [Act.put, List.setIfInBounds_toArray, List.set_cons_zero, List.set_cons_succ]
  have cT := to_any _ (l.drop 16) (ok_drop okz 16) (by have := Hv.out; simp; omega) _ (Dig.drop16 L6_z Hv.out.2)
  rw [show vl (l.drop 16) % big = ph A B by rw [vl_drop_div okz, Hv.out.1]; exact ph_val A B hA hB] at cT
  refine wpAnyH_ready (rs := [16]) (by as_aux_lemma => kernel_rfl) (by simp) ?_
  refine AllReadyH.cons (o := ⟨some 35, _, _, _, _, _⟩) rfl (fun K hK => ?_) AllReadyH.nil
  go_simp
  refine (cT).mono ?_
  rintro e v7 ⟨rfl, b7⟩
  have BW7 : Below w.heap.size w v7 := below_call BW6 b7
  have L7_p : Lie v7 (v1.heap.size) (pl A B) := (L6_p).past b7
  have L7_q : Lie v7 (v1.heap.size + 1) (ph A B) := (L6_q).past b7
  have L7_z : Dig v7 (.slice (some ⟨v3.heap.size, 0, none⟩) 33 33) l := (L6_z).past b7
  clear L6_p L6_q L6_z b7
  clear cT
  refine hK.out _ _ ?_ (fun hH10 => ?_)
  · exact ⟨L7_p, L7_q⟩
  clear hK K
  try simp only [Act.put, List.setIfInBounds_toArray, List.set_cons_zero, List.set_cons_succ]
  refine wpAnyH_take (i := 17) (oi := ⟨some 36, _, _, _, _, _⟩) (v := ?_) rfl (by as_aux_lemma => kernel_rfl) (by as_aux_lemma => kernel_rfl) (by as_aux_lemma => kernel_rfl) (fun _ _ _ h => h) (Or.inl ⟨by rfl, ?_⟩) hH10 ?_
  rotate_left
  focus (intro wS hSw; (try dsimp only at hSw); (obtain ⟨⟨p0, p1, p2, p3⟩, ⟨q0, q1, q2, q3⟩⟩ := hSw); go_simp; try (with_reducible rfl))
  try simp only [Act.put, List.setIfInBounds_toArray, List.set_cons_zero, List.set_cons_succ]
  refine wpAnyH_take (i := 18) (oi := ⟨some 37, _, _, _, _, _⟩) (v := ?_) rfl (by as_aux_lemma => kernel_rfl) (by as_aux_lemma => kernel_rfl) (by as_aux_lemma => kernel_rfl) (fun _ _ _ h => h) (Or.inl ⟨by rfl, ?_⟩) hH10 ?_
  rotate_left
  focus (intro wS hSw; (try dsimp only at hSw); (obtain ⟨⟨p0, p1, p2, p3⟩, ⟨q0, q1, q2, q3⟩⟩ := hSw); go_simp; try (with_reducible rfl))
  try simp only [Act.put, List.setIfInBounds_toArray, List.set_cons_zero, List.set_cons_succ]
  refine wpAnyH_take (i := 19) (oi := ⟨some 4, _, _, _, _, _⟩) (v := ?_) rfl (by as_aux_lemma => kernel_rfl) (by as_aux_lemma => kernel_rfl) (by as_aux_lemma => kernel_rfl) (fun _ _ _ h => h) (Or.inl ⟨by rfl, ?_⟩) hH10 ?_
  rotate_left
  focus (intro wS hSw; (try dsimp only at hSw); (obtain ⟨⟨p0, p1, p2, p3⟩, ⟨q0, q1, q2, q3⟩⟩ := hSw); go_simp; try (with_reducible rfl))
  try simp only [Act.put, List.setIfInBounds_toArray, List.set_cons_zero, List.set_cons_succ]
  refine wpAnyH_done (by kernel_rfl) ?_ _
  go_wp2
  go_ret
  exact ⟨rfl, BW7⟩
end Go.Proofs.Ytiollplcmmlcgaa
