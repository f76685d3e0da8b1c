/-
  The reference: comparison; roots.
-/
import Derived.Test.YtjhldipeicpoeaaDoorProg
import Derived.Test.YtjhldipeicpoeaaDoorShaM
import Derived.Test.YtjhldipeicpoeaaDoorShaPw
namespace Go.Proofs.YtjhldipeicpoeaaDoor
open Go Go.RowKit Go.Proofs.Sha
set_option linter.unusedVariables false
set_option maxRecDepth 100000 in
set_option maxHeartbeats 2000000 in
theorem above_fn (x y : List Nat) (ba nx ca bb ny cb : Nat) (curA curB : Array Value) (hnx : nx = List.length x) (hny : ny = List.length y) (hA : Rw 1 curA ca nx (cellsD x)) (hB : Rw 1 curB cb ny (cellsD y)) (hx : Ok x) (hy : Ok y) (lx : List.length x ≤ 20) (ly : List.length y ≤ 20) : FnP Tryd.prog 24 #[.slice (some ⟨ba, 0, none⟩) nx ca, .slice (some ⟨bb, 0, none⟩) ny cb] (fun w => w.heap[ba]? = some (.cells curA 3 (0, 0)) ∧ w.heap[bb]? = some (.cells curB 3 (0, 0))) (.bool (ls y x)) := by
  subst hnx hny
  refine FnP.intro (c := codeOf Tryd.f24) [.tmp 4] 34 Tryd.func24 (by kernel_rfl) (by kernel_rfl) (by kernel_rfl) fun w hpre => ?_
  have H0 := St.start w
  refine g_sreg [0] (by kernel_rfl) (by kernel_rfl) ?_
  refine s_val (some 4) (.bool false) (fun w => by kernel_rfl) (by kernel_rfl) ?_
  refine s_nil ?_
  refine g_seq (by kernel_rfl) ?_
  refine g_sreg [0] (by kernel_rfl) (by kernel_rfl) ?_
  refine s_val (some 5) (.int .i64 19) (fun w => by kernel_rfl) (by kernel_rfl) ?_
  refine s_nil ?_
  refine g_block 0 (by kernel_rfl) ?_
  refine g_loop (by kernel_rfl) (fun mz ρ ww => ∃ (j : Nat), j = mz ∧ (j ≤ 20) ∧ (Same x y (((j : Nat) : Int) - 1)) ∧ St w.heap.size w ww [] ∧ Is [(0, .slice (some ⟨ba, 0, none⟩) (List.length x) ca), (1, .slice (some ⟨bb, 0, none⟩) (List.length y) cb), (5, .int .i64 (((j : Nat) : Int) - 1))] ρ) 20 ⟨20, rfl, (by omega), (Same.start x y 20 (by omega) (by omega)), H0, (Is.of ⟨(by kernel_rfl), (by kernel_rfl), (by kernel_rfl), trivial⟩)⟩ ?_
  clear H0
  rintro _ _ w1 ⟨j, rfl, hj, hs, H1, _, rfl⟩
  refine g_seq (by kernel_rfl) ?_
  refine g_sreg [0, 1] (by kernel_rfl) (by kernel_rfl) ?_
  refine s_val (some 8) (.int .i64 (((j : Nat) : Int) - 1)) (fun w => by kernel_rfl) (by kernel_rfl) ?_
  by_cases hc1 : (((j : Nat) : Int) - 1 : Int) ≥ 0
  · skip
    refine s_valE (some 9) (.bool (decide (0 ≤ ((j : Nat) : Int) - 1))) (.bool true) (fun w => by kernel_rfl) (bool_eq (decide_eq_true (by omega))) (by kernel_rfl) ?_
    refine s_nil ?_
    refine g_cond_t (by kernel_rfl) (by kernel_rfl) ?_
    refine g_skip (by kernel_rfl) ?_
    show WP _ _ _ _ _ _
    refine g_seq (by kernel_rfl) ?_
    refine g_block 1 (by kernel_rfl) ?_
    refine g_sreg [0] (by kernel_rfl) (by kernel_rfl) ?_
    rw [show (((j : Nat) : Int) - 1) = ((j - 1 : Nat) : Int) from by omega]
    have zx : ¬ j - 1 < List.length x → List.getD x (j - 1) 0 = 0 := fun h => getD_over h
    have zy : ¬ j - 1 < List.length y → List.getD y (j - 1) 0 = 0 := fun h => getD_over h
    have bx := ok_getD hx (j - 1); have b_y := ok_getD hy (j - 1)
    refine s_val (some 6) (.int .i64 0) (fun w => by kernel_rfl) (by kernel_rfl) ?_
    refine s_nil ?_
    refine g_sreg [0] (by kernel_rfl) (by kernel_rfl) ?_
    refine s_val (some 7) (.int .i64 0) (fun w => by kernel_rfl) (by kernel_rfl) ?_
    refine s_nil ?_
    refine g_seq (by kernel_rfl) ?_
    refine g_sreg [0, 1, 2, 3] (by kernel_rfl) (by kernel_rfl) ?_
    refine s_val (some 12) (.int .i64 ((j - 1 : Nat) : Int)) (fun w => by kernel_rfl) (by kernel_rfl) ?_
    refine s_val (some 13) (.slice (some ⟨ba, 0, none⟩) (List.length x) ca) (fun w => by kernel_rfl) (by kernel_rfl) ?_
    refine s_val (some 14) (.int .i64 ((List.length x : Nat) : Int)) (fun w => by kernel_rfl) (by kernel_rfl) ?_
    by_cases hc2 : (j - 1 : Nat) < List.length x
    · skip
      refine s_valE (some 15) (.bool (decide (((j - 1 : Nat) : Int) < ((List.length x : Nat) : Int)))) (.bool true) (fun w => by kernel_rfl) (bool_eq (decide_eq_true (by omega))) (by kernel_rfl) ?_
      refine s_nil ?_
      refine g_cond_t (by kernel_rfl) (by kernel_rfl) ?_
      refine g_reg0 [0, 1, 2, 3, 4] (by kernel_rfl) ?_
      refine s_val (some 16) (.slice (some ⟨ba, 0, none⟩) (List.length x) ca) (fun w => by kernel_rfl) (by kernel_rfl) ?_
      refine s_val (some 17) (.int .i64 ((j - 1 : Nat) : Int)) (fun w => by kernel_rfl) (by kernel_rfl) ?_
      refine s_op (some 18) _ (.pointer (some ⟨ba, 0 + (j - 1) * 1, none⟩)) (by kernel_rfl) (by kernel_rfl) (fun o w ho => idxS_run (kd := .i64) (t := 39) (e := 3) (size := 1) (bytes := 8) (by kernel_rfl) (x := (.tmp 16)) (y := (.tmp 17)) ba 0 (List.length x) ca (j - 1) ho (by kernel_rfl) (by kernel_rfl) (by omega) w) ?_
      refine s_load1F H1 (some 19) 3 (.tmp 18) ba (0 + (j - 1) * 1) curA 3 (0, 0) (.int .i64 ((List.getD x (j - 1) 0 : Nat) : Int)) (by kernel_rfl) (by kernel_rfl) (by kernel_rfl) hpre.1 (lt_of_heap hpre.1) (by kernel_rfl) (hA.atD (by omega) rfl) ?_
      refine s_val (some 6) (.int .i64 ((List.getD x (j - 1) 0 : Nat) : Int)) (fun w => by kernel_rfl) (by kernel_rfl) ?_
      refine s_nil ?_
      show WP _ _ _ _ _ _
      refine g_seq (by kernel_rfl) ?_
      refine g_sreg [0, 1, 2, 3] (by kernel_rfl) (by kernel_rfl) ?_
      refine s_val (some 20) (.int .i64 ((j - 1 : Nat) : Int)) (fun w => by kernel_rfl) (by kernel_rfl) ?_
      refine s_val (some 21) (.slice (some ⟨bb, 0, none⟩) (List.length y) cb) (fun w => by kernel_rfl) (by kernel_rfl) ?_
      refine s_val (some 22) (.int .i64 ((List.length y : Nat) : Int)) (fun w => by kernel_rfl) (by kernel_rfl) ?_
      by_cases hc3 : (j - 1 : Nat) < List.length y
      · skip
        refine s_valE (some 23) (.bool (decide (((j - 1 : Nat) : Int) < ((List.length y : Nat) : Int)))) (.bool true) (fun w => by kernel_rfl) (bool_eq (decide_eq_true (by omega))) (by kernel_rfl) ?_
        refine s_nil ?_
        refine g_cond_t (by kernel_rfl) (by kernel_rfl) ?_
        refine g_reg0 [0, 1, 2, 3, 4] (by kernel_rfl) ?_
        refine s_val (some 24) (.slice (some ⟨bb, 0, none⟩) (List.length y) cb) (fun w => by kernel_rfl) (by kernel_rfl) ?_
        refine s_val (some 25) (.int .i64 ((j - 1 : Nat) : Int)) (fun w => by kernel_rfl) (by kernel_rfl) ?_
        refine s_op (some 26) _ (.pointer (some ⟨bb, 0 + (j - 1) * 1, none⟩)) (by kernel_rfl) (by kernel_rfl) (fun o w ho => idxS_run (kd := .i64) (t := 39) (e := 3) (size := 1) (bytes := 8) (by kernel_rfl) (x := (.tmp 24)) (y := (.tmp 25)) bb 0 (List.length y) cb (j - 1) ho (by kernel_rfl) (by kernel_rfl) (by omega) w) ?_
        refine s_load1F H1 (some 27) 3 (.tmp 26) bb (0 + (j - 1) * 1) curB 3 (0, 0) (.int .i64 ((List.getD y (j - 1) 0 : Nat) : Int)) (by kernel_rfl) (by kernel_rfl) (by kernel_rfl) hpre.2 (lt_of_heap hpre.2) (by kernel_rfl) (hB.atD (by omega) rfl) ?_
        refine s_val (some 7) (.int .i64 ((List.getD y (j - 1) 0 : Nat) : Int)) (fun w => by kernel_rfl) (by kernel_rfl) ?_
        refine s_nil ?_
        show WP _ _ _ _ _ _
        refine g_sreg [0, 1, 2] (by kernel_rfl) (by kernel_rfl) ?_
        refine s_val (some 28) (.int .i64 ((List.getD x (j - 1) 0 : Nat) : Int)) (fun w => by kernel_rfl) (by kernel_rfl) ?_
        refine s_val (some 29) (.int .i64 ((List.getD y (j - 1) 0 : Nat) : Int)) (fun w => by kernel_rfl) (by kernel_rfl) ?_
        by_cases hc4 : (List.getD x (j - 1) 0 : Nat) ≠ List.getD y (j - 1) 0
        · skip
          refine s_valE (some 30) (.bool (!(((List.getD x (j - 1) 0 : Nat) : Int) == ((List.getD y (j - 1) 0 : Nat) : Int)))) (.bool true) (fun w => by kernel_rfl) (bool_eq (by rw [beq_eq_false_iff_ne.2 (by omega)]; rfl)) (by kernel_rfl) ?_
          refine s_nil ?_
          refine g_cond_t (by kernel_rfl) (by kernel_rfl) ?_
          refine g_sreg [0, 1, 2, 3] (by kernel_rfl) (by kernel_rfl) ?_
          refine s_val (some 31) (.int .i64 ((List.getD x (j - 1) 0 : Nat) : Int)) (fun w => by kernel_rfl) (by kernel_rfl) ?_
          refine s_val (some 32) (.int .i64 ((List.getD y (j - 1) 0 : Nat) : Int)) (fun w => by kernel_rfl) (by kernel_rfl) ?_
          refine s_valE (some 33) (.bool (decide (((List.getD y (j - 1) 0 : Nat) : Int) < ((List.getD x (j - 1) 0 : Nat) : Int)))) (.bool (ls y x)) (fun w => by kernel_rfl) (bool_eq ((show decide (((List.getD y (j - 1) 0 : Nat) : Int) < ((List.getD x (j - 1) 0 : Nat) : Int)) = decide (dAt y (j - 1) < dAt x (j - 1)) by rw [decide_eq_decide]; unfold dAt; omega).trans (ls_digit hy hx (j - 1) (fun t ht => (hs t (by omega)).symm) (by unfold dAt; omega)))) (by kernel_rfl) ?_
          refine s_val (some 4) (.bool (ls y x)) (fun w => by kernel_rfl) (by kernel_rfl) ?_
          refine s_nil ?_
          refine g_ret (by kernel_rfl) ?_
          show ∃ vs, Res _ _ _ _ vs ∧ _
          refine ⟨[.bool (ls y x)], (.tmp (.bool (ls y x)) (by kernel_rfl) .nil), ?_, H1.below⟩
          rfl
        · skip
          refine s_valE (some 30) (.bool (!(((List.getD x (j - 1) 0 : Nat) : Int) == ((List.getD y (j - 1) 0 : Nat) : Int)))) (.bool false) (fun w => by kernel_rfl) (bool_eq (by rw [beq_iff_eq.2 (by omega)]; rfl)) (by kernel_rfl) ?_
          refine s_nil ?_
          refine g_cond_f (by kernel_rfl) (by kernel_rfl) ?_
          refine g_skip (by kernel_rfl) ?_
          show WP _ _ _ _ _ _
          refine g_reg0 [0, 1, 2] (by kernel_rfl) ?_
          refine s_val (some 10) (.int .i64 ((j - 1 : Nat) : Int)) (fun w => by kernel_rfl) (by kernel_rfl) ?_
          refine s_valE (some 11) (.int .i64 (IntKind.i64.wrap (((j - 1 : Nat) : Int) - 1))) (.int .i64 (((j - 1 : Nat) : Int) - 1)) (fun w => by kernel_rfl) (int_eq (wrap_i64 (by omega) (by omega))) (by kernel_rfl) ?_
          refine s_val (some 5) (.int .i64 (((j - 1 : Nat) : Int) - 1)) (fun w => by kernel_rfl) (by kernel_rfl) ?_
          refine s_nil ?_
          show ∃ m, _ ∧ _
          exact ⟨_, (by omega), (j - 1), rfl, (by omega), (Same.down (j := j - 1) (fun t ht => hs t (by omega)) (by unfold dAt; omega)), H1, (Is.of ⟨(by kernel_rfl), (by kernel_rfl), (by kernel_rfl), trivial⟩)⟩
      · skip
        refine s_valE (some 23) (.bool (decide (((j - 1 : Nat) : Int) < ((List.length y : Nat) : Int)))) (.bool false) (fun w => by kernel_rfl) (bool_eq (decide_eq_false (by omega))) (by kernel_rfl) ?_
        refine s_nil ?_
        refine g_cond_f (by kernel_rfl) (by kernel_rfl) ?_
        refine g_skip (by kernel_rfl) ?_
        show WP _ _ _ _ _ _
        refine g_sreg [0, 1, 2] (by kernel_rfl) (by kernel_rfl) ?_
        refine s_val (some 28) (.int .i64 ((List.getD x (j - 1) 0 : Nat) : Int)) (fun w => by kernel_rfl) (by kernel_rfl) ?_
        refine s_val (some 29) (.int .i64 0) (fun w => by kernel_rfl) (by kernel_rfl) ?_
        by_cases hc5 : (List.getD x (j - 1) 0 : Nat) ≠ 0
        · skip
          refine s_valE (some 30) (.bool (!(((List.getD x (j - 1) 0 : Nat) : Int) == 0))) (.bool true) (fun w => by kernel_rfl) (bool_eq (by rw [beq_eq_false_iff_ne.2 (by omega)]; rfl)) (by kernel_rfl) ?_
          refine s_nil ?_
          refine g_cond_t (by kernel_rfl) (by kernel_rfl) ?_
          refine g_sreg [0, 1, 2, 3] (by kernel_rfl) (by kernel_rfl) ?_
          refine s_val (some 31) (.int .i64 ((List.getD x (j - 1) 0 : Nat) : Int)) (fun w => by kernel_rfl) (by kernel_rfl) ?_
          refine s_val (some 32) (.int .i64 0) (fun w => by kernel_rfl) (by kernel_rfl) ?_
          refine s_valE (some 33) (.bool (decide (0 < ((List.getD x (j - 1) 0 : Nat) : Int)))) (.bool (ls y x)) (fun w => by kernel_rfl) (bool_eq ((show decide (0 < ((List.getD x (j - 1) 0 : Nat) : Int)) = decide (dAt y (j - 1) < dAt x (j - 1)) by rw [decide_eq_decide]; unfold dAt; omega).trans (ls_digit hy hx (j - 1) (fun t ht => (hs t (by omega)).symm) (by unfold dAt; omega)))) (by kernel_rfl) ?_
          refine s_val (some 4) (.bool (ls y x)) (fun w => by kernel_rfl) (by kernel_rfl) ?_
          refine s_nil ?_
          refine g_ret (by kernel_rfl) ?_
          show ∃ vs, Res _ _ _ _ vs ∧ _
          refine ⟨[.bool (ls y x)], (.tmp (.bool (ls y x)) (by kernel_rfl) .nil), ?_, H1.below⟩
          rfl
        · skip
          refine s_valE (some 30) (.bool (!(((List.getD x (j - 1) 0 : Nat) : Int) == 0))) (.bool false) (fun w => by kernel_rfl) (bool_eq (by rw [beq_iff_eq.2 (by omega)]; rfl)) (by kernel_rfl) ?_
          refine s_nil ?_
          refine g_cond_f (by kernel_rfl) (by kernel_rfl) ?_
          refine g_skip (by kernel_rfl) ?_
          show WP _ _ _ _ _ _
          refine g_reg0 [0, 1, 2] (by kernel_rfl) ?_
          refine s_val (some 10) (.int .i64 ((j - 1 : Nat) : Int)) (fun w => by kernel_rfl) (by kernel_rfl) ?_
          refine s_valE (some 11) (.int .i64 (IntKind.i64.wrap (((j - 1 : Nat) : Int) - 1))) (.int .i64 (((j - 1 : Nat) : Int) - 1)) (fun w => by kernel_rfl) (int_eq (wrap_i64 (by omega) (by omega))) (by kernel_rfl) ?_
          refine s_val (some 5) (.int .i64 (((j - 1 : Nat) : Int) - 1)) (fun w => by kernel_rfl) (by kernel_rfl) ?_
          refine s_nil ?_
          show ∃ m, _ ∧ _
          exact ⟨_, (by omega), (j - 1), rfl, (by omega), (Same.down (j := j - 1) (fun t ht => hs t (by omega)) (by unfold dAt; omega)), H1, (Is.of ⟨(by kernel_rfl), (by kernel_rfl), (by kernel_rfl), trivial⟩)⟩
    · skip
      refine s_valE (some 15) (.bool (decide (((j - 1 : Nat) : Int) < ((List.length x : Nat) : Int)))) (.bool false) (fun w => by kernel_rfl) (bool_eq (decide_eq_false (by omega))) (by kernel_rfl) ?_
      refine s_nil ?_
      refine g_cond_f (by kernel_rfl) (by kernel_rfl) ?_
      refine g_skip (by kernel_rfl) ?_
      show WP _ _ _ _ _ _
      refine g_seq (by kernel_rfl) ?_
      refine g_sreg [0, 1, 2, 3] (by kernel_rfl) (by kernel_rfl) ?_
      refine s_val (some 20) (.int .i64 ((j - 1 : Nat) : Int)) (fun w => by kernel_rfl) (by kernel_rfl) ?_
      refine s_val (some 21) (.slice (some ⟨bb, 0, none⟩) (List.length y) cb) (fun w => by kernel_rfl) (by kernel_rfl) ?_
      refine s_val (some 22) (.int .i64 ((List.length y : Nat) : Int)) (fun w => by kernel_rfl) (by kernel_rfl) ?_
      by_cases hc6 : (j - 1 : Nat) < List.length y
      · skip
        refine s_valE (some 23) (.bool (decide (((j - 1 : Nat) : Int) < ((List.length y : Nat) : Int)))) (.bool true) (fun w => by kernel_rfl) (bool_eq (decide_eq_true (by omega))) (by kernel_rfl) ?_
        refine s_nil ?_
        refine g_cond_t (by kernel_rfl) (by kernel_rfl) ?_
        refine g_reg0 [0, 1, 2, 3, 4] (by kernel_rfl) ?_
        refine s_val (some 24) (.slice (some ⟨bb, 0, none⟩) (List.length y) cb) (fun w => by kernel_rfl) (by kernel_rfl) ?_
        refine s_val (some 25) (.int .i64 ((j - 1 : Nat) : Int)) (fun w => by kernel_rfl) (by kernel_rfl) ?_
        refine s_op (some 26) _ (.pointer (some ⟨bb, 0 + (j - 1) * 1, none⟩)) (by kernel_rfl) (by kernel_rfl) (fun o w ho => idxS_run (kd := .i64) (t := 39) (e := 3) (size := 1) (bytes := 8) (by kernel_rfl) (x := (.tmp 24)) (y := (.tmp 25)) bb 0 (List.length y) cb (j - 1) ho (by kernel_rfl) (by kernel_rfl) (by omega) w) ?_
        refine s_load1F H1 (some 27) 3 (.tmp 26) bb (0 + (j - 1) * 1) curB 3 (0, 0) (.int .i64 ((List.getD y (j - 1) 0 : Nat) : Int)) (by kernel_rfl) (by kernel_rfl) (by kernel_rfl) hpre.2 (lt_of_heap hpre.2) (by kernel_rfl) (hB.atD (by omega) rfl) ?_
        refine s_val (some 7) (.int .i64 ((List.getD y (j - 1) 0 : Nat) : Int)) (fun w => by kernel_rfl) (by kernel_rfl) ?_
        refine s_nil ?_
        show WP _ _ _ _ _ _
        refine g_sreg [0, 1, 2] (by kernel_rfl) (by kernel_rfl) ?_
        refine s_val (some 28) (.int .i64 0) (fun w => by kernel_rfl) (by kernel_rfl) ?_
        refine s_val (some 29) (.int .i64 ((List.getD y (j - 1) 0 : Nat) : Int)) (fun w => by kernel_rfl) (by kernel_rfl) ?_
        by_cases hc7 : (0 : Nat) ≠ List.getD y (j - 1) 0
        · skip
          refine s_valE (some 30) (.bool (!(0 == ((List.getD y (j - 1) 0 : Nat) : Int)))) (.bool true) (fun w => by kernel_rfl) (bool_eq (by rw [beq_eq_false_iff_ne.2 (by omega)]; rfl)) (by kernel_rfl) ?_
          refine s_nil ?_
          refine g_cond_t (by kernel_rfl) (by kernel_rfl) ?_
          refine g_sreg [0, 1, 2, 3] (by kernel_rfl) (by kernel_rfl) ?_
          refine s_val (some 31) (.int .i64 0) (fun w => by kernel_rfl) (by kernel_rfl) ?_
          refine s_val (some 32) (.int .i64 ((List.getD y (j - 1) 0 : Nat) : Int)) (fun w => by kernel_rfl) (by kernel_rfl) ?_
          refine s_valE (some 33) (.bool (decide (((List.getD y (j - 1) 0 : Nat) : Int) < 0))) (.bool (ls y x)) (fun w => by kernel_rfl) (bool_eq ((show decide (((List.getD y (j - 1) 0 : Nat) : Int) < 0) = decide (dAt y (j - 1) < dAt x (j - 1)) by rw [decide_eq_decide]; unfold dAt; omega).trans (ls_digit hy hx (j - 1) (fun t ht => (hs t (by omega)).symm) (by unfold dAt; omega)))) (by kernel_rfl) ?_
          refine s_val (some 4) (.bool (ls y x)) (fun w => by kernel_rfl) (by kernel_rfl) ?_
          refine s_nil ?_
          refine g_ret (by kernel_rfl) ?_
          show ∃ vs, Res _ _ _ _ vs ∧ _
          refine ⟨[.bool (ls y x)], (.tmp (.bool (ls y x)) (by kernel_rfl) .nil), ?_, H1.below⟩
          rfl
        · skip
          refine s_valE (some 30) (.bool (!(0 == ((List.getD y (j - 1) 0 : Nat) : Int)))) (.bool false) (fun w => by kernel_rfl) (bool_eq (by rw [beq_iff_eq.2 (by omega)]; rfl)) (by kernel_rfl) ?_
          refine s_nil ?_
          refine g_cond_f (by kernel_rfl) (by kernel_rfl) ?_
          refine g_skip (by kernel_rfl) ?_
          show WP _ _ _ _ _ _
          refine g_reg0 [0, 1, 2] (by kernel_rfl) ?_
          refine s_val (some 10) (.int .i64 ((j - 1 : Nat) : Int)) (fun w => by kernel_rfl) (by kernel_rfl) ?_
          refine s_valE (some 11) (.int .i64 (IntKind.i64.wrap (((j - 1 : Nat) : Int) - 1))) (.int .i64 (((j - 1 : Nat) : Int) - 1)) (fun w => by kernel_rfl) (int_eq (wrap_i64 (by omega) (by omega))) (by kernel_rfl) ?_
          refine s_val (some 5) (.int .i64 (((j - 1 : Nat) : Int) - 1)) (fun w => by kernel_rfl) (by kernel_rfl) ?_
          refine s_nil ?_
          show ∃ m, _ ∧ _
          exact ⟨_, (by omega), (j - 1), rfl, (by omega), (Same.down (j := j - 1) (fun t ht => hs t (by omega)) (by unfold dAt; omega)), H1, (Is.of ⟨(by kernel_rfl), (by kernel_rfl), (by kernel_rfl), trivial⟩)⟩
      · skip
        refine s_valE (some 23) (.bool (decide (((j - 1 : Nat) : Int) < ((List.length y : Nat) : Int)))) (.bool false) (fun w => by kernel_rfl) (bool_eq (decide_eq_false (by omega))) (by kernel_rfl) ?_
        refine s_nil ?_
        refine g_cond_f (by kernel_rfl) (by kernel_rfl) ?_
        refine g_skip (by kernel_rfl) ?_
        show WP _ _ _ _ _ _
        refine g_sreg [0, 1, 2] (by kernel_rfl) (by kernel_rfl) ?_
        refine s_val (some 28) (.int .i64 0) (fun w => by kernel_rfl) (by kernel_rfl) ?_
        refine s_val (some 29) (.int .i64 0) (fun w => by kernel_rfl) (by kernel_rfl) ?_
        refine s_val (some 30) (.bool false) (fun w => by kernel_rfl) (by kernel_rfl) ?_
        refine s_nil ?_
        refine g_cond_f (by kernel_rfl) (by kernel_rfl) ?_
        refine g_skip (by kernel_rfl) ?_
        show WP _ _ _ _ _ _
        refine g_reg0 [0, 1, 2] (by kernel_rfl) ?_
        refine s_val (some 10) (.int .i64 ((j - 1 : Nat) : Int)) (fun w => by kernel_rfl) (by kernel_rfl) ?_
        refine s_valE (some 11) (.int .i64 (IntKind.i64.wrap (((j - 1 : Nat) : Int) - 1))) (.int .i64 (((j - 1 : Nat) : Int) - 1)) (fun w => by kernel_rfl) (int_eq (wrap_i64 (by omega) (by omega))) (by kernel_rfl) ?_
        refine s_val (some 5) (.int .i64 (((j - 1 : Nat) : Int) - 1)) (fun w => by kernel_rfl) (by kernel_rfl) ?_
        refine s_nil ?_
        show ∃ m, _ ∧ _
        exact ⟨_, (by omega), (j - 1), rfl, (by omega), (Same.down (j := j - 1) (fun t ht => hs t (by omega)) (by unfold dAt; omega)), H1, (Is.of ⟨(by kernel_rfl), (by kernel_rfl), (by kernel_rfl), trivial⟩)⟩
  · skip
    refine s_valE (some 9) (.bool (decide (0 ≤ ((j : Nat) : Int) - 1))) (.bool false) (fun w => by kernel_rfl) (bool_eq (decide_eq_false (by omega))) (by kernel_rfl) ?_
    refine s_nil ?_
    refine g_cond_f (by kernel_rfl) (by kernel_rfl) ?_
    refine g_exit 0 (by kernel_rfl) ?_
    show WP _ _ _ _ _ _
    refine g_sreg [0] (by kernel_rfl) (by kernel_rfl) ?_
    refine s_val (some 4) (.bool false) (fun w => by kernel_rfl) (by kernel_rfl) ?_
    refine s_nil ?_
    refine g_ret (by kernel_rfl) ?_
    show ∃ vs, Res _ _ _ _ vs ∧ _
    refine ⟨[.bool false], (.tmp (.bool false) (by kernel_rfl) .nil), ?_, H1.below⟩
    exact congrArg Value.bool (ls_none (x := y) (y := x) fun t => (hs t (by omega)).symm).symm

theorem vl_zeros (n : Nat) : vl (List.replicate n 0) = 0 := by
  induction n with
  | zero => rfl
  | succ n ih => rw [List.replicate_succ]; simp [vl, ih]
theorem ok_zeros (n : Nat) : Ok (List.replicate n 0) := fun d hd => by obtain ⟨_, rfl⟩ := List.mem_replicate.1 hd; omega
theorem whole_vl (p o : Nat) : vl (List.replicate (2 * o) 0 ++ [p]) = p * 65536 ^ (2 * o) := by rw [vl_snoc, vl_zeros, List.length_replicate, Nat.zero_add, Nat.mul_comm]
theorem rt_step (p o t N : Nat) (l : List Nat) (ht : N = rtN p o t + 2 ^ (40 - t)) (hv : vl l = N ^ o) (b : Bool) (h : ls (List.replicate (2 * o) 0 ++ [p]) l = b) : rtN p o (t + 1) = if b = true then rtN p o t else N := by
  unfold ls at h
  rw [whole_vl, hv] at h
  show (if (rtN p o t + 2 ^ (40 - t)) ^ o ≤ p * 65536 ^ (2 * o) then rtN p o t + 2 ^ (40 - t) else rtN p o t) = _
  rw [← ht]
  cases b
  · have := of_decide_eq_false h
    rw [if_pos (by omega)]; rfl
  · have := of_decide_eq_true h
    rw [if_neg (by omega)]; rfl
theorem shl1 (s : Nat) (hs : s ≤ 40) : IntKind.u64.wrap ((1 : Int) * 2 ^ (min s 64)) = ((2 ^ s : Nat) : Int) := by
  rw [show min s 64 = s by omega, Int.one_mul, wr_u64]
  have : 2 ^ s ≤ 2 ^ 40 := Nat.pow_le_pow_right (by omega) hs
  have e : ((2 : Int) ^ s) = ((2 ^ s : Nat) : Int) := by simp
  rw [e]
  generalize 2 ^ s = z at this ⊢
  omega

set_option maxRecDepth 100000 in
set_option maxHeartbeats 2000000 in
theorem root_fn (p : Nat) (hp : p < 65536) (o : Nat) (ho : o ≤ 3) : Fn Tryd.prog 16 #[.int .i64 ((p : Nat) : Int), .int .i64 ((o : Nat) : Int)] (.int .u32 ((BitVec.toNat (rootW p o) : Nat) : Int)) := by
  refine Fn.intro (c := codeOf Tryd.f16) [.tmp 4] 35 Tryd.func16 (by kernel_rfl) (by kernel_rfl) (by kernel_rfl) fun w => ?_
  have H0 := St.start w
  refine g_sreg [0] (by kernel_rfl) (by kernel_rfl) ?_
  refine s_val (some 4) (.int .u32 0) (fun w => by kernel_rfl) (by kernel_rfl) ?_
  refine s_nil ?_
  refine g_sreg [0, 1, 2, 3] (by kernel_rfl) (by kernel_rfl) ?_
  refine s_val (some 9) (.int .i64 ((o : Nat) : Int)) (fun w => by kernel_rfl) (by kernel_rfl) ?_
  refine s_valE (some 10) (.int .i64 (IntKind.i64.wrap (2 * ((o : Nat) : Int)))) (.int .i64 ((2 * o : Nat) : Int)) (fun w => by kernel_rfl) (int_eq (wrapMul_i64 (a := 2) (b := o) (by omega))) (by kernel_rfl) ?_
  refine s_make H0 (some 11) 39 3 8 (.int .i64 0) (.tmp 10) (.tmp 10) .i64 .i64 (2 * o) (by kernel_rfl) (by kernel_rfl) (by kernel_rfl) (by kernel_rfl) rfl (by kernel_rfl) (by kernel_rfl) (by omega) (by unfold maxLen; omega) ?_
  intro b_1 cur_2 w1 H1 hr_3; clear H0
  have hr_3z : Rw 1 cur_2 (2 * o) (2 * o) (cellsD (List.replicate (2 * o) 0)) := by rw [cellsD_zeros]; exact hr_3
  refine s_val (some 5) (.slice (some ⟨b_1, 0, none⟩) (2 * o) (2 * o)) (fun w => by kernel_rfl) (by kernel_rfl) ?_
  refine s_nil ?_
  refine g_sreg [0, 1, 2, 3, 4] (by kernel_rfl) (by kernel_rfl) ?_
  refine s_val (some 12) (.slice (some ⟨b_1, 0, none⟩) (2 * o) (2 * o)) (fun w => by kernel_rfl) (by kernel_rfl) ?_
  refine s_val (some 13) (.int .i64 ((p : Nat) : Int)) (fun w => by kernel_rfl) (by kernel_rfl) ?_
  refine s_new H1 (some 14) (fun b => .slice (some ⟨b, 0, none⟩) 1 1) #[.int .i64 ((p : Nat) : Int)] 3 (fun w => by kernel_rfl) (by kernel_rfl) ?_
  intro b1 w2 H2; clear H1
  refine s_append H2 (some 15) 39 3 1 8 (.tmp 12) (.tmp 14) 1 0 b_1 b1 (2 * o) 1 (2 * o) 1 cur_2 #[.int .i64 ((p : Nat) : Int)] 3 (0, 0) (cellsD (List.replicate (2 * o) 0)) ([.int .i64 ((p : Nat) : Int)]) (fun b_4 cur_6 => [(b1, Obj.cells #[.int .i64 ((p : Nat) : Int)] 3 (0, 0)), (b_4, Obj.cells cur_6 3 (0, 0))]) (by kernel_rfl) (by kernel_rfl) (by kernel_rfl) (by kernel_rfl) (by kernel_rfl) hr_3z (by kernel_rfl) (by kernel_rfl) (by rfl) (by rfl) (by intro u hu; simp at hu; first | exact hu.elim | (rcases hu with rfl | rfl | rfl | rfl <;> rfl) | (rcases hu with rfl | rfl <;> rfl) | (subst hu; rfl)) (by omega) (by unfold maxLen; omega) (fun _ _ => by kernel_rfl) ?_
  intro b_4 cap_5 cur_6 w3 H3 hr_7; clear H2
  have hr_7t : Rw 1 cur_6 cap_5 ((2 * o) + 1) (cellsD ((List.replicate (2 * o) 0) ++ [p])) := by rw [cellsD_append]; exact hr_7
  have hr_7n : (2 * o) + 1 = List.length ((List.replicate (2 * o) 0) ++ [p]) := by have h0 : 2 * o = List.length (List.replicate (2 * o) 0) := (by rw [List.length_replicate]); rw [List.length_append, ← h0]; rfl
  refine s_val (some 5) (.slice (some ⟨b_4, 0, none⟩) ((2 * o) + 1) cap_5) (fun w => by kernel_rfl) (by kernel_rfl) ?_
  refine s_nil ?_
  refine g_sreg [0] (by kernel_rfl) (by kernel_rfl) ?_
  have hwl : List.length ((List.replicate (2 * o) 0) ++ [p]) = 2 * o + 1 := by rw [List.length_append, List.length_replicate]; rfl
  refine s_val (some 6) (.int .u64 0) (fun w => by kernel_rfl) (by kernel_rfl) ?_
  refine s_nil ?_
  refine g_seq (by kernel_rfl) ?_
  refine g_sreg [0] (by kernel_rfl) (by kernel_rfl) ?_
  refine s_val (some 7) (.int .i64 40) (fun w => by kernel_rfl) (by kernel_rfl) ?_
  refine s_nil ?_
  refine g_block 0 (by kernel_rfl) ?_
  have HD1 : St w.heap.size w w3 [(b_4, Obj.cells cur_6 3 (0, 0))] := H3.sub (List.Sublist.cons _ (List.Sublist.cons_cons _ List.Sublist.slnil))
  refine g_loop (by kernel_rfl) (fun mz ρ ww => ∃ (j : Nat), j = mz ∧ (j ≤ 41) ∧ St w.heap.size w ww [(b_4, Obj.cells cur_6 3 (0, 0))] ∧ Is [(0, .int .i64 ((p : Nat) : Int)), (1, .int .i64 ((o : Nat) : Int)), (4, .int .u32 0), (5, .slice (some ⟨b_4, 0, none⟩) ((2 * o) + 1) cap_5), (6, .int .u64 ((rtN p o (41 - j) : Nat) : Int)), (7, .int .i64 (((j : Nat) : Int) - 1))] ρ) 41 ⟨41, rfl, (by omega), HD1, (Is.of ⟨(by kernel_rfl), (by kernel_rfl), (by kernel_rfl), (by kernel_rfl), (by kernel_rfl), (by kernel_rfl), trivial⟩)⟩ ?_
  clear HD1
  rintro _ _ w4 ⟨j, rfl, hj, H4, _, rfl⟩
  refine g_seq (by kernel_rfl) ?_
  refine g_sreg [0, 1] (by kernel_rfl) (by kernel_rfl) ?_
  refine s_val (some 16) (.int .i64 (((j : Nat) : Int) - 1)) (fun w => by kernel_rfl) (by kernel_rfl) ?_
  by_cases hc2 : (((j : Nat) : Int) - 1 : Int) ≥ 0
  · skip
    refine s_valE (some 17) (.bool (decide (0 ≤ ((j : Nat) : Int) - 1))) (.bool true) (fun w => by kernel_rfl) (bool_eq (decide_eq_true (by omega))) (by kernel_rfl) ?_
    refine s_nil ?_
    refine g_cond_t (by kernel_rfl) (by kernel_rfl) ?_
    refine g_skip (by kernel_rfl) ?_
    show WP _ _ _ _ _ _
    refine g_seq (by kernel_rfl) ?_
    refine g_block 1 (by kernel_rfl) ?_
    refine g_sreg [0, 1, 2, 3, 4, 5] (by kernel_rfl) (by kernel_rfl) ?_
    rw [show (((j : Nat) : Int) - 1) = ((j - 1 : Nat) : Int) from by omega]
    have hlt := rtN_lt p o (41 - j) (by omega)
    have hp2 : 2 ^ (j - 1) ≤ 2 ^ 40 := Nat.pow_le_pow_right (by omega) (by omega)
    rw [show 41 - (41 - j) = j - 1 + 1 by omega, Nat.pow_succ] at hlt
    have hNlt : rtN p o (41 - j) + 2 ^ (j - 1) < 281474976710656 := by omega
    refine s_val (some 20) (.int .u64 ((rtN p o (41 - j) : Nat) : Int)) (fun w => by kernel_rfl) (by kernel_rfl) ?_
    refine s_val (some 21) (.int .i64 ((j - 1 : Nat) : Int)) (fun w => by kernel_rfl) (by kernel_rfl) ?_
    refine s_valE (some 22) (.int .u64 (IntKind.u64.wrap (((j - 1 : Nat) : Int)))) (.int .u64 ((j - 1 : Nat) : Int)) (fun w => by kernel_rfl) (int_eq (wrapN_u64 (a := j - 1) (by omega))) (by kernel_rfl) ?_
    refine s_valE (some 23) (.int .u64 (IntKind.u64.wrap ((1 : Int) * 2 ^ (min (j - 1) 64)))) (.int .u64 ((2 ^ (j - 1) : Nat) : Int)) (fun w => by kernel_rfl) (int_eq (shl1 (j - 1) (by omega))) (by kernel_rfl) ?_
    refine s_valE (some 24) (.int .u64 (IntKind.u64.wrap (((rtN p o (41 - j) : Nat) : Int) + ((2 ^ (j - 1) : Nat) : Int)))) (.int .u64 (((rtN p o (41 - j)) + (2 ^ (j - 1)) : Nat) : Int)) (fun w => by kernel_rfl) (int_eq (wrapAdd_u64 (a := rtN p o (41 - j)) (b := 2 ^ (j - 1)) (by omega))) (by kernel_rfl) ?_
    refine s_val (some 8) (.int .u64 (((rtN p o (41 - j)) + (2 ^ (j - 1)) : Nat) : Int)) (fun w => by kernel_rfl) (by kernel_rfl) ?_
    refine s_nil ?_
    refine g_sreg [0, 1, 2, 3, 4, 5] (by kernel_rfl) (by kernel_rfl) ?_
    refine s_val (some 25) (.int .u64 (((rtN p o (41 - j)) + (2 ^ (j - 1)) : Nat) : Int)) (fun w => by kernel_rfl) (by kernel_rfl) ?_
    refine s_val (some 26) (.int .i64 ((o : Nat) : Int)) (fun w => by kernel_rfl) (by kernel_rfl) ?_
    refine s_callS H4 (some 27) 25 #[.int .u64 (((rtN p o (41 - j)) + (2 ^ (j - 1)) : Nat) : Int), .int .i64 ((o : Nat) : Int)] (fun _ => True) 3 1 (fun curZ capZ nZ lZ => (nZ = List.length lZ ∧ Rw 1 curZ capZ nZ (cellsD lZ) ∧ Ok lZ ∧ (vl lZ = ((rtN p o (41 - j)) + (2 ^ (j - 1))) ^ o ∧ List.length lZ = 1 + 4 * o))) (power_fn ((rtN p o (41 - j)) + (2 ^ (j - 1))) hNlt o (by omega)) trivial (by kernel_rfl) (by kernel_rfl) ?_
    intro b_8 cap_9 n_10 cur_11 l_12 w5 H5 hs_13; clear H4
    obtain ⟨hs_13n, hs_13r, hs_13o, hs_13s⟩ := hs_13
    have lS0 := hs_13s.2
    refine s_val (some 28) (.slice (some ⟨b_4, 0, none⟩) ((2 * o) + 1) cap_5) (fun w => by kernel_rfl) (by kernel_rfl) ?_
    refine s_callP H5 (some 29) 24 #[.slice (some ⟨b_8, 0, none⟩) n_10 cap_9, .slice (some ⟨b_4, 0, none⟩) ((2 * o) + 1) cap_5] (fun w => w.heap[b_8]? = some (.cells cur_11 3 (0, 0)) ∧ w.heap[b_4]? = some (.cells cur_6 3 (0, 0))) (.bool (ls ((List.replicate (2 * o) 0) ++ [p]) l_12)) (above_fn l_12 ((List.replicate (2 * o) 0) ++ [p]) b_8 n_10 cap_9 b_4 ((2 * o) + 1) cap_5 cur_11 cur_6 hs_13n hr_7n hs_13r hr_7t hs_13o (ok_append (ok_zeros (2 * o)) (fun e he => by simp at he; omega)) (by omega) (by omega)) (⟨(H5.get 0 (by kernel_rfl)), (H5.get 1 (by kernel_rfl))⟩) (fun w => by kernel_rfl) (by kernel_rfl) ?_
    intro w6 H6; clear H5
    cases hls : ls ((List.replicate (2 * o) 0) ++ [p]) l_12
    · skip
      obtain ⟨vS, lS⟩ := hs_13s
      have hst := rt_step p o (41 - j) _ l_12 (by rw [show 40 - (41 - j) = j - 1 by omega]) vS _ hls
      have hst2 : rtN p o (41 - (j - 1)) = rtN p o (41 - j) + 2 ^ (j - 1) := by rw [show 41 - (j - 1) = 41 - j + 1 by omega, hst]; rfl
      refine s_val (some 30) (.bool true) (fun w => by kernel_rfl) (by kernel_rfl) ?_
      refine s_nil ?_
      refine g_cond_t (by kernel_rfl) (by kernel_rfl) ?_
      refine g_reg0 [0, 1] (by kernel_rfl) ?_
      refine s_val (some 31) (.int .u64 (((rtN p o (41 - j)) + (2 ^ (j - 1)) : Nat) : Int)) (fun w => by kernel_rfl) (by kernel_rfl) ?_
      refine s_val (some 6) (.int .u64 (((rtN p o (41 - j)) + (2 ^ (j - 1)) : Nat) : Int)) (fun w => by kernel_rfl) (by kernel_rfl) ?_
      refine s_nil ?_
      show WP _ _ _ _ _ _
      refine g_reg0 [0, 1, 2] (by kernel_rfl) ?_
      refine s_val (some 18) (.int .i64 ((j - 1 : Nat) : Int)) (fun w => by kernel_rfl) (by kernel_rfl) ?_
      refine s_valE (some 19) (.int .i64 (IntKind.i64.wrap (((j - 1 : Nat) : Int) - 1))) (.int .i64 (((j - 1 : Nat) : Int) - 1)) (fun w => by kernel_rfl) (int_eq (wrap_i64 (by omega) (by omega))) (by kernel_rfl) ?_
      refine s_val (some 7) (.int .i64 (((j - 1 : Nat) : Int) - 1)) (fun w => by kernel_rfl) (by kernel_rfl) ?_
      refine s_nil ?_
      rw [show (((rtN p o (41 - j)) + (2 ^ (j - 1)) : Nat) : Int) = ((rtN p o (41 - (j - 1)) : Nat) : Int) from by rw [hst2]]
      have HD3 : St w.heap.size w w6 [(b_4, Obj.cells cur_6 3 (0, 0))] := H6.sub (List.Sublist.cons _ (List.Sublist.cons_cons _ List.Sublist.slnil))
      show ∃ m, _ ∧ _
      exact ⟨_, (by omega), (j - 1), rfl, (by omega), HD3, (Is.of ⟨(by kernel_rfl), (by kernel_rfl), (by kernel_rfl), (by kernel_rfl), (by kernel_rfl), (by kernel_rfl), trivial⟩)⟩
    · skip
      obtain ⟨vS, lS⟩ := hs_13s
      have hst := rt_step p o (41 - j) _ l_12 (by rw [show 40 - (41 - j) = j - 1 by omega]) vS _ hls
      have hst2 : rtN p o (41 - (j - 1)) = rtN p o (41 - j) := by rw [show 41 - (j - 1) = 41 - j + 1 by omega, hst]; rfl
      refine s_val (some 30) (.bool false) (fun w => by kernel_rfl) (by kernel_rfl) ?_
      refine s_nil ?_
      refine g_cond_f (by kernel_rfl) (by kernel_rfl) ?_
      refine g_skip (by kernel_rfl) ?_
      show WP _ _ _ _ _ _
      refine g_reg0 [0, 1, 2] (by kernel_rfl) ?_
      refine s_val (some 18) (.int .i64 ((j - 1 : Nat) : Int)) (fun w => by kernel_rfl) (by kernel_rfl) ?_
      refine s_valE (some 19) (.int .i64 (IntKind.i64.wrap (((j - 1 : Nat) : Int) - 1))) (.int .i64 (((j - 1 : Nat) : Int) - 1)) (fun w => by kernel_rfl) (int_eq (wrap_i64 (by omega) (by omega))) (by kernel_rfl) ?_
      refine s_val (some 7) (.int .i64 (((j - 1 : Nat) : Int) - 1)) (fun w => by kernel_rfl) (by kernel_rfl) ?_
      refine s_nil ?_
      rw [show ((rtN p o (41 - j) : Nat) : Int) = ((rtN p o (41 - (j - 1)) : Nat) : Int) from by rw [hst2]]
      have HD4 : St w.heap.size w w6 [(b_4, Obj.cells cur_6 3 (0, 0))] := H6.sub (List.Sublist.cons _ (List.Sublist.cons_cons _ List.Sublist.slnil))
      show ∃ m, _ ∧ _
      exact ⟨_, (by omega), (j - 1), rfl, (by omega), HD4, (Is.of ⟨(by kernel_rfl), (by kernel_rfl), (by kernel_rfl), (by kernel_rfl), (by kernel_rfl), (by kernel_rfl), trivial⟩)⟩
  · skip
    refine s_valE (some 17) (.bool (decide (0 ≤ ((j : Nat) : Int) - 1))) (.bool false) (fun w => by kernel_rfl) (bool_eq (decide_eq_false (by omega))) (by kernel_rfl) ?_
    refine s_nil ?_
    refine g_cond_f (by kernel_rfl) (by kernel_rfl) ?_
    refine g_exit 0 (by kernel_rfl) ?_
    show WP _ _ _ _ _ _
    refine g_sreg [0, 1, 2, 3] (by kernel_rfl) (by kernel_rfl) ?_
    refine s_val (some 32) (.int .u64 ((rtN p o (41 - j) : Nat) : Int)) (fun w => by kernel_rfl) (by kernel_rfl) ?_
    refine s_valE (some 33) (.int .u64 (Int.tmod ((rtN p o (41 - j) : Nat) : Int) 4294967296)) (.int .u64 (((rtN p o (41 - j)) % 4294967296 : Nat) : Int)) (fun w => by kernel_rfl) (int_eq (remN (rtN p o (41 - j)) 4294967296)) (by kernel_rfl) ?_
    refine s_valE (some 34) (.int .u32 (IntKind.u32.wrap ((((rtN p o (41 - j)) % 4294967296 : Nat) : Int)))) (.int .u32 ((BitVec.toNat (BitVec.ofNat 32 ((rtN p o (41 - j)) % 4294967296)) : Nat) : Int)) (fun w => by kernel_rfl) (bv_ofNat_u32 ((rtN p o (41 - j)) % 4294967296)) (by kernel_rfl) ?_
    refine s_val (some 4) (.int .u32 ((BitVec.toNat (BitVec.ofNat 32 ((rtN p o (41 - j)) % 4294967296)) : Nat) : Int)) (fun w => by kernel_rfl) (by kernel_rfl) ?_
    refine s_nil ?_
    refine g_ret (by kernel_rfl) ?_
    show ∃ vs, Res _ _ _ _ vs ∧ _
    refine ⟨[.int .u32 ((BitVec.toNat (BitVec.ofNat 32 ((rtN p o (41 - j)) % 4294967296)) : Nat) : Int)], (.tmp (.int .u32 ((BitVec.toNat (BitVec.ofNat 32 ((rtN p o (41 - j)) % 4294967296)) : Nat) : Int)) (by kernel_rfl) .nil), ?_, H4.below⟩
    obtain rfl : j = 0 := by omega
    rfl
end Go.Proofs.YtjhldipeicpoeaaDoor
