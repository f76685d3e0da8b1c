/-
  The law FieldFolds.
-/
import Derived.Test.YtiiichlmmngbbaaLawM
namespace Go.Proofs.Ytiiichlmmngbbaa
open Go Go.RowKit
set_option linter.unusedVariables false
set_option maxRecDepth 100000 in
theorem folds0 (A B : Nat) (hA : A < big) (hB : B < big) (n : Int) (hw : n % 2 = 0) : Fn Try.prog 15 #[uv A, uv B, .int .i64 n] (.bool true) := by
  refine Fn.intro (c := codeOf Try.f15) [.tmp 6] 87 Try.func15 (by kernel_rfl) (by kernel_rfl) (by kernel_rfl) fun w => ?_
  have H0 := St.start w
  refine g_sreg [0, 1, 2] (by kernel_rfl) (by kernel_rfl) ?_
  refine s_box H0 (some 3) 24 (.tmp 0) (uv A) (by kernel_rfl) (by kernel_rfl) (by kernel_rfl) ?_
  intro b1 w1 H1; clear H0
  refine s_box H1 (some 4) 24 (.tmp 1) (uv B) (by kernel_rfl) (by kernel_rfl) (by kernel_rfl) ?_
  intro b2 w2 H2; clear H1
  refine s_val (some 6) (.bool false) (fun w => by kernel_rfl) (by kernel_rfl) ?_
  refine s_nil ?_
  refine g_sreg [0, 1, 2] (by kernel_rfl) (by kernel_rfl) ?_
  refine s_val (some 17) (.int .i64 n) (fun w => by kernel_rfl) (by kernel_rfl) ?_
  refine s_valE (some 18) (.int .i64 (bits .and .i64 n 1)) (.int .i64 0) (fun w => by kernel_rfl) (int_eq (by rw [i64_and1]; exact hw)) (by kernel_rfl) ?_
  refine s_val (some 2) (.int .i64 0) (fun w => by kernel_rfl) (by kernel_rfl) ?_
  refine s_nil ?_
  refine g_sreg [0, 1, 2, 3, 4, 5, 6, 7] (by kernel_rfl) (by kernel_rfl) ?_
  refine s_val (some 20) (.int .i64 0) (fun w => by kernel_rfl) (by kernel_rfl) ?_
  refine s_call H2 (some 21) 38 #[.int .i64 0] (.tuple #[uv PR, .int .i64 0]) prime0_fn (fun w => by kernel_rfl) (by kernel_rfl) ?_
  intro w3 H3; clear H2
  refine s_val (some 19) (.tuple #[uv PR, .int .i64 0]) (fun w => by kernel_rfl) (by kernel_rfl) ?_
  refine s_val (some 22) (uv PR) (fun w => by kernel_rfl) (by kernel_rfl) ?_
  refine s_val (some 23) (.int .i64 0) (fun w => by kernel_rfl) (by kernel_rfl) ?_
  refine s_alloc H3 (some 7) 24 (.agg #[.int .u64 0, .int .u64 0, .int .u64 0, .int .u64 0]) (by kernel_rfl) (by kernel_rfl) (by kernel_rfl) ?_
  intro b3 w4 H4; clear H3
  refine s_store H4 0 [(b3, Obj.cells (Value.cells (uv PR)) 24 (0, 0)), (b2, Obj.cells (Value.cells (uv B)) 24 (0, 0)), (b1, Obj.cells (Value.cells (uv A)) 24 (0, 0))] 24 (.tmp 7) (.tmp 22) b3 0 #[.int .u64 0, .int .u64 0, .int .u64 0, .int .u64 0] (Value.cells (uv PR)) 24 (uv PR) (by kernel_rfl) (by kernel_rfl) (by kernel_rfl) (by kernel_rfl) (by kernel_rfl) (by kernel_rfl) (of_decide_eq_true (by kernel_rfl)) (by kernel_rfl) (by kernel_rfl) ?_
  intro w5 H5; clear H4
  refine s_val (some 8) (.int .i64 0) (fun w => by kernel_rfl) (by kernel_rfl) ?_
  refine s_nil ?_
  refine g_sreg [0, 1, 2, 3, 4, 5, 6, 7, 8, 9] (by kernel_rfl) (by kernel_rfl) ?_
  refine s_load H5 (some 25) 24 (.tmp 3) 2 b1 (Value.cells (uv A)) 24 (0, 0) (by kernel_rfl) (by kernel_rfl) (by kernel_rfl) (by kernel_rfl) (by kernel_rfl) ?_
  refine s_load H5 (some 26) 24 (.tmp 4) 1 b2 (Value.cells (uv B)) 24 (0, 0) (by kernel_rfl) (by kernel_rfl) (by kernel_rfl) (by kernel_rfl) (by kernel_rfl) ?_
  refine s_val (some 27) (.int .i64 0) (fun w => by kernel_rfl) (by kernel_rfl) ?_
  refine s_call H5 (some 28) 42 #[uv A, uv B, .int .i64 0] (.tuple #[uv (rs A B PR), .int .i64 0]) (reduce0_fn A B hA hB) (fun w => by kernel_rfl) (by kernel_rfl) ?_
  intro w6 H6; clear H5
  refine s_val (some 24) (.tuple #[uv (rs A B PR), .int .i64 0]) (fun w => by kernel_rfl) (by kernel_rfl) ?_
  refine s_val (some 29) (uv (rs A B PR)) (fun w => by kernel_rfl) (by kernel_rfl) ?_
  refine s_val (some 30) (.int .i64 0) (fun w => by kernel_rfl) (by kernel_rfl) ?_
  refine s_alloc H6 (some 9) 24 (.agg #[.int .u64 0, .int .u64 0, .int .u64 0, .int .u64 0]) (by kernel_rfl) (by kernel_rfl) (by kernel_rfl) ?_
  intro b4 w7 H7; clear H6
  refine s_store H7 0 [(b4, Obj.cells (Value.cells (uv (rs A B PR))) 24 (0, 0)), (b3, Obj.cells (Value.cells (uv PR)) 24 (0, 0)), (b2, Obj.cells (Value.cells (uv B)) 24 (0, 0)), (b1, Obj.cells (Value.cells (uv A)) 24 (0, 0))] 24 (.tmp 9) (.tmp 29) b4 0 #[.int .u64 0, .int .u64 0, .int .u64 0, .int .u64 0] (Value.cells (uv (rs A B PR))) 24 (uv (rs A B PR)) (by kernel_rfl) (by kernel_rfl) (by kernel_rfl) (by kernel_rfl) (by kernel_rfl) (by kernel_rfl) (of_decide_eq_true (by kernel_rfl)) (by kernel_rfl) (by kernel_rfl) ?_
  intro w8 H8; clear H7
  refine s_val (some 10) (.int .i64 0) (fun w => by kernel_rfl) (by kernel_rfl) ?_
  refine s_nil ?_
  refine g_sreg [0, 1, 2, 3, 4, 5, 6, 7, 8, 9] (by kernel_rfl) (by kernel_rfl) ?_
  refine s_load H8 (some 32) 24 (.tmp 9) 0 b4 (Value.cells (uv (rs A B PR))) 24 (0, 0) (by kernel_rfl) (by kernel_rfl) (by kernel_rfl) (by kernel_rfl) (by kernel_rfl) ?_
  refine s_val (some 33) (.agg #[.int .u64 0, .int .u64 0, .int .u64 0, .int .u64 0]) (fun w => by kernel_rfl) (by kernel_rfl) ?_
  refine s_val (some 34) (.int .i64 0) (fun w => by kernel_rfl) (by kernel_rfl) ?_
  refine s_call H8 (some 35) 42 #[uv (rs A B PR), .agg #[.int .u64 0, .int .u64 0, .int .u64 0, .int .u64 0], .int .i64 0] (.tuple #[uv (rs (rs A B PR) 0 PR), .int .i64 0]) (reduce0_fn (rs A B PR) 0 (rs_lt pr_ok) (by unfold big; omega)) (fun w => by kernel_rfl) (by kernel_rfl) ?_
  intro w9 H9; clear H8
  refine s_val (some 31) (.tuple #[uv (rs (rs A B PR) 0 PR), .int .i64 0]) (fun w => by kernel_rfl) (by kernel_rfl) ?_
  refine s_val (some 36) (uv (rs (rs A B PR) 0 PR)) (fun w => by kernel_rfl) (by kernel_rfl) ?_
  refine s_val (some 37) (.int .i64 0) (fun w => by kernel_rfl) (by kernel_rfl) ?_
  refine s_alloc H9 (some 11) 24 (.agg #[.int .u64 0, .int .u64 0, .int .u64 0, .int .u64 0]) (by kernel_rfl) (by kernel_rfl) (by kernel_rfl) ?_
  intro b5 w10 H10; clear H9
  refine s_store H10 0 [(b5, Obj.cells (Value.cells (uv (rs (rs A B PR) 0 PR))) 24 (0, 0)), (b4, Obj.cells (Value.cells (uv (rs A B PR))) 24 (0, 0)), (b3, Obj.cells (Value.cells (uv PR)) 24 (0, 0)), (b2, Obj.cells (Value.cells (uv B)) 24 (0, 0)), (b1, Obj.cells (Value.cells (uv A)) 24 (0, 0))] 24 (.tmp 11) (.tmp 36) b5 0 #[.int .u64 0, .int .u64 0, .int .u64 0, .int .u64 0] (Value.cells (uv (rs (rs A B PR) 0 PR))) 24 (uv (rs (rs A B PR) 0 PR)) (by kernel_rfl) (by kernel_rfl) (by kernel_rfl) (by kernel_rfl) (by kernel_rfl) (by kernel_rfl) (of_decide_eq_true (by kernel_rfl)) (by kernel_rfl) (by kernel_rfl) ?_
  intro w11 H11; clear H10
  refine s_val (some 12) (.int .i64 0) (fun w => by kernel_rfl) (by kernel_rfl) ?_
  refine s_nil ?_
  refine g_sreg [0, 1, 2, 3, 4, 5, 6, 7, 8, 9] (by kernel_rfl) (by kernel_rfl) ?_
  refine s_load H11 (some 39) 24 (.tmp 7) 2 b3 (Value.cells (uv PR)) 24 (0, 0) (by kernel_rfl) (by kernel_rfl) (by kernel_rfl) (by kernel_rfl) (by kernel_rfl) ?_
  refine s_load H11 (some 40) 24 (.tmp 3) 4 b1 (Value.cells (uv A)) 24 (0, 0) (by kernel_rfl) (by kernel_rfl) (by kernel_rfl) (by kernel_rfl) (by kernel_rfl) ?_
  refine s_call H11 (some 41) 26 #[uv PR, uv A] (.tuple #[uv (pl PR A), uv (ph PR A)]) (mul_fn PR A pr_ok.1 hA) (fun w => by kernel_rfl) (by kernel_rfl) ?_
  intro w12 H12; clear H11
  refine s_val (some 38) (.tuple #[uv (pl PR A), uv (ph PR A)]) (fun w => by kernel_rfl) (by kernel_rfl) ?_
  refine s_val (some 42) (uv (pl PR A)) (fun w => by kernel_rfl) (by kernel_rfl) ?_
  refine s_val (some 43) (uv (ph PR A)) (fun w => by kernel_rfl) (by kernel_rfl) ?_
  refine s_alloc H12 (some 13) 24 (.agg #[.int .u64 0, .int .u64 0, .int .u64 0, .int .u64 0]) (by kernel_rfl) (by kernel_rfl) (by kernel_rfl) ?_
  intro b6 w13 H13; clear H12
  refine s_alloc H13 (some 14) 24 (.agg #[.int .u64 0, .int .u64 0, .int .u64 0, .int .u64 0]) (by kernel_rfl) (by kernel_rfl) (by kernel_rfl) ?_
  intro b7 w14 H14; clear H13
  refine s_store H14 1 [(b7, Obj.cells #[.int .u64 0, .int .u64 0, .int .u64 0, .int .u64 0] 24 (0, 0)), (b6, Obj.cells (Value.cells (uv (pl PR A))) 24 (0, 0)), (b5, Obj.cells (Value.cells (uv (rs (rs A B PR) 0 PR))) 24 (0, 0)), (b4, Obj.cells (Value.cells (uv (rs A B PR))) 24 (0, 0)), (b3, Obj.cells (Value.cells (uv PR)) 24 (0, 0)), (b2, Obj.cells (Value.cells (uv B)) 24 (0, 0)), (b1, Obj.cells (Value.cells (uv A)) 24 (0, 0))] 24 (.tmp 13) (.tmp 42) b6 0 #[.int .u64 0, .int .u64 0, .int .u64 0, .int .u64 0] (Value.cells (uv (pl PR A))) 24 (uv (pl PR A)) (by kernel_rfl) (by kernel_rfl) (by kernel_rfl) (by kernel_rfl) (by kernel_rfl) (by kernel_rfl) (of_decide_eq_true (by kernel_rfl)) (by kernel_rfl) (by kernel_rfl) ?_
  intro w15 H15; clear H14
  refine s_store H15 0 [(b7, Obj.cells (Value.cells (uv (ph PR A))) 24 (0, 0)), (b6, Obj.cells (Value.cells (uv (pl PR A))) 24 (0, 0)), (b5, Obj.cells (Value.cells (uv (rs (rs A B PR) 0 PR))) 24 (0, 0)), (b4, Obj.cells (Value.cells (uv (rs A B PR))) 24 (0, 0)), (b3, Obj.cells (Value.cells (uv PR)) 24 (0, 0)), (b2, Obj.cells (Value.cells (uv B)) 24 (0, 0)), (b1, Obj.cells (Value.cells (uv A)) 24 (0, 0))] 24 (.tmp 14) (.tmp 43) b7 0 #[.int .u64 0, .int .u64 0, .int .u64 0, .int .u64 0] (Value.cells (uv (ph PR A))) 24 (uv (ph PR A)) (by kernel_rfl) (by kernel_rfl) (by kernel_rfl) (by kernel_rfl) (by kernel_rfl) (by kernel_rfl) (of_decide_eq_true (by kernel_rfl)) (by kernel_rfl) (by kernel_rfl) ?_
  intro w16 H16; clear H15
  refine s_nil ?_
  refine g_sreg [0, 1, 2, 3, 4, 5, 6, 7, 8, 9] (by kernel_rfl) (by kernel_rfl) ?_
  refine s_load H16 (some 45) 24 (.tmp 13) 1 b6 (Value.cells (uv (pl PR A))) 24 (0, 0) (by kernel_rfl) (by kernel_rfl) (by kernel_rfl) (by kernel_rfl) (by kernel_rfl) ?_
  refine s_load H16 (some 46) 24 (.tmp 14) 0 b7 (Value.cells (uv (ph PR A))) 24 (0, 0) (by kernel_rfl) (by kernel_rfl) (by kernel_rfl) (by kernel_rfl) (by kernel_rfl) ?_
  refine s_val (some 47) (.int .i64 0) (fun w => by kernel_rfl) (by kernel_rfl) ?_
  refine s_call H16 (some 48) 42 #[uv (pl PR A), uv (ph PR A), .int .i64 0] (.tuple #[uv (rs (pl PR A) (ph PR A) PR), .int .i64 0]) (reduce0_fn (pl PR A) (ph PR A) (pl_lt _ _) (ph_lt pr_ok.1 hA)) (fun w => by kernel_rfl) (by kernel_rfl) ?_
  intro w17 H17; clear H16
  refine s_val (some 44) (.tuple #[uv (rs (pl PR A) (ph PR A) PR), .int .i64 0]) (fun w => by kernel_rfl) (by kernel_rfl) ?_
  refine s_val (some 49) (uv (rs (pl PR A) (ph PR A) PR)) (fun w => by kernel_rfl) (by kernel_rfl) ?_
  refine s_val (some 50) (.int .i64 0) (fun w => by kernel_rfl) (by kernel_rfl) ?_
  refine s_alloc H17 (some 15) 24 (.agg #[.int .u64 0, .int .u64 0, .int .u64 0, .int .u64 0]) (by kernel_rfl) (by kernel_rfl) (by kernel_rfl) ?_
  intro b8 w18 H18; clear H17
  refine s_store H18 0 [(b8, Obj.cells (Value.cells (uv (rs (pl PR A) (ph PR A) PR))) 24 (0, 0)), (b7, Obj.cells (Value.cells (uv (ph PR A))) 24 (0, 0)), (b6, Obj.cells (Value.cells (uv (pl PR A))) 24 (0, 0)), (b5, Obj.cells (Value.cells (uv (rs (rs A B PR) 0 PR))) 24 (0, 0)), (b4, Obj.cells (Value.cells (uv (rs A B PR))) 24 (0, 0)), (b3, Obj.cells (Value.cells (uv PR)) 24 (0, 0)), (b2, Obj.cells (Value.cells (uv B)) 24 (0, 0)), (b1, Obj.cells (Value.cells (uv A)) 24 (0, 0))] 24 (.tmp 15) (.tmp 49) b8 0 #[.int .u64 0, .int .u64 0, .int .u64 0, .int .u64 0] (Value.cells (uv (rs (pl PR A) (ph PR A) PR))) 24 (uv (rs (pl PR A) (ph PR A) PR)) (by kernel_rfl) (by kernel_rfl) (by kernel_rfl) (by kernel_rfl) (by kernel_rfl) (by kernel_rfl) (of_decide_eq_true (by kernel_rfl)) (by kernel_rfl) (by kernel_rfl) ?_
  intro w19 H19; clear H18
  refine s_val (some 16) (.int .i64 0) (fun w => by kernel_rfl) (by kernel_rfl) ?_
  refine s_nil ?_
  refine g_sreg [0, 1, 2, 3, 4, 5, 6, 7, 8, 9, 10, 11, 12, 13, 14, 15, 16, 17, 18, 19, 20, 21, 22, 23, 24, 25, 26, 27, 28, 29, 30, 31, 32, 33, 34, 35, 36] (by kernel_rfl) (by kernel_rfl) ?_
  refine s_call H19 (some 51) 43 #[] (.bool true) alive02_fn (fun w => by kernel_rfl) (by kernel_rfl) ?_
  intro w20 H20; clear H19
  refine s_val (some 52) (.bool true) (fun w => by kernel_rfl) (by kernel_rfl) ?_
  refine s_val (some 53) (.int .i64 0) (fun w => by kernel_rfl) (by kernel_rfl) ?_
  refine s_val (some 54) (.bool true) (fun w => by kernel_rfl) (by kernel_rfl) ?_
  refine s_val (some 55) (.bool true) (fun w => by kernel_rfl) (by kernel_rfl) ?_
  refine s_val (some 56) (.bool true) (fun w => by kernel_rfl) (by kernel_rfl) ?_
  refine s_val (some 57) (.int .i64 0) (fun w => by kernel_rfl) (by kernel_rfl) ?_
  refine s_val (some 58) (.int .i64 0) (fun w => by kernel_rfl) (by kernel_rfl) ?_
  refine s_val (some 59) (.bool true) (fun w => by kernel_rfl) (by kernel_rfl) ?_
  refine s_val (some 60) (.bool true) (fun w => by kernel_rfl) (by kernel_rfl) ?_
  refine s_val (some 61) (.bool true) (fun w => by kernel_rfl) (by kernel_rfl) ?_
  refine s_val (some 62) (.int .i64 0) (fun w => by kernel_rfl) (by kernel_rfl) ?_
  refine s_val (some 63) (.int .i64 0) (fun w => by kernel_rfl) (by kernel_rfl) ?_
  refine s_val (some 64) (.bool true) (fun w => by kernel_rfl) (by kernel_rfl) ?_
  refine s_val (some 65) (.bool true) (fun w => by kernel_rfl) (by kernel_rfl) ?_
  refine s_val (some 66) (.bool true) (fun w => by kernel_rfl) (by kernel_rfl) ?_
  refine s_val (some 67) (.int .i64 0) (fun w => by kernel_rfl) (by kernel_rfl) ?_
  refine s_val (some 68) (.int .i64 0) (fun w => by kernel_rfl) (by kernel_rfl) ?_
  refine s_val (some 69) (.bool true) (fun w => by kernel_rfl) (by kernel_rfl) ?_
  refine s_val (some 70) (.bool true) (fun w => by kernel_rfl) (by kernel_rfl) ?_
  refine s_val (some 71) (.bool true) (fun w => by kernel_rfl) (by kernel_rfl) ?_
  refine s_load H20 (some 72) 24 (.tmp 9) 4 b4 (Value.cells (uv (rs A B PR))) 24 (0, 0) (by kernel_rfl) (by kernel_rfl) (by kernel_rfl) (by kernel_rfl) (by kernel_rfl) ?_
  refine s_load H20 (some 73) 24 (.tmp 11) 3 b5 (Value.cells (uv (rs (rs A B PR) 0 PR))) 24 (0, 0) (by kernel_rfl) (by kernel_rfl) (by kernel_rfl) (by kernel_rfl) (by kernel_rfl) ?_
  refine s_opE (some 74) _ (.bool (decide ((rs A B PR) = (rs (rs A B PR) 0 PR)))) (.bool true) (by kernel_rfl) (fun o w ho => eqU_run (x := (.tmp 72)) (y := (.tmp 73)) (rs A B PR) (rs (rs A B PR) 0 PR) (rs_lt pr_ok) (rs_lt pr_ok) w ho (by kernel_rfl) (by kernel_rfl)) (by rw [decide_eq_true (Eq.symm (fold_stays pr_ok A B))] <;> rfl) (by kernel_rfl) ?_
  refine s_val (some 75) (.bool true) (fun w => by kernel_rfl) (by kernel_rfl) ?_
  refine s_val (some 76) (.bool true) (fun w => by kernel_rfl) (by kernel_rfl) ?_
  refine s_load H20 (some 77) 24 (.tmp 9) 4 b4 (Value.cells (uv (rs A B PR))) 24 (0, 0) (by kernel_rfl) (by kernel_rfl) (by kernel_rfl) (by kernel_rfl) (by kernel_rfl) ?_
  refine s_load H20 (some 78) 24 (.tmp 7) 5 b3 (Value.cells (uv PR)) 24 (0, 0) (by kernel_rfl) (by kernel_rfl) (by kernel_rfl) (by kernel_rfl) (by kernel_rfl) ?_
  refine s_call H20 (some 79) 25 #[uv (rs A B PR), uv PR] (.int .i64 (cm (rs A B PR) PR)) (cmp_fn (rs A B PR) PR (rs_lt pr_ok) pr_ok.1) (fun w => by kernel_rfl) (by kernel_rfl) ?_
  intro w21 H21; clear H20
  refine s_valE (some 80) (.bool (decide (cm (rs A B PR) PR < 0))) (.bool true) (fun w => by kernel_rfl) (bool_eq (decide_eq_true (show _ from (cm_lt (rs_ltM pr_ok))))) (by kernel_rfl) ?_
  refine s_val (some 81) (.bool true) (fun w => by kernel_rfl) (by kernel_rfl) ?_
  refine s_val (some 82) (.bool true) (fun w => by kernel_rfl) (by kernel_rfl) ?_
  refine s_load H21 (some 83) 24 (.tmp 15) 0 b8 (Value.cells (uv (rs (pl PR A) (ph PR A) PR))) 24 (0, 0) (by kernel_rfl) (by kernel_rfl) (by kernel_rfl) (by kernel_rfl) (by kernel_rfl) ?_
  refine s_val (some 84) (.agg #[.int .u64 0, .int .u64 0, .int .u64 0, .int .u64 0]) (fun w => by kernel_rfl) (by kernel_rfl) ?_
  refine s_opE (some 85) _ (.bool (decide ((rs (pl PR A) (ph PR A) PR) = 0))) (.bool true) (by kernel_rfl) (fun o w ho => eqU_run (x := (.tmp 83)) (y := (.tmp 84)) (rs (pl PR A) (ph PR A) PR) 0 (rs_lt pr_ok) (by unfold big; omega) w ho (by kernel_rfl) (by kernel_rfl)) (by rw [decide_eq_true (fold_none PR A)] <;> rfl) (by kernel_rfl) ?_
  refine s_val (some 86) (.bool true) (fun w => by kernel_rfl) (by kernel_rfl) ?_
  refine s_val (some 6) (.bool true) (fun w => by kernel_rfl) (by kernel_rfl) ?_
  refine s_nil ?_
  refine g_ret (by kernel_rfl) ?_
  show ∃ vs, Res _ _ _ _ vs ∧ _
  refine ⟨[.bool true], (.tmp (.bool true) (by kernel_rfl) .nil), ?_, H21.below⟩
  rfl

set_option maxRecDepth 100000 in
theorem folds1 (A B : Nat) (hA : A < big) (hB : B < big) (n : Int) (hw : n % 2 = 1) : Fn Try.prog 15 #[uv A, uv B, .int .i64 n] (.bool true) := by
  refine Fn.intro (c := codeOf Try.f15) [.tmp 6] 87 Try.func15 (by kernel_rfl) (by kernel_rfl) (by kernel_rfl) fun w => ?_
  have H0 := St.start w
  refine g_sreg [0, 1, 2] (by kernel_rfl) (by kernel_rfl) ?_
  refine s_box H0 (some 3) 24 (.tmp 0) (uv A) (by kernel_rfl) (by kernel_rfl) (by kernel_rfl) ?_
  intro b1 w1 H1; clear H0
  refine s_box H1 (some 4) 24 (.tmp 1) (uv B) (by kernel_rfl) (by kernel_rfl) (by kernel_rfl) ?_
  intro b2 w2 H2; clear H1
  refine s_val (some 6) (.bool false) (fun w => by kernel_rfl) (by kernel_rfl) ?_
  refine s_nil ?_
  refine g_sreg [0, 1, 2] (by kernel_rfl) (by kernel_rfl) ?_
  refine s_val (some 17) (.int .i64 n) (fun w => by kernel_rfl) (by kernel_rfl) ?_
  refine s_valE (some 18) (.int .i64 (bits .and .i64 n 1)) (.int .i64 1) (fun w => by kernel_rfl) (int_eq (by rw [i64_and1]; exact hw)) (by kernel_rfl) ?_
  refine s_val (some 2) (.int .i64 1) (fun w => by kernel_rfl) (by kernel_rfl) ?_
  refine s_nil ?_
  refine g_sreg [0, 1, 2, 3, 4, 5, 6, 7] (by kernel_rfl) (by kernel_rfl) ?_
  refine s_val (some 20) (.int .i64 1) (fun w => by kernel_rfl) (by kernel_rfl) ?_
  refine s_call H2 (some 21) 38 #[.int .i64 1] (.tuple #[uv NR, .int .i64 0]) prime1_fn (fun w => by kernel_rfl) (by kernel_rfl) ?_
  intro w3 H3; clear H2
  refine s_val (some 19) (.tuple #[uv NR, .int .i64 0]) (fun w => by kernel_rfl) (by kernel_rfl) ?_
  refine s_val (some 22) (uv NR) (fun w => by kernel_rfl) (by kernel_rfl) ?_
  refine s_val (some 23) (.int .i64 0) (fun w => by kernel_rfl) (by kernel_rfl) ?_
  refine s_alloc H3 (some 7) 24 (.agg #[.int .u64 0, .int .u64 0, .int .u64 0, .int .u64 0]) (by kernel_rfl) (by kernel_rfl) (by kernel_rfl) ?_
  intro b3 w4 H4; clear H3
  refine s_store H4 0 [(b3, Obj.cells (Value.cells (uv NR)) 24 (0, 0)), (b2, Obj.cells (Value.cells (uv B)) 24 (0, 0)), (b1, Obj.cells (Value.cells (uv A)) 24 (0, 0))] 24 (.tmp 7) (.tmp 22) b3 0 #[.int .u64 0, .int .u64 0, .int .u64 0, .int .u64 0] (Value.cells (uv NR)) 24 (uv NR) (by kernel_rfl) (by kernel_rfl) (by kernel_rfl) (by kernel_rfl) (by kernel_rfl) (by kernel_rfl) (of_decide_eq_true (by kernel_rfl)) (by kernel_rfl) (by kernel_rfl) ?_
  intro w5 H5; clear H4
  refine s_val (some 8) (.int .i64 0) (fun w => by kernel_rfl) (by kernel_rfl) ?_
  refine s_nil ?_
  refine g_sreg [0, 1, 2, 3, 4, 5, 6, 7, 8, 9] (by kernel_rfl) (by kernel_rfl) ?_
  refine s_load H5 (some 25) 24 (.tmp 3) 2 b1 (Value.cells (uv A)) 24 (0, 0) (by kernel_rfl) (by kernel_rfl) (by kernel_rfl) (by kernel_rfl) (by kernel_rfl) ?_
  refine s_load H5 (some 26) 24 (.tmp 4) 1 b2 (Value.cells (uv B)) 24 (0, 0) (by kernel_rfl) (by kernel_rfl) (by kernel_rfl) (by kernel_rfl) (by kernel_rfl) ?_
  refine s_val (some 27) (.int .i64 1) (fun w => by kernel_rfl) (by kernel_rfl) ?_
  refine s_call H5 (some 28) 42 #[uv A, uv B, .int .i64 1] (.tuple #[uv (rs A B NR), .int .i64 0]) (reduce1_fn A B hA hB) (fun w => by kernel_rfl) (by kernel_rfl) ?_
  intro w6 H6; clear H5
  refine s_val (some 24) (.tuple #[uv (rs A B NR), .int .i64 0]) (fun w => by kernel_rfl) (by kernel_rfl) ?_
  refine s_val (some 29) (uv (rs A B NR)) (fun w => by kernel_rfl) (by kernel_rfl) ?_
  refine s_val (some 30) (.int .i64 0) (fun w => by kernel_rfl) (by kernel_rfl) ?_
  refine s_alloc H6 (some 9) 24 (.agg #[.int .u64 0, .int .u64 0, .int .u64 0, .int .u64 0]) (by kernel_rfl) (by kernel_rfl) (by kernel_rfl) ?_
  intro b4 w7 H7; clear H6
  refine s_store H7 0 [(b4, Obj.cells (Value.cells (uv (rs A B NR))) 24 (0, 0)), (b3, Obj.cells (Value.cells (uv NR)) 24 (0, 0)), (b2, Obj.cells (Value.cells (uv B)) 24 (0, 0)), (b1, Obj.cells (Value.cells (uv A)) 24 (0, 0))] 24 (.tmp 9) (.tmp 29) b4 0 #[.int .u64 0, .int .u64 0, .int .u64 0, .int .u64 0] (Value.cells (uv (rs A B NR))) 24 (uv (rs A B NR)) (by kernel_rfl) (by kernel_rfl) (by kernel_rfl) (by kernel_rfl) (by kernel_rfl) (by kernel_rfl) (of_decide_eq_true (by kernel_rfl)) (by kernel_rfl) (by kernel_rfl) ?_
  intro w8 H8; clear H7
  refine s_val (some 10) (.int .i64 0) (fun w => by kernel_rfl) (by kernel_rfl) ?_
  refine s_nil ?_
  refine g_sreg [0, 1, 2, 3, 4, 5, 6, 7, 8, 9] (by kernel_rfl) (by kernel_rfl) ?_
  refine s_load H8 (some 32) 24 (.tmp 9) 0 b4 (Value.cells (uv (rs A B NR))) 24 (0, 0) (by kernel_rfl) (by kernel_rfl) (by kernel_rfl) (by kernel_rfl) (by kernel_rfl) ?_
  refine s_val (some 33) (.agg #[.int .u64 0, .int .u64 0, .int .u64 0, .int .u64 0]) (fun w => by kernel_rfl) (by kernel_rfl) ?_
  refine s_val (some 34) (.int .i64 1) (fun w => by kernel_rfl) (by kernel_rfl) ?_
  refine s_call H8 (some 35) 42 #[uv (rs A B NR), .agg #[.int .u64 0, .int .u64 0, .int .u64 0, .int .u64 0], .int .i64 1] (.tuple #[uv (rs (rs A B NR) 0 NR), .int .i64 0]) (reduce1_fn (rs A B NR) 0 (rs_lt nr_ok) (by unfold big; omega)) (fun w => by kernel_rfl) (by kernel_rfl) ?_
  intro w9 H9; clear H8
  refine s_val (some 31) (.tuple #[uv (rs (rs A B NR) 0 NR), .int .i64 0]) (fun w => by kernel_rfl) (by kernel_rfl) ?_
  refine s_val (some 36) (uv (rs (rs A B NR) 0 NR)) (fun w => by kernel_rfl) (by kernel_rfl) ?_
  refine s_val (some 37) (.int .i64 0) (fun w => by kernel_rfl) (by kernel_rfl) ?_
  refine s_alloc H9 (some 11) 24 (.agg #[.int .u64 0, .int .u64 0, .int .u64 0, .int .u64 0]) (by kernel_rfl) (by kernel_rfl) (by kernel_rfl) ?_
  intro b5 w10 H10; clear H9
  refine s_store H10 0 [(b5, Obj.cells (Value.cells (uv (rs (rs A B NR) 0 NR))) 24 (0, 0)), (b4, Obj.cells (Value.cells (uv (rs A B NR))) 24 (0, 0)), (b3, Obj.cells (Value.cells (uv NR)) 24 (0, 0)), (b2, Obj.cells (Value.cells (uv B)) 24 (0, 0)), (b1, Obj.cells (Value.cells (uv A)) 24 (0, 0))] 24 (.tmp 11) (.tmp 36) b5 0 #[.int .u64 0, .int .u64 0, .int .u64 0, .int .u64 0] (Value.cells (uv (rs (rs A B NR) 0 NR))) 24 (uv (rs (rs A B NR) 0 NR)) (by kernel_rfl) (by kernel_rfl) (by kernel_rfl) (by kernel_rfl) (by kernel_rfl) (by kernel_rfl) (of_decide_eq_true (by kernel_rfl)) (by kernel_rfl) (by kernel_rfl) ?_
  intro w11 H11; clear H10
  refine s_val (some 12) (.int .i64 0) (fun w => by kernel_rfl) (by kernel_rfl) ?_
  refine s_nil ?_
  refine g_sreg [0, 1, 2, 3, 4, 5, 6, 7, 8, 9] (by kernel_rfl) (by kernel_rfl) ?_
  refine s_load H11 (some 39) 24 (.tmp 7) 2 b3 (Value.cells (uv NR)) 24 (0, 0) (by kernel_rfl) (by kernel_rfl) (by kernel_rfl) (by kernel_rfl) (by kernel_rfl) ?_
  refine s_load H11 (some 40) 24 (.tmp 3) 4 b1 (Value.cells (uv A)) 24 (0, 0) (by kernel_rfl) (by kernel_rfl) (by kernel_rfl) (by kernel_rfl) (by kernel_rfl) ?_
  refine s_call H11 (some 41) 26 #[uv NR, uv A] (.tuple #[uv (pl NR A), uv (ph NR A)]) (mul_fn NR A nr_ok.1 hA) (fun w => by kernel_rfl) (by kernel_rfl) ?_
  intro w12 H12; clear H11
  refine s_val (some 38) (.tuple #[uv (pl NR A), uv (ph NR A)]) (fun w => by kernel_rfl) (by kernel_rfl) ?_
  refine s_val (some 42) (uv (pl NR A)) (fun w => by kernel_rfl) (by kernel_rfl) ?_
  refine s_val (some 43) (uv (ph NR A)) (fun w => by kernel_rfl) (by kernel_rfl) ?_
  refine s_alloc H12 (some 13) 24 (.agg #[.int .u64 0, .int .u64 0, .int .u64 0, .int .u64 0]) (by kernel_rfl) (by kernel_rfl) (by kernel_rfl) ?_
  intro b6 w13 H13; clear H12
  refine s_alloc H13 (some 14) 24 (.agg #[.int .u64 0, .int .u64 0, .int .u64 0, .int .u64 0]) (by kernel_rfl) (by kernel_rfl) (by kernel_rfl) ?_
  intro b7 w14 H14; clear H13
  refine s_store H14 1 [(b7, Obj.cells #[.int .u64 0, .int .u64 0, .int .u64 0, .int .u64 0] 24 (0, 0)), (b6, Obj.cells (Value.cells (uv (pl NR A))) 24 (0, 0)), (b5, Obj.cells (Value.cells (uv (rs (rs A B NR) 0 NR))) 24 (0, 0)), (b4, Obj.cells (Value.cells (uv (rs A B NR))) 24 (0, 0)), (b3, Obj.cells (Value.cells (uv NR)) 24 (0, 0)), (b2, Obj.cells (Value.cells (uv B)) 24 (0, 0)), (b1, Obj.cells (Value.cells (uv A)) 24 (0, 0))] 24 (.tmp 13) (.tmp 42) b6 0 #[.int .u64 0, .int .u64 0, .int .u64 0, .int .u64 0] (Value.cells (uv (pl NR A))) 24 (uv (pl NR A)) (by kernel_rfl) (by kernel_rfl) (by kernel_rfl) (by kernel_rfl) (by kernel_rfl) (by kernel_rfl) (of_decide_eq_true (by kernel_rfl)) (by kernel_rfl) (by kernel_rfl) ?_
  intro w15 H15; clear H14
  refine s_store H15 0 [(b7, Obj.cells (Value.cells (uv (ph NR A))) 24 (0, 0)), (b6, Obj.cells (Value.cells (uv (pl NR A))) 24 (0, 0)), (b5, Obj.cells (Value.cells (uv (rs (rs A B NR) 0 NR))) 24 (0, 0)), (b4, Obj.cells (Value.cells (uv (rs A B NR))) 24 (0, 0)), (b3, Obj.cells (Value.cells (uv NR)) 24 (0, 0)), (b2, Obj.cells (Value.cells (uv B)) 24 (0, 0)), (b1, Obj.cells (Value.cells (uv A)) 24 (0, 0))] 24 (.tmp 14) (.tmp 43) b7 0 #[.int .u64 0, .int .u64 0, .int .u64 0, .int .u64 0] (Value.cells (uv (ph NR A))) 24 (uv (ph NR A)) (by kernel_rfl) (by kernel_rfl) (by kernel_rfl) (by kernel_rfl) (by kernel_rfl) (by kernel_rfl) (of_decide_eq_true (by kernel_rfl)) (by kernel_rfl) (by kernel_rfl) ?_
  intro w16 H16; clear H15
  refine s_nil ?_
  refine g_sreg [0, 1, 2, 3, 4, 5, 6, 7, 8, 9] (by kernel_rfl) (by kernel_rfl) ?_
  refine s_load H16 (some 45) 24 (.tmp 13) 1 b6 (Value.cells (uv (pl NR A))) 24 (0, 0) (by kernel_rfl) (by kernel_rfl) (by kernel_rfl) (by kernel_rfl) (by kernel_rfl) ?_
  refine s_load H16 (some 46) 24 (.tmp 14) 0 b7 (Value.cells (uv (ph NR A))) 24 (0, 0) (by kernel_rfl) (by kernel_rfl) (by kernel_rfl) (by kernel_rfl) (by kernel_rfl) ?_
  refine s_val (some 47) (.int .i64 1) (fun w => by kernel_rfl) (by kernel_rfl) ?_
  refine s_call H16 (some 48) 42 #[uv (pl NR A), uv (ph NR A), .int .i64 1] (.tuple #[uv (rs (pl NR A) (ph NR A) NR), .int .i64 0]) (reduce1_fn (pl NR A) (ph NR A) (pl_lt _ _) (ph_lt nr_ok.1 hA)) (fun w => by kernel_rfl) (by kernel_rfl) ?_
  intro w17 H17; clear H16
  refine s_val (some 44) (.tuple #[uv (rs (pl NR A) (ph NR A) NR), .int .i64 0]) (fun w => by kernel_rfl) (by kernel_rfl) ?_
  refine s_val (some 49) (uv (rs (pl NR A) (ph NR A) NR)) (fun w => by kernel_rfl) (by kernel_rfl) ?_
  refine s_val (some 50) (.int .i64 0) (fun w => by kernel_rfl) (by kernel_rfl) ?_
  refine s_alloc H17 (some 15) 24 (.agg #[.int .u64 0, .int .u64 0, .int .u64 0, .int .u64 0]) (by kernel_rfl) (by kernel_rfl) (by kernel_rfl) ?_
  intro b8 w18 H18; clear H17
  refine s_store H18 0 [(b8, Obj.cells (Value.cells (uv (rs (pl NR A) (ph NR A) NR))) 24 (0, 0)), (b7, Obj.cells (Value.cells (uv (ph NR A))) 24 (0, 0)), (b6, Obj.cells (Value.cells (uv (pl NR A))) 24 (0, 0)), (b5, Obj.cells (Value.cells (uv (rs (rs A B NR) 0 NR))) 24 (0, 0)), (b4, Obj.cells (Value.cells (uv (rs A B NR))) 24 (0, 0)), (b3, Obj.cells (Value.cells (uv NR)) 24 (0, 0)), (b2, Obj.cells (Value.cells (uv B)) 24 (0, 0)), (b1, Obj.cells (Value.cells (uv A)) 24 (0, 0))] 24 (.tmp 15) (.tmp 49) b8 0 #[.int .u64 0, .int .u64 0, .int .u64 0, .int .u64 0] (Value.cells (uv (rs (pl NR A) (ph NR A) NR))) 24 (uv (rs (pl NR A) (ph NR A) NR)) (by kernel_rfl) (by kernel_rfl) (by kernel_rfl) (by kernel_rfl) (by kernel_rfl) (by kernel_rfl) (of_decide_eq_true (by kernel_rfl)) (by kernel_rfl) (by kernel_rfl) ?_
  intro w19 H19; clear H18
  refine s_val (some 16) (.int .i64 0) (fun w => by kernel_rfl) (by kernel_rfl) ?_
  refine s_nil ?_
  refine g_sreg [0, 1, 2, 3, 4, 5, 6, 7, 8, 9, 10, 11, 12, 13, 14, 15, 16, 17, 18, 19, 20, 21, 22, 23, 24, 25, 26, 27, 28, 29, 30, 31, 32, 33, 34, 35, 36] (by kernel_rfl) (by kernel_rfl) ?_
  refine s_call H19 (some 51) 43 #[] (.bool true) alive02_fn (fun w => by kernel_rfl) (by kernel_rfl) ?_
  intro w20 H20; clear H19
  refine s_val (some 52) (.bool true) (fun w => by kernel_rfl) (by kernel_rfl) ?_
  refine s_val (some 53) (.int .i64 0) (fun w => by kernel_rfl) (by kernel_rfl) ?_
  refine s_val (some 54) (.bool true) (fun w => by kernel_rfl) (by kernel_rfl) ?_
  refine s_val (some 55) (.bool true) (fun w => by kernel_rfl) (by kernel_rfl) ?_
  refine s_val (some 56) (.bool true) (fun w => by kernel_rfl) (by kernel_rfl) ?_
  refine s_val (some 57) (.int .i64 0) (fun w => by kernel_rfl) (by kernel_rfl) ?_
  refine s_val (some 58) (.int .i64 0) (fun w => by kernel_rfl) (by kernel_rfl) ?_
  refine s_val (some 59) (.bool true) (fun w => by kernel_rfl) (by kernel_rfl) ?_
  refine s_val (some 60) (.bool true) (fun w => by kernel_rfl) (by kernel_rfl) ?_
  refine s_val (some 61) (.bool true) (fun w => by kernel_rfl) (by kernel_rfl) ?_
  refine s_val (some 62) (.int .i64 0) (fun w => by kernel_rfl) (by kernel_rfl) ?_
  refine s_val (some 63) (.int .i64 0) (fun w => by kernel_rfl) (by kernel_rfl) ?_
  refine s_val (some 64) (.bool true) (fun w => by kernel_rfl) (by kernel_rfl) ?_
  refine s_val (some 65) (.bool true) (fun w => by kernel_rfl) (by kernel_rfl) ?_
  refine s_val (some 66) (.bool true) (fun w => by kernel_rfl) (by kernel_rfl) ?_
  refine s_val (some 67) (.int .i64 0) (fun w => by kernel_rfl) (by kernel_rfl) ?_
  refine s_val (some 68) (.int .i64 0) (fun w => by kernel_rfl) (by kernel_rfl) ?_
  refine s_val (some 69) (.bool true) (fun w => by kernel_rfl) (by kernel_rfl) ?_
  refine s_val (some 70) (.bool true) (fun w => by kernel_rfl) (by kernel_rfl) ?_
  refine s_val (some 71) (.bool true) (fun w => by kernel_rfl) (by kernel_rfl) ?_
  refine s_load H20 (some 72) 24 (.tmp 9) 4 b4 (Value.cells (uv (rs A B NR))) 24 (0, 0) (by kernel_rfl) (by kernel_rfl) (by kernel_rfl) (by kernel_rfl) (by kernel_rfl) ?_
  refine s_load H20 (some 73) 24 (.tmp 11) 3 b5 (Value.cells (uv (rs (rs A B NR) 0 NR))) 24 (0, 0) (by kernel_rfl) (by kernel_rfl) (by kernel_rfl) (by kernel_rfl) (by kernel_rfl) ?_
  refine s_opE (some 74) _ (.bool (decide ((rs A B NR) = (rs (rs A B NR) 0 NR)))) (.bool true) (by kernel_rfl) (fun o w ho => eqU_run (x := (.tmp 72)) (y := (.tmp 73)) (rs A B NR) (rs (rs A B NR) 0 NR) (rs_lt nr_ok) (rs_lt nr_ok) w ho (by kernel_rfl) (by kernel_rfl)) (by rw [decide_eq_true (Eq.symm (fold_stays nr_ok A B))] <;> rfl) (by kernel_rfl) ?_
  refine s_val (some 75) (.bool true) (fun w => by kernel_rfl) (by kernel_rfl) ?_
  refine s_val (some 76) (.bool true) (fun w => by kernel_rfl) (by kernel_rfl) ?_
  refine s_load H20 (some 77) 24 (.tmp 9) 4 b4 (Value.cells (uv (rs A B NR))) 24 (0, 0) (by kernel_rfl) (by kernel_rfl) (by kernel_rfl) (by kernel_rfl) (by kernel_rfl) ?_
  refine s_load H20 (some 78) 24 (.tmp 7) 5 b3 (Value.cells (uv NR)) 24 (0, 0) (by kernel_rfl) (by kernel_rfl) (by kernel_rfl) (by kernel_rfl) (by kernel_rfl) ?_
  refine s_call H20 (some 79) 25 #[uv (rs A B NR), uv NR] (.int .i64 (cm (rs A B NR) NR)) (cmp_fn (rs A B NR) NR (rs_lt nr_ok) nr_ok.1) (fun w => by kernel_rfl) (by kernel_rfl) ?_
  intro w21 H21; clear H20
  refine s_valE (some 80) (.bool (decide (cm (rs A B NR) NR < 0))) (.bool true) (fun w => by kernel_rfl) (bool_eq (decide_eq_true (show _ from (cm_lt (rs_ltM nr_ok))))) (by kernel_rfl) ?_
  refine s_val (some 81) (.bool true) (fun w => by kernel_rfl) (by kernel_rfl) ?_
  refine s_val (some 82) (.bool true) (fun w => by kernel_rfl) (by kernel_rfl) ?_
  refine s_load H21 (some 83) 24 (.tmp 15) 0 b8 (Value.cells (uv (rs (pl NR A) (ph NR A) NR))) 24 (0, 0) (by kernel_rfl) (by kernel_rfl) (by kernel_rfl) (by kernel_rfl) (by kernel_rfl) ?_
  refine s_val (some 84) (.agg #[.int .u64 0, .int .u64 0, .int .u64 0, .int .u64 0]) (fun w => by kernel_rfl) (by kernel_rfl) ?_
  refine s_opE (some 85) _ (.bool (decide ((rs (pl NR A) (ph NR A) NR) = 0))) (.bool true) (by kernel_rfl) (fun o w ho => eqU_run (x := (.tmp 83)) (y := (.tmp 84)) (rs (pl NR A) (ph NR A) NR) 0 (rs_lt nr_ok) (by unfold big; omega) w ho (by kernel_rfl) (by kernel_rfl)) (by rw [decide_eq_true (fold_none NR A)] <;> rfl) (by kernel_rfl) ?_
  refine s_val (some 86) (.bool true) (fun w => by kernel_rfl) (by kernel_rfl) ?_
  refine s_val (some 6) (.bool true) (fun w => by kernel_rfl) (by kernel_rfl) ?_
  refine s_nil ?_
  refine g_ret (by kernel_rfl) ?_
  show ∃ vs, Res _ _ _ _ vs ∧ _
  refine ⟨[.bool true], (.tmp (.bool true) (by kernel_rfl) .nil), ?_, H21.below⟩
  rfl

theorem folds_any (A B : Nat) (hA : A < big) (hB : B < big) (n : Int) : Fn Try.prog 15 #[uv A, uv B, .int .i64 n] (.bool true) := by
  rcases (show n % 2 = 0 ∨ n % 2 = 1 by omega) with h | h
  · exact folds0 A B hA hB n h
  · exact folds1 A B hA hB n h
theorem folds_walk (A : Nat) (hA : A < big) (B : Nat) (hB : B < big) (n : Int) {p : Prop} (_ : p) (w : World) : Calls Try.prog 15 #[uv A, uv B, .int .i64 n] w fun e w' => e = .returned (.bool true) ∧ Below w.heap.size w w' := folds_any A B hA hB n w

end Go.Proofs.Ytiiichlmmngbbaa
