/-
  The law FieldRoots.
-/
import Derived.Test.YtiiichlmmngbbaaFermat
namespace Go.Proofs.Ytiiichlmmngbbaa
open Go Go.RowKit
set_option linter.unusedVariables false
set_option maxRecDepth 100000 in
theorem rootsZero (A : Nat) (hA : A < big) (hz : rs A 0 PR = 0) : Fn Try.prog 13 #[uv A] (.bool true) := by
  refine Fn.intro (c := codeOf Try.f13) [.tmp 2] 106 Try.func13 (by kernel_rfl) (by kernel_rfl) (by kernel_rfl) fun w => ?_
  have H0 := St.start w
  refine g_sreg [0, 1] (by kernel_rfl) (by kernel_rfl) ?_
  refine s_box H0 (some 1) 24 (.tmp 0) (uv A) (by kernel_rfl) (by kernel_rfl) (by kernel_rfl) ?_
  intro b1 w1 H1; clear H0
  refine s_val (some 2) (.bool false) (fun w => by kernel_rfl) (by kernel_rfl) ?_
  refine s_nil ?_
  refine g_sreg [0, 1, 2, 3, 4, 5, 6, 7, 8] (by kernel_rfl) (by kernel_rfl) ?_
  refine s_load H1 (some 18) 24 (.tmp 1) 0 b1 (Value.cells (uv A)) 24 (0, 0) (by kernel_rfl) (by kernel_rfl) (by kernel_rfl) (by kernel_rfl) (by kernel_rfl) ?_
  refine s_load H1 (some 19) 24 (.tmp 1) 0 b1 (Value.cells (uv A)) 24 (0, 0) (by kernel_rfl) (by kernel_rfl) (by kernel_rfl) (by kernel_rfl) (by kernel_rfl) ?_
  refine s_call H1 (some 20) 41 #[uv A, uv A, .int .i64 0] (.tuple #[uv (fMul A A PR), .int .i64 0]) (fmul0_fn A A hA hA) (fun w => by kernel_rfl) (by kernel_rfl) ?_
  intro w2 H2; clear H1
  refine s_val (some 17) (.tuple #[uv (fMul A A PR), .int .i64 0]) (fun w => by kernel_rfl) (by kernel_rfl) ?_
  refine s_val (some 21) (uv (fMul A A PR)) (fun w => by kernel_rfl) (by kernel_rfl) ?_
  refine s_val (some 22) (.int .i64 0) (fun w => by kernel_rfl) (by kernel_rfl) ?_
  refine s_alloc H2 (some 3) 24 (.agg #[.int .u64 0, .int .u64 0, .int .u64 0, .int .u64 0]) (by kernel_rfl) (by kernel_rfl) (by kernel_rfl) ?_
  intro b2 w3 H3; clear H2
  refine s_store H3 0 [(b2, Obj.cells (Value.cells (uv (fMul A A PR))) 24 (0, 0)), (b1, Obj.cells (Value.cells (uv A)) 24 (0, 0))] 24 (.tmp 3) (.tmp 21) b2 0 #[.int .u64 0, .int .u64 0, .int .u64 0, .int .u64 0] (Value.cells (uv (fMul A A PR))) 24 (uv (fMul A A PR)) (by kernel_rfl) (by kernel_rfl) (by kernel_rfl) (by kernel_rfl) (by kernel_rfl) (by kernel_rfl) (of_decide_eq_true (by kernel_rfl)) (by kernel_rfl) (by kernel_rfl) ?_
  intro w4 H4; clear H3
  refine s_val (some 4) (.int .i64 0) (fun w => by kernel_rfl) (by kernel_rfl) ?_
  refine s_nil ?_
  refine g_sreg [0, 1, 2, 3, 4, 5, 6, 7] (by kernel_rfl) (by kernel_rfl) ?_
  refine s_load H4 (some 24) 24 (.tmp 3) 0 b2 (Value.cells (uv (fMul A A PR))) 24 (0, 0) (by kernel_rfl) (by kernel_rfl) (by kernel_rfl) (by kernel_rfl) (by kernel_rfl) ?_
  refine s_call H4 (some 25) 51 #[uv (fMul A A PR)] (.tuple #[uv (rt (fMul A A PR)), .int .i64 0]) (root_fn (fMul A A PR) (fMul_lt pr_ok) (root_square A)) (fun w => by kernel_rfl) (by kernel_rfl) ?_
  intro w5 H5; clear H4
  refine s_val (some 23) (.tuple #[uv (rt (fMul A A PR)), .int .i64 0]) (fun w => by kernel_rfl) (by kernel_rfl) ?_
  refine s_val (some 26) (uv (rt (fMul A A PR))) (fun w => by kernel_rfl) (by kernel_rfl) ?_
  refine s_val (some 27) (.int .i64 0) (fun w => by kernel_rfl) (by kernel_rfl) ?_
  refine s_alloc H5 (some 5) 24 (.agg #[.int .u64 0, .int .u64 0, .int .u64 0, .int .u64 0]) (by kernel_rfl) (by kernel_rfl) (by kernel_rfl) ?_
  intro b3 w6 H6; clear H5
  refine s_store H6 0 [(b3, Obj.cells (Value.cells (uv (rt (fMul A A PR)))) 24 (0, 0)), (b2, Obj.cells (Value.cells (uv (fMul A A PR))) 24 (0, 0)), (b1, Obj.cells (Value.cells (uv A)) 24 (0, 0))] 24 (.tmp 5) (.tmp 26) b3 0 #[.int .u64 0, .int .u64 0, .int .u64 0, .int .u64 0] (Value.cells (uv (rt (fMul A A PR)))) 24 (uv (rt (fMul A A PR))) (by kernel_rfl) (by kernel_rfl) (by kernel_rfl) (by kernel_rfl) (by kernel_rfl) (by kernel_rfl) (of_decide_eq_true (by kernel_rfl)) (by kernel_rfl) (by kernel_rfl) ?_
  intro w7 H7; clear H6
  refine s_val (some 6) (.int .i64 0) (fun w => by kernel_rfl) (by kernel_rfl) ?_
  refine s_nil ?_
  refine g_sreg [0, 1, 2, 3, 4, 5, 6, 7, 8] (by kernel_rfl) (by kernel_rfl) ?_
  refine s_load H7 (some 29) 24 (.tmp 5) 0 b3 (Value.cells (uv (rt (fMul A A PR)))) 24 (0, 0) (by kernel_rfl) (by kernel_rfl) (by kernel_rfl) (by kernel_rfl) (by kernel_rfl) ?_
  refine s_load H7 (some 30) 24 (.tmp 5) 0 b3 (Value.cells (uv (rt (fMul A A PR)))) 24 (0, 0) (by kernel_rfl) (by kernel_rfl) (by kernel_rfl) (by kernel_rfl) (by kernel_rfl) ?_
  refine s_call H7 (some 31) 41 #[uv (rt (fMul A A PR)), uv (rt (fMul A A PR)), .int .i64 0] (.tuple #[uv (fMul (rt (fMul A A PR)) (rt (fMul A A PR)) PR), .int .i64 0]) (fmul0_fn (rt (fMul A A PR)) (rt (fMul A A PR)) (rt_lt _) (rt_lt _)) (fun w => by kernel_rfl) (by kernel_rfl) ?_
  intro w8 H8; clear H7
  refine s_val (some 28) (.tuple #[uv (fMul (rt (fMul A A PR)) (rt (fMul A A PR)) PR), .int .i64 0]) (fun w => by kernel_rfl) (by kernel_rfl) ?_
  refine s_val (some 32) (uv (fMul (rt (fMul A A PR)) (rt (fMul A A PR)) PR)) (fun w => by kernel_rfl) (by kernel_rfl) ?_
  refine s_val (some 33) (.int .i64 0) (fun w => by kernel_rfl) (by kernel_rfl) ?_
  refine s_alloc H8 (some 7) 24 (.agg #[.int .u64 0, .int .u64 0, .int .u64 0, .int .u64 0]) (by kernel_rfl) (by kernel_rfl) (by kernel_rfl) ?_
  intro b4 w9 H9; clear H8
  refine s_store H9 0 [(b4, Obj.cells (Value.cells (uv (fMul (rt (fMul A A PR)) (rt (fMul A A PR)) PR))) 24 (0, 0)), (b3, Obj.cells (Value.cells (uv (rt (fMul A A PR)))) 24 (0, 0)), (b2, Obj.cells (Value.cells (uv (fMul A A PR))) 24 (0, 0)), (b1, Obj.cells (Value.cells (uv A)) 24 (0, 0))] 24 (.tmp 7) (.tmp 32) b4 0 #[.int .u64 0, .int .u64 0, .int .u64 0, .int .u64 0] (Value.cells (uv (fMul (rt (fMul A A PR)) (rt (fMul A A PR)) PR))) 24 (uv (fMul (rt (fMul A A PR)) (rt (fMul A A PR)) PR)) (by kernel_rfl) (by kernel_rfl) (by kernel_rfl) (by kernel_rfl) (by kernel_rfl) (by kernel_rfl) (of_decide_eq_true (by kernel_rfl)) (by kernel_rfl) (by kernel_rfl) ?_
  intro w10 H10; clear H9
  refine s_val (some 8) (.int .i64 0) (fun w => by kernel_rfl) (by kernel_rfl) ?_
  refine s_nil ?_
  refine g_seq (by kernel_rfl) ?_
  refine g_sreg [0, 1, 2, 3, 4, 5, 6, 7, 8, 9, 10, 11, 12, 13, 14, 15, 16, 17, 18, 19, 20] (by kernel_rfl) (by kernel_rfl) ?_
  refine s_val (some 34) (.int .i64 0) (fun w => by kernel_rfl) (by kernel_rfl) ?_
  refine s_val (some 35) (.bool false) (fun w => by kernel_rfl) (by kernel_rfl) ?_
  refine s_val (some 36) (.bool false) (fun w => by kernel_rfl) (by kernel_rfl) ?_
  refine s_val (some 37) (.int .i64 0) (fun w => by kernel_rfl) (by kernel_rfl) ?_
  refine s_val (some 38) (.bool false) (fun w => by kernel_rfl) (by kernel_rfl) ?_
  refine s_val (some 39) (.bool false) (fun w => by kernel_rfl) (by kernel_rfl) ?_
  refine s_val (some 40) (.bool false) (fun w => by kernel_rfl) (by kernel_rfl) ?_
  refine s_val (some 41) (.int .i64 0) (fun w => by kernel_rfl) (by kernel_rfl) ?_
  refine s_val (some 42) (.bool false) (fun w => by kernel_rfl) (by kernel_rfl) ?_
  refine s_val (some 43) (.bool false) (fun w => by kernel_rfl) (by kernel_rfl) ?_
  refine s_val (some 44) (.bool false) (fun w => by kernel_rfl) (by kernel_rfl) ?_
  refine s_load H10 (some 45) 24 (.tmp 7) 0 b4 (Value.cells (uv (fMul (rt (fMul A A PR)) (rt (fMul A A PR)) PR))) 24 (0, 0) (by kernel_rfl) (by kernel_rfl) (by kernel_rfl) (by kernel_rfl) (by kernel_rfl) ?_
  refine s_load H10 (some 46) 24 (.tmp 3) 2 b2 (Value.cells (uv (fMul A A PR))) 24 (0, 0) (by kernel_rfl) (by kernel_rfl) (by kernel_rfl) (by kernel_rfl) (by kernel_rfl) ?_
  refine s_opE (some 47) _ (.bool (!decide ((fMul (rt (fMul A A PR)) (rt (fMul A A PR)) PR) = (fMul A A PR)))) (.bool false) (by kernel_rfl) (fun o w ho => neU_run (x := (.tmp 45)) (y := (.tmp 46)) (fMul (rt (fMul A A PR)) (rt (fMul A A PR)) PR) (fMul A A PR) (fMul_lt pr_ok) (fMul_lt pr_ok) w ho (by kernel_rfl) (by kernel_rfl)) (by rw [decide_eq_true (rt_sq A)] <;> rfl) (by kernel_rfl) ?_
  refine s_val (some 48) (.bool false) (fun w => by kernel_rfl) (by kernel_rfl) ?_
  refine s_val (some 49) (.bool false) (fun w => by kernel_rfl) (by kernel_rfl) ?_
  refine s_val (some 50) (.pointer (some ⟨b3, 0, none⟩)) (fun w => by kernel_rfl) (by kernel_rfl) ?_
  refine s_load1 H10 (some 51) 22 (.tmp 50) 1 b3 0 (Value.cells (uv (rt (fMul A A PR)))) 24 (0, 0) (.int .u64 (w0 (rt (fMul A A PR)))) (by kernel_rfl) (by kernel_rfl) (by kernel_rfl) (by kernel_rfl) (by kernel_rfl) (by kernel_rfl) ?_
  refine s_valE (some 52) (.int .u64 (bits .and .u64 (w0 (rt (fMul A A PR))) 1)) (.int .u64 0) (fun w => by kernel_rfl) (int_eq (w0_even (rt_even _))) (by kernel_rfl) ?_
  refine s_val (some 53) (.bool false) (fun w => by kernel_rfl) (by kernel_rfl) ?_
  refine s_val (some 54) (.bool false) (fun w => by kernel_rfl) (by kernel_rfl) ?_
  refine s_nil ?_
  refine g_cond_f (by kernel_rfl) (by kernel_rfl) ?_
  refine g_skip (by kernel_rfl) ?_
  show WP _ _ _ _ _ _
  refine g_sreg [0, 1, 2, 3, 4, 5, 6, 7, 8] (by kernel_rfl) (by kernel_rfl) ?_
  refine s_load H10 (some 56) 24 (.tmp 1) 3 b1 (Value.cells (uv A)) 24 (0, 0) (by kernel_rfl) (by kernel_rfl) (by kernel_rfl) (by kernel_rfl) (by kernel_rfl) ?_
  refine s_val (some 57) (.agg #[.int .u64 0, .int .u64 0, .int .u64 0, .int .u64 0]) (fun w => by kernel_rfl) (by kernel_rfl) ?_
  refine s_call H10 (some 58) 42 #[uv A, .agg #[.int .u64 0, .int .u64 0, .int .u64 0, .int .u64 0], .int .i64 0] (.tuple #[uv (rs A 0 PR), .int .i64 0]) (reduce0_fn A 0 hA (by unfold big; omega)) (fun w => by kernel_rfl) (by kernel_rfl) ?_
  intro w11 H11; clear H10
  refine s_val (some 55) (.tuple #[uv (rs A 0 PR), .int .i64 0]) (fun w => by kernel_rfl) (by kernel_rfl) ?_
  refine s_val (some 59) (uv (rs A 0 PR)) (fun w => by kernel_rfl) (by kernel_rfl) ?_
  refine s_val (some 60) (.int .i64 0) (fun w => by kernel_rfl) (by kernel_rfl) ?_
  refine s_alloc H11 (some 9) 24 (.agg #[.int .u64 0, .int .u64 0, .int .u64 0, .int .u64 0]) (by kernel_rfl) (by kernel_rfl) (by kernel_rfl) ?_
  intro b5 w12 H12; clear H11
  refine s_store H12 0 [(b5, Obj.cells (Value.cells (uv (rs A 0 PR))) 24 (0, 0)), (b4, Obj.cells (Value.cells (uv (fMul (rt (fMul A A PR)) (rt (fMul A A PR)) PR))) 24 (0, 0)), (b3, Obj.cells (Value.cells (uv (rt (fMul A A PR)))) 24 (0, 0)), (b2, Obj.cells (Value.cells (uv (fMul A A PR))) 24 (0, 0)), (b1, Obj.cells (Value.cells (uv A)) 24 (0, 0))] 24 (.tmp 9) (.tmp 59) b5 0 #[.int .u64 0, .int .u64 0, .int .u64 0, .int .u64 0] (Value.cells (uv (rs A 0 PR))) 24 (uv (rs A 0 PR)) (by kernel_rfl) (by kernel_rfl) (by kernel_rfl) (by kernel_rfl) (by kernel_rfl) (by kernel_rfl) (of_decide_eq_true (by kernel_rfl)) (by kernel_rfl) (by kernel_rfl) ?_
  intro w13 H13; clear H12
  refine s_val (some 10) (.int .i64 0) (fun w => by kernel_rfl) (by kernel_rfl) ?_
  refine s_nil ?_
  refine g_sreg [0, 1, 2, 3, 4, 5, 6, 7] (by kernel_rfl) (by kernel_rfl) ?_
  refine s_load H13 (some 62) 24 (.tmp 1) 4 b1 (Value.cells (uv A)) 24 (0, 0) (by kernel_rfl) (by kernel_rfl) (by kernel_rfl) (by kernel_rfl) (by kernel_rfl) ?_
  refine s_call H13 (some 63) 51 #[uv A] (.tuple #[uv (rt A), .int .i64 0]) (root_fn A hA (root_zero hz)) (fun w => by kernel_rfl) (by kernel_rfl) ?_
  intro w14 H14; clear H13
  refine s_val (some 61) (.tuple #[uv (rt A), .int .i64 0]) (fun w => by kernel_rfl) (by kernel_rfl) ?_
  refine s_val (some 64) (uv (rt A)) (fun w => by kernel_rfl) (by kernel_rfl) ?_
  refine s_val (some 65) (.int .i64 0) (fun w => by kernel_rfl) (by kernel_rfl) ?_
  refine s_alloc H14 (some 11) 24 (.agg #[.int .u64 0, .int .u64 0, .int .u64 0, .int .u64 0]) (by kernel_rfl) (by kernel_rfl) (by kernel_rfl) ?_
  intro b6 w15 H15; clear H14
  refine s_store H15 0 [(b6, Obj.cells (Value.cells (uv (rt A))) 24 (0, 0)), (b5, Obj.cells (Value.cells (uv (rs A 0 PR))) 24 (0, 0)), (b4, Obj.cells (Value.cells (uv (fMul (rt (fMul A A PR)) (rt (fMul A A PR)) PR))) 24 (0, 0)), (b3, Obj.cells (Value.cells (uv (rt (fMul A A PR)))) 24 (0, 0)), (b2, Obj.cells (Value.cells (uv (fMul A A PR))) 24 (0, 0)), (b1, Obj.cells (Value.cells (uv A)) 24 (0, 0))] 24 (.tmp 11) (.tmp 64) b6 0 #[.int .u64 0, .int .u64 0, .int .u64 0, .int .u64 0] (Value.cells (uv (rt A))) 24 (uv (rt A)) (by kernel_rfl) (by kernel_rfl) (by kernel_rfl) (by kernel_rfl) (by kernel_rfl) (by kernel_rfl) (of_decide_eq_true (by kernel_rfl)) (by kernel_rfl) (by kernel_rfl) ?_
  intro w16 H16; clear H15
  refine s_val (some 12) (.int .i64 0) (fun w => by kernel_rfl) (by kernel_rfl) ?_
  refine s_nil ?_
  refine g_sreg [0, 1, 2, 3, 4, 5, 6, 7, 8] (by kernel_rfl) (by kernel_rfl) ?_
  refine s_val (some 67) (.agg #[.int .u64 0, .int .u64 0, .int .u64 0, .int .u64 0]) (fun w => by kernel_rfl) (by kernel_rfl) ?_
  refine s_load H16 (some 68) 24 (.tmp 1) 5 b1 (Value.cells (uv A)) 24 (0, 0) (by kernel_rfl) (by kernel_rfl) (by kernel_rfl) (by kernel_rfl) (by kernel_rfl) ?_
  refine s_call H16 (some 69) 40 #[.agg #[.int .u64 0, .int .u64 0, .int .u64 0, .int .u64 0], uv A, .int .i64 0] (.tuple #[uv (fSub 0 A PR), .int .i64 0]) (fsub0_fn 0 A (by unfold big; omega) hA) (fun w => by kernel_rfl) (by kernel_rfl) ?_
  intro w17 H17; clear H16
  refine s_val (some 66) (.tuple #[uv (fSub 0 A PR), .int .i64 0]) (fun w => by kernel_rfl) (by kernel_rfl) ?_
  refine s_val (some 70) (uv (fSub 0 A PR)) (fun w => by kernel_rfl) (by kernel_rfl) ?_
  refine s_val (some 71) (.int .i64 0) (fun w => by kernel_rfl) (by kernel_rfl) ?_
  refine s_alloc H17 (some 13) 24 (.agg #[.int .u64 0, .int .u64 0, .int .u64 0, .int .u64 0]) (by kernel_rfl) (by kernel_rfl) (by kernel_rfl) ?_
  intro b7 w18 H18; clear H17
  refine s_store H18 0 [(b7, Obj.cells (Value.cells (uv (fSub 0 A PR))) 24 (0, 0)), (b6, Obj.cells (Value.cells (uv (rt A))) 24 (0, 0)), (b5, Obj.cells (Value.cells (uv (rs A 0 PR))) 24 (0, 0)), (b4, Obj.cells (Value.cells (uv (fMul (rt (fMul A A PR)) (rt (fMul A A PR)) PR))) 24 (0, 0)), (b3, Obj.cells (Value.cells (uv (rt (fMul A A PR)))) 24 (0, 0)), (b2, Obj.cells (Value.cells (uv (fMul A A PR))) 24 (0, 0)), (b1, Obj.cells (Value.cells (uv A)) 24 (0, 0))] 24 (.tmp 13) (.tmp 70) b7 0 #[.int .u64 0, .int .u64 0, .int .u64 0, .int .u64 0] (Value.cells (uv (fSub 0 A PR))) 24 (uv (fSub 0 A PR)) (by kernel_rfl) (by kernel_rfl) (by kernel_rfl) (by kernel_rfl) (by kernel_rfl) (by kernel_rfl) (of_decide_eq_true (by kernel_rfl)) (by kernel_rfl) (by kernel_rfl) ?_
  intro w19 H19; clear H18
  refine s_val (some 14) (.int .i64 0) (fun w => by kernel_rfl) (by kernel_rfl) ?_
  refine s_nil ?_
  refine g_sreg [0, 1, 2, 3, 4, 5, 6, 7] (by kernel_rfl) (by kernel_rfl) ?_
  refine s_load H19 (some 73) 24 (.tmp 13) 0 b7 (Value.cells (uv (fSub 0 A PR))) 24 (0, 0) (by kernel_rfl) (by kernel_rfl) (by kernel_rfl) (by kernel_rfl) (by kernel_rfl) ?_
  refine s_call H19 (some 74) 51 #[uv (fSub 0 A PR)] (.tuple #[uv (rt (fSub 0 A PR)), .int .i64 0]) (root_fn (fSub 0 A PR) (fSub_lt pr_ok) (root_zero (turned_zero hz))) (fun w => by kernel_rfl) (by kernel_rfl) ?_
  intro w20 H20; clear H19
  refine s_val (some 72) (.tuple #[uv (rt (fSub 0 A PR)), .int .i64 0]) (fun w => by kernel_rfl) (by kernel_rfl) ?_
  refine s_val (some 75) (uv (rt (fSub 0 A PR))) (fun w => by kernel_rfl) (by kernel_rfl) ?_
  refine s_val (some 76) (.int .i64 0) (fun w => by kernel_rfl) (by kernel_rfl) ?_
  refine s_alloc H20 (some 15) 24 (.agg #[.int .u64 0, .int .u64 0, .int .u64 0, .int .u64 0]) (by kernel_rfl) (by kernel_rfl) (by kernel_rfl) ?_
  intro b8 w21 H21; clear H20
  refine s_store H21 0 [(b8, Obj.cells (Value.cells (uv (rt (fSub 0 A PR)))) 24 (0, 0)), (b7, Obj.cells (Value.cells (uv (fSub 0 A PR))) 24 (0, 0)), (b6, Obj.cells (Value.cells (uv (rt A))) 24 (0, 0)), (b5, Obj.cells (Value.cells (uv (rs A 0 PR))) 24 (0, 0)), (b4, Obj.cells (Value.cells (uv (fMul (rt (fMul A A PR)) (rt (fMul A A PR)) PR))) 24 (0, 0)), (b3, Obj.cells (Value.cells (uv (rt (fMul A A PR)))) 24 (0, 0)), (b2, Obj.cells (Value.cells (uv (fMul A A PR))) 24 (0, 0)), (b1, Obj.cells (Value.cells (uv A)) 24 (0, 0))] 24 (.tmp 15) (.tmp 75) b8 0 #[.int .u64 0, .int .u64 0, .int .u64 0, .int .u64 0] (Value.cells (uv (rt (fSub 0 A PR)))) 24 (uv (rt (fSub 0 A PR))) (by kernel_rfl) (by kernel_rfl) (by kernel_rfl) (by kernel_rfl) (by kernel_rfl) (by kernel_rfl) (of_decide_eq_true (by kernel_rfl)) (by kernel_rfl) (by kernel_rfl) ?_
  intro w22 H22; clear H21
  refine s_val (some 16) (.int .i64 0) (fun w => by kernel_rfl) (by kernel_rfl) ?_
  refine s_nil ?_
  refine g_sreg [0, 1, 2, 3, 4, 5, 6, 7, 8, 9, 10, 11, 12, 13, 14, 15, 16, 17, 18, 19, 20, 21, 22, 23, 24, 25, 26, 27, 28, 29] (by kernel_rfl) (by kernel_rfl) ?_
  refine s_call H22 (some 77) 43 #[] (.bool true) alive02_fn (fun w => by kernel_rfl) (by kernel_rfl) ?_
  intro w23 H23; clear H22
  refine s_val (some 78) (.bool true) (fun w => by kernel_rfl) (by kernel_rfl) ?_
  refine s_val (some 79) (.int .i64 0) (fun w => by kernel_rfl) (by kernel_rfl) ?_
  refine s_val (some 80) (.bool true) (fun w => by kernel_rfl) (by kernel_rfl) ?_
  refine s_val (some 81) (.bool true) (fun w => by kernel_rfl) (by kernel_rfl) ?_
  refine s_val (some 82) (.bool true) (fun w => by kernel_rfl) (by kernel_rfl) ?_
  refine s_val (some 83) (.int .i64 0) (fun w => by kernel_rfl) (by kernel_rfl) ?_
  refine s_val (some 84) (.bool true) (fun w => by kernel_rfl) (by kernel_rfl) ?_
  refine s_val (some 85) (.bool true) (fun w => by kernel_rfl) (by kernel_rfl) ?_
  refine s_val (some 86) (.bool true) (fun w => by kernel_rfl) (by kernel_rfl) ?_
  refine s_load H23 (some 87) 24 (.tmp 9) 3 b5 (Value.cells (uv (rs A 0 PR))) 24 (0, 0) (by kernel_rfl) (by kernel_rfl) (by kernel_rfl) (by kernel_rfl) (by kernel_rfl) ?_
  refine s_val (some 88) (.agg #[.int .u64 0, .int .u64 0, .int .u64 0, .int .u64 0]) (fun w => by kernel_rfl) (by kernel_rfl) ?_
  refine s_opE (some 89) _ (.bool (decide ((rs A 0 PR) = 0))) (.bool true) (by kernel_rfl) (fun o w ho => eqU_run (x := (.tmp 87)) (y := (.tmp 88)) (rs A 0 PR) 0 (rs_lt pr_ok) (by unfold big; omega) w ho (by kernel_rfl) (by kernel_rfl)) (by rw [decide_eq_true hz] <;> rfl) (by kernel_rfl) ?_
  refine s_val (some 90) (.bool true) (fun w => by kernel_rfl) (by kernel_rfl) ?_
  refine s_not (some 91) (by kernel_rfl) (by kernel_rfl) ?_
  refine s_not (some 92) (by kernel_rfl) (by kernel_rfl) ?_
  refine s_not (some 93) (by kernel_rfl) (by kernel_rfl) ?_
  refine s_not (some 94) (by kernel_rfl) (by kernel_rfl) ?_
  refine s_not (some 95) (by kernel_rfl) (by kernel_rfl) ?_
  refine s_val (some 96) (.bool true) (fun w => by kernel_rfl) (by kernel_rfl) ?_
  refine s_val (some 97) (.bool true) (fun w => by kernel_rfl) (by kernel_rfl) ?_
  refine s_val (some 98) (.bool true) (fun w => by kernel_rfl) (by kernel_rfl) ?_
  refine s_val (some 99) (.int .i64 0) (fun w => by kernel_rfl) (by kernel_rfl) ?_
  refine s_val (some 100) (.bool true) (fun w => by kernel_rfl) (by kernel_rfl) ?_
  refine s_val (some 101) (.bool true) (fun w => by kernel_rfl) (by kernel_rfl) ?_
  refine s_not (some 102) (by kernel_rfl) (by kernel_rfl) ?_
  refine s_not (some 103) (by kernel_rfl) (by kernel_rfl) ?_
  refine s_val (some 104) (.bool true) (fun w => by kernel_rfl) (by kernel_rfl) ?_
  refine s_val (some 105) (.bool true) (fun w => by kernel_rfl) (by kernel_rfl) ?_
  refine s_val (some 2) (.bool true) (fun w => by kernel_rfl) (by kernel_rfl) ?_
  refine s_nil ?_
  refine g_ret (by kernel_rfl) ?_
  show ∃ vs, Res _ _ _ _ vs ∧ _
  refine ⟨[.bool true], (.tmp (.bool true) (by kernel_rfl) .nil), ?_, H23.below⟩
  rfl

set_option maxRecDepth 100000 in
theorem rootsYes (A : Nat) (hA : A < big) (hz : rs A 0 PR ≠ 0) (hs : sgn A = 1) : Fn Try.prog 13 #[uv A] (.bool true) := by
  refine Fn.intro (c := codeOf Try.f13) [.tmp 2] 106 Try.func13 (by kernel_rfl) (by kernel_rfl) (by kernel_rfl) fun w => ?_
  have H0 := St.start w
  refine g_sreg [0, 1] (by kernel_rfl) (by kernel_rfl) ?_
  refine s_box H0 (some 1) 24 (.tmp 0) (uv A) (by kernel_rfl) (by kernel_rfl) (by kernel_rfl) ?_
  intro b1 w1 H1; clear H0
  refine s_val (some 2) (.bool false) (fun w => by kernel_rfl) (by kernel_rfl) ?_
  refine s_nil ?_
  refine g_sreg [0, 1, 2, 3, 4, 5, 6, 7, 8] (by kernel_rfl) (by kernel_rfl) ?_
  refine s_load H1 (some 18) 24 (.tmp 1) 0 b1 (Value.cells (uv A)) 24 (0, 0) (by kernel_rfl) (by kernel_rfl) (by kernel_rfl) (by kernel_rfl) (by kernel_rfl) ?_
  refine s_load H1 (some 19) 24 (.tmp 1) 0 b1 (Value.cells (uv A)) 24 (0, 0) (by kernel_rfl) (by kernel_rfl) (by kernel_rfl) (by kernel_rfl) (by kernel_rfl) ?_
  refine s_call H1 (some 20) 41 #[uv A, uv A, .int .i64 0] (.tuple #[uv (fMul A A PR), .int .i64 0]) (fmul0_fn A A hA hA) (fun w => by kernel_rfl) (by kernel_rfl) ?_
  intro w2 H2; clear H1
  refine s_val (some 17) (.tuple #[uv (fMul A A PR), .int .i64 0]) (fun w => by kernel_rfl) (by kernel_rfl) ?_
  refine s_val (some 21) (uv (fMul A A PR)) (fun w => by kernel_rfl) (by kernel_rfl) ?_
  refine s_val (some 22) (.int .i64 0) (fun w => by kernel_rfl) (by kernel_rfl) ?_
  refine s_alloc H2 (some 3) 24 (.agg #[.int .u64 0, .int .u64 0, .int .u64 0, .int .u64 0]) (by kernel_rfl) (by kernel_rfl) (by kernel_rfl) ?_
  intro b2 w3 H3; clear H2
  refine s_store H3 0 [(b2, Obj.cells (Value.cells (uv (fMul A A PR))) 24 (0, 0)), (b1, Obj.cells (Value.cells (uv A)) 24 (0, 0))] 24 (.tmp 3) (.tmp 21) b2 0 #[.int .u64 0, .int .u64 0, .int .u64 0, .int .u64 0] (Value.cells (uv (fMul A A PR))) 24 (uv (fMul A A PR)) (by kernel_rfl) (by kernel_rfl) (by kernel_rfl) (by kernel_rfl) (by kernel_rfl) (by kernel_rfl) (of_decide_eq_true (by kernel_rfl)) (by kernel_rfl) (by kernel_rfl) ?_
  intro w4 H4; clear H3
  refine s_val (some 4) (.int .i64 0) (fun w => by kernel_rfl) (by kernel_rfl) ?_
  refine s_nil ?_
  refine g_sreg [0, 1, 2, 3, 4, 5, 6, 7] (by kernel_rfl) (by kernel_rfl) ?_
  refine s_load H4 (some 24) 24 (.tmp 3) 0 b2 (Value.cells (uv (fMul A A PR))) 24 (0, 0) (by kernel_rfl) (by kernel_rfl) (by kernel_rfl) (by kernel_rfl) (by kernel_rfl) ?_
  refine s_call H4 (some 25) 51 #[uv (fMul A A PR)] (.tuple #[uv (rt (fMul A A PR)), .int .i64 0]) (root_fn (fMul A A PR) (fMul_lt pr_ok) (root_square A)) (fun w => by kernel_rfl) (by kernel_rfl) ?_
  intro w5 H5; clear H4
  refine s_val (some 23) (.tuple #[uv (rt (fMul A A PR)), .int .i64 0]) (fun w => by kernel_rfl) (by kernel_rfl) ?_
  refine s_val (some 26) (uv (rt (fMul A A PR))) (fun w => by kernel_rfl) (by kernel_rfl) ?_
  refine s_val (some 27) (.int .i64 0) (fun w => by kernel_rfl) (by kernel_rfl) ?_
  refine s_alloc H5 (some 5) 24 (.agg #[.int .u64 0, .int .u64 0, .int .u64 0, .int .u64 0]) (by kernel_rfl) (by kernel_rfl) (by kernel_rfl) ?_
  intro b3 w6 H6; clear H5
  refine s_store H6 0 [(b3, Obj.cells (Value.cells (uv (rt (fMul A A PR)))) 24 (0, 0)), (b2, Obj.cells (Value.cells (uv (fMul A A PR))) 24 (0, 0)), (b1, Obj.cells (Value.cells (uv A)) 24 (0, 0))] 24 (.tmp 5) (.tmp 26) b3 0 #[.int .u64 0, .int .u64 0, .int .u64 0, .int .u64 0] (Value.cells (uv (rt (fMul A A PR)))) 24 (uv (rt (fMul A A PR))) (by kernel_rfl) (by kernel_rfl) (by kernel_rfl) (by kernel_rfl) (by kernel_rfl) (by kernel_rfl) (of_decide_eq_true (by kernel_rfl)) (by kernel_rfl) (by kernel_rfl) ?_
  intro w7 H7; clear H6
  refine s_val (some 6) (.int .i64 0) (fun w => by kernel_rfl) (by kernel_rfl) ?_
  refine s_nil ?_
  refine g_sreg [0, 1, 2, 3, 4, 5, 6, 7, 8] (by kernel_rfl) (by kernel_rfl) ?_
  refine s_load H7 (some 29) 24 (.tmp 5) 0 b3 (Value.cells (uv (rt (fMul A A PR)))) 24 (0, 0) (by kernel_rfl) (by kernel_rfl) (by kernel_rfl) (by kernel_rfl) (by kernel_rfl) ?_
  refine s_load H7 (some 30) 24 (.tmp 5) 0 b3 (Value.cells (uv (rt (fMul A A PR)))) 24 (0, 0) (by kernel_rfl) (by kernel_rfl) (by kernel_rfl) (by kernel_rfl) (by kernel_rfl) ?_
  refine s_call H7 (some 31) 41 #[uv (rt (fMul A A PR)), uv (rt (fMul A A PR)), .int .i64 0] (.tuple #[uv (fMul (rt (fMul A A PR)) (rt (fMul A A PR)) PR), .int .i64 0]) (fmul0_fn (rt (fMul A A PR)) (rt (fMul A A PR)) (rt_lt _) (rt_lt _)) (fun w => by kernel_rfl) (by kernel_rfl) ?_
  intro w8 H8; clear H7
  refine s_val (some 28) (.tuple #[uv (fMul (rt (fMul A A PR)) (rt (fMul A A PR)) PR), .int .i64 0]) (fun w => by kernel_rfl) (by kernel_rfl) ?_
  refine s_val (some 32) (uv (fMul (rt (fMul A A PR)) (rt (fMul A A PR)) PR)) (fun w => by kernel_rfl) (by kernel_rfl) ?_
  refine s_val (some 33) (.int .i64 0) (fun w => by kernel_rfl) (by kernel_rfl) ?_
  refine s_alloc H8 (some 7) 24 (.agg #[.int .u64 0, .int .u64 0, .int .u64 0, .int .u64 0]) (by kernel_rfl) (by kernel_rfl) (by kernel_rfl) ?_
  intro b4 w9 H9; clear H8
  refine s_store H9 0 [(b4, Obj.cells (Value.cells (uv (fMul (rt (fMul A A PR)) (rt (fMul A A PR)) PR))) 24 (0, 0)), (b3, Obj.cells (Value.cells (uv (rt (fMul A A PR)))) 24 (0, 0)), (b2, Obj.cells (Value.cells (uv (fMul A A PR))) 24 (0, 0)), (b1, Obj.cells (Value.cells (uv A)) 24 (0, 0))] 24 (.tmp 7) (.tmp 32) b4 0 #[.int .u64 0, .int .u64 0, .int .u64 0, .int .u64 0] (Value.cells (uv (fMul (rt (fMul A A PR)) (rt (fMul A A PR)) PR))) 24 (uv (fMul (rt (fMul A A PR)) (rt (fMul A A PR)) PR)) (by kernel_rfl) (by kernel_rfl) (by kernel_rfl) (by kernel_rfl) (by kernel_rfl) (by kernel_rfl) (of_decide_eq_true (by kernel_rfl)) (by kernel_rfl) (by kernel_rfl) ?_
  intro w10 H10; clear H9
  refine s_val (some 8) (.int .i64 0) (fun w => by kernel_rfl) (by kernel_rfl) ?_
  refine s_nil ?_
  refine g_seq (by kernel_rfl) ?_
  refine g_sreg [0, 1, 2, 3, 4, 5, 6, 7, 8, 9, 10, 11, 12, 13, 14, 15, 16, 17, 18, 19, 20] (by kernel_rfl) (by kernel_rfl) ?_
  refine s_val (some 34) (.int .i64 0) (fun w => by kernel_rfl) (by kernel_rfl) ?_
  refine s_val (some 35) (.bool false) (fun w => by kernel_rfl) (by kernel_rfl) ?_
  refine s_val (some 36) (.bool false) (fun w => by kernel_rfl) (by kernel_rfl) ?_
  refine s_val (some 37) (.int .i64 0) (fun w => by kernel_rfl) (by kernel_rfl) ?_
  refine s_val (some 38) (.bool false) (fun w => by kernel_rfl) (by kernel_rfl) ?_
  refine s_val (some 39) (.bool false) (fun w => by kernel_rfl) (by kernel_rfl) ?_
  refine s_val (some 40) (.bool false) (fun w => by kernel_rfl) (by kernel_rfl) ?_
  refine s_val (some 41) (.int .i64 0) (fun w => by kernel_rfl) (by kernel_rfl) ?_
  refine s_val (some 42) (.bool false) (fun w => by kernel_rfl) (by kernel_rfl) ?_
  refine s_val (some 43) (.bool false) (fun w => by kernel_rfl) (by kernel_rfl) ?_
  refine s_val (some 44) (.bool false) (fun w => by kernel_rfl) (by kernel_rfl) ?_
  refine s_load H10 (some 45) 24 (.tmp 7) 0 b4 (Value.cells (uv (fMul (rt (fMul A A PR)) (rt (fMul A A PR)) PR))) 24 (0, 0) (by kernel_rfl) (by kernel_rfl) (by kernel_rfl) (by kernel_rfl) (by kernel_rfl) ?_
  refine s_load H10 (some 46) 24 (.tmp 3) 2 b2 (Value.cells (uv (fMul A A PR))) 24 (0, 0) (by kernel_rfl) (by kernel_rfl) (by kernel_rfl) (by kernel_rfl) (by kernel_rfl) ?_
  refine s_opE (some 47) _ (.bool (!decide ((fMul (rt (fMul A A PR)) (rt (fMul A A PR)) PR) = (fMul A A PR)))) (.bool false) (by kernel_rfl) (fun o w ho => neU_run (x := (.tmp 45)) (y := (.tmp 46)) (fMul (rt (fMul A A PR)) (rt (fMul A A PR)) PR) (fMul A A PR) (fMul_lt pr_ok) (fMul_lt pr_ok) w ho (by kernel_rfl) (by kernel_rfl)) (by rw [decide_eq_true (rt_sq A)] <;> rfl) (by kernel_rfl) ?_
  refine s_val (some 48) (.bool false) (fun w => by kernel_rfl) (by kernel_rfl) ?_
  refine s_val (some 49) (.bool false) (fun w => by kernel_rfl) (by kernel_rfl) ?_
  refine s_val (some 50) (.pointer (some ⟨b3, 0, none⟩)) (fun w => by kernel_rfl) (by kernel_rfl) ?_
  refine s_load1 H10 (some 51) 22 (.tmp 50) 1 b3 0 (Value.cells (uv (rt (fMul A A PR)))) 24 (0, 0) (.int .u64 (w0 (rt (fMul A A PR)))) (by kernel_rfl) (by kernel_rfl) (by kernel_rfl) (by kernel_rfl) (by kernel_rfl) (by kernel_rfl) ?_
  refine s_valE (some 52) (.int .u64 (bits .and .u64 (w0 (rt (fMul A A PR))) 1)) (.int .u64 0) (fun w => by kernel_rfl) (int_eq (w0_even (rt_even _))) (by kernel_rfl) ?_
  refine s_val (some 53) (.bool false) (fun w => by kernel_rfl) (by kernel_rfl) ?_
  refine s_val (some 54) (.bool false) (fun w => by kernel_rfl) (by kernel_rfl) ?_
  refine s_nil ?_
  refine g_cond_f (by kernel_rfl) (by kernel_rfl) ?_
  refine g_skip (by kernel_rfl) ?_
  show WP _ _ _ _ _ _
  refine g_sreg [0, 1, 2, 3, 4, 5, 6, 7, 8] (by kernel_rfl) (by kernel_rfl) ?_
  refine s_load H10 (some 56) 24 (.tmp 1) 3 b1 (Value.cells (uv A)) 24 (0, 0) (by kernel_rfl) (by kernel_rfl) (by kernel_rfl) (by kernel_rfl) (by kernel_rfl) ?_
  refine s_val (some 57) (.agg #[.int .u64 0, .int .u64 0, .int .u64 0, .int .u64 0]) (fun w => by kernel_rfl) (by kernel_rfl) ?_
  refine s_call H10 (some 58) 42 #[uv A, .agg #[.int .u64 0, .int .u64 0, .int .u64 0, .int .u64 0], .int .i64 0] (.tuple #[uv (rs A 0 PR), .int .i64 0]) (reduce0_fn A 0 hA (by unfold big; omega)) (fun w => by kernel_rfl) (by kernel_rfl) ?_
  intro w11 H11; clear H10
  refine s_val (some 55) (.tuple #[uv (rs A 0 PR), .int .i64 0]) (fun w => by kernel_rfl) (by kernel_rfl) ?_
  refine s_val (some 59) (uv (rs A 0 PR)) (fun w => by kernel_rfl) (by kernel_rfl) ?_
  refine s_val (some 60) (.int .i64 0) (fun w => by kernel_rfl) (by kernel_rfl) ?_
  refine s_alloc H11 (some 9) 24 (.agg #[.int .u64 0, .int .u64 0, .int .u64 0, .int .u64 0]) (by kernel_rfl) (by kernel_rfl) (by kernel_rfl) ?_
  intro b5 w12 H12; clear H11
  refine s_store H12 0 [(b5, Obj.cells (Value.cells (uv (rs A 0 PR))) 24 (0, 0)), (b4, Obj.cells (Value.cells (uv (fMul (rt (fMul A A PR)) (rt (fMul A A PR)) PR))) 24 (0, 0)), (b3, Obj.cells (Value.cells (uv (rt (fMul A A PR)))) 24 (0, 0)), (b2, Obj.cells (Value.cells (uv (fMul A A PR))) 24 (0, 0)), (b1, Obj.cells (Value.cells (uv A)) 24 (0, 0))] 24 (.tmp 9) (.tmp 59) b5 0 #[.int .u64 0, .int .u64 0, .int .u64 0, .int .u64 0] (Value.cells (uv (rs A 0 PR))) 24 (uv (rs A 0 PR)) (by kernel_rfl) (by kernel_rfl) (by kernel_rfl) (by kernel_rfl) (by kernel_rfl) (by kernel_rfl) (of_decide_eq_true (by kernel_rfl)) (by kernel_rfl) (by kernel_rfl) ?_
  intro w13 H13; clear H12
  refine s_val (some 10) (.int .i64 0) (fun w => by kernel_rfl) (by kernel_rfl) ?_
  refine s_nil ?_
  refine g_sreg [0, 1, 2, 3, 4, 5, 6, 7] (by kernel_rfl) (by kernel_rfl) ?_
  refine s_load H13 (some 62) 24 (.tmp 1) 4 b1 (Value.cells (uv A)) 24 (0, 0) (by kernel_rfl) (by kernel_rfl) (by kernel_rfl) (by kernel_rfl) (by kernel_rfl) ?_
  refine s_call H13 (some 63) 51 #[uv A] (.tuple #[uv (rt A), .int .i64 0]) (root_fn A hA (root_yes hs)) (fun w => by kernel_rfl) (by kernel_rfl) ?_
  intro w14 H14; clear H13
  refine s_val (some 61) (.tuple #[uv (rt A), .int .i64 0]) (fun w => by kernel_rfl) (by kernel_rfl) ?_
  refine s_val (some 64) (uv (rt A)) (fun w => by kernel_rfl) (by kernel_rfl) ?_
  refine s_val (some 65) (.int .i64 0) (fun w => by kernel_rfl) (by kernel_rfl) ?_
  refine s_alloc H14 (some 11) 24 (.agg #[.int .u64 0, .int .u64 0, .int .u64 0, .int .u64 0]) (by kernel_rfl) (by kernel_rfl) (by kernel_rfl) ?_
  intro b6 w15 H15; clear H14
  refine s_store H15 0 [(b6, Obj.cells (Value.cells (uv (rt A))) 24 (0, 0)), (b5, Obj.cells (Value.cells (uv (rs A 0 PR))) 24 (0, 0)), (b4, Obj.cells (Value.cells (uv (fMul (rt (fMul A A PR)) (rt (fMul A A PR)) PR))) 24 (0, 0)), (b3, Obj.cells (Value.cells (uv (rt (fMul A A PR)))) 24 (0, 0)), (b2, Obj.cells (Value.cells (uv (fMul A A PR))) 24 (0, 0)), (b1, Obj.cells (Value.cells (uv A)) 24 (0, 0))] 24 (.tmp 11) (.tmp 64) b6 0 #[.int .u64 0, .int .u64 0, .int .u64 0, .int .u64 0] (Value.cells (uv (rt A))) 24 (uv (rt A)) (by kernel_rfl) (by kernel_rfl) (by kernel_rfl) (by kernel_rfl) (by kernel_rfl) (by kernel_rfl) (of_decide_eq_true (by kernel_rfl)) (by kernel_rfl) (by kernel_rfl) ?_
  intro w16 H16; clear H15
  refine s_val (some 12) (.int .i64 0) (fun w => by kernel_rfl) (by kernel_rfl) ?_
  refine s_nil ?_
  refine g_sreg [0, 1, 2, 3, 4, 5, 6, 7, 8] (by kernel_rfl) (by kernel_rfl) ?_
  refine s_val (some 67) (.agg #[.int .u64 0, .int .u64 0, .int .u64 0, .int .u64 0]) (fun w => by kernel_rfl) (by kernel_rfl) ?_
  refine s_load H16 (some 68) 24 (.tmp 1) 5 b1 (Value.cells (uv A)) 24 (0, 0) (by kernel_rfl) (by kernel_rfl) (by kernel_rfl) (by kernel_rfl) (by kernel_rfl) ?_
  refine s_call H16 (some 69) 40 #[.agg #[.int .u64 0, .int .u64 0, .int .u64 0, .int .u64 0], uv A, .int .i64 0] (.tuple #[uv (fSub 0 A PR), .int .i64 0]) (fsub0_fn 0 A (by unfold big; omega) hA) (fun w => by kernel_rfl) (by kernel_rfl) ?_
  intro w17 H17; clear H16
  refine s_val (some 66) (.tuple #[uv (fSub 0 A PR), .int .i64 0]) (fun w => by kernel_rfl) (by kernel_rfl) ?_
  refine s_val (some 70) (uv (fSub 0 A PR)) (fun w => by kernel_rfl) (by kernel_rfl) ?_
  refine s_val (some 71) (.int .i64 0) (fun w => by kernel_rfl) (by kernel_rfl) ?_
  refine s_alloc H17 (some 13) 24 (.agg #[.int .u64 0, .int .u64 0, .int .u64 0, .int .u64 0]) (by kernel_rfl) (by kernel_rfl) (by kernel_rfl) ?_
  intro b7 w18 H18; clear H17
  refine s_store H18 0 [(b7, Obj.cells (Value.cells (uv (fSub 0 A PR))) 24 (0, 0)), (b6, Obj.cells (Value.cells (uv (rt A))) 24 (0, 0)), (b5, Obj.cells (Value.cells (uv (rs A 0 PR))) 24 (0, 0)), (b4, Obj.cells (Value.cells (uv (fMul (rt (fMul A A PR)) (rt (fMul A A PR)) PR))) 24 (0, 0)), (b3, Obj.cells (Value.cells (uv (rt (fMul A A PR)))) 24 (0, 0)), (b2, Obj.cells (Value.cells (uv (fMul A A PR))) 24 (0, 0)), (b1, Obj.cells (Value.cells (uv A)) 24 (0, 0))] 24 (.tmp 13) (.tmp 70) b7 0 #[.int .u64 0, .int .u64 0, .int .u64 0, .int .u64 0] (Value.cells (uv (fSub 0 A PR))) 24 (uv (fSub 0 A PR)) (by kernel_rfl) (by kernel_rfl) (by kernel_rfl) (by kernel_rfl) (by kernel_rfl) (by kernel_rfl) (of_decide_eq_true (by kernel_rfl)) (by kernel_rfl) (by kernel_rfl) ?_
  intro w19 H19; clear H18
  refine s_val (some 14) (.int .i64 0) (fun w => by kernel_rfl) (by kernel_rfl) ?_
  refine s_nil ?_
  refine g_sreg [0, 1, 2, 3, 4, 5, 6, 7] (by kernel_rfl) (by kernel_rfl) ?_
  refine s_load H19 (some 73) 24 (.tmp 13) 0 b7 (Value.cells (uv (fSub 0 A PR))) 24 (0, 0) (by kernel_rfl) (by kernel_rfl) (by kernel_rfl) (by kernel_rfl) (by kernel_rfl) ?_
  refine s_call H19 (some 74) 51 #[uv (fSub 0 A PR)] (.tuple #[.agg #[.int .u64 0, .int .u64 0, .int .u64 0, .int .u64 0], .int .i64 6]) (rootNo_fn (fSub 0 A PR) (fSub_lt pr_ok) (root_no (turned_nz hz) ((sgn_flip A).1 hs))) (fun w => by kernel_rfl) (by kernel_rfl) ?_
  intro w20 H20; clear H19
  refine s_val (some 72) (.tuple #[.agg #[.int .u64 0, .int .u64 0, .int .u64 0, .int .u64 0], .int .i64 6]) (fun w => by kernel_rfl) (by kernel_rfl) ?_
  refine s_val (some 75) (.agg #[.int .u64 0, .int .u64 0, .int .u64 0, .int .u64 0]) (fun w => by kernel_rfl) (by kernel_rfl) ?_
  refine s_val (some 76) (.int .i64 6) (fun w => by kernel_rfl) (by kernel_rfl) ?_
  refine s_alloc H20 (some 15) 24 (.agg #[.int .u64 0, .int .u64 0, .int .u64 0, .int .u64 0]) (by kernel_rfl) (by kernel_rfl) (by kernel_rfl) ?_
  intro b8 w21 H21; clear H20
  refine s_store H21 0 [(b8, Obj.cells #[.int .u64 0, .int .u64 0, .int .u64 0, .int .u64 0] 24 (0, 0)), (b7, Obj.cells (Value.cells (uv (fSub 0 A PR))) 24 (0, 0)), (b6, Obj.cells (Value.cells (uv (rt A))) 24 (0, 0)), (b5, Obj.cells (Value.cells (uv (rs A 0 PR))) 24 (0, 0)), (b4, Obj.cells (Value.cells (uv (fMul (rt (fMul A A PR)) (rt (fMul A A PR)) PR))) 24 (0, 0)), (b3, Obj.cells (Value.cells (uv (rt (fMul A A PR)))) 24 (0, 0)), (b2, Obj.cells (Value.cells (uv (fMul A A PR))) 24 (0, 0)), (b1, Obj.cells (Value.cells (uv A)) 24 (0, 0))] 24 (.tmp 15) (.tmp 75) b8 0 #[.int .u64 0, .int .u64 0, .int .u64 0, .int .u64 0] #[.int .u64 0, .int .u64 0, .int .u64 0, .int .u64 0] 24 (.agg #[.int .u64 0, .int .u64 0, .int .u64 0, .int .u64 0]) (by kernel_rfl) (by kernel_rfl) (by kernel_rfl) (by kernel_rfl) (by kernel_rfl) (by kernel_rfl) (of_decide_eq_true (by kernel_rfl)) (by kernel_rfl) (by kernel_rfl) ?_
  intro w22 H22; clear H21
  refine s_val (some 16) (.int .i64 6) (fun w => by kernel_rfl) (by kernel_rfl) ?_
  refine s_nil ?_
  refine g_sreg [0, 1, 2, 3, 4, 5, 6, 7, 8, 9, 10, 11, 12, 13, 14, 15, 16, 17, 18, 19, 20, 21, 22, 23, 24, 25, 26, 27, 28, 29] (by kernel_rfl) (by kernel_rfl) ?_
  refine s_call H22 (some 77) 43 #[] (.bool true) alive02_fn (fun w => by kernel_rfl) (by kernel_rfl) ?_
  intro w23 H23; clear H22
  refine s_val (some 78) (.bool true) (fun w => by kernel_rfl) (by kernel_rfl) ?_
  refine s_val (some 79) (.int .i64 0) (fun w => by kernel_rfl) (by kernel_rfl) ?_
  refine s_val (some 80) (.bool true) (fun w => by kernel_rfl) (by kernel_rfl) ?_
  refine s_val (some 81) (.bool true) (fun w => by kernel_rfl) (by kernel_rfl) ?_
  refine s_val (some 82) (.bool true) (fun w => by kernel_rfl) (by kernel_rfl) ?_
  refine s_val (some 83) (.int .i64 0) (fun w => by kernel_rfl) (by kernel_rfl) ?_
  refine s_val (some 84) (.bool true) (fun w => by kernel_rfl) (by kernel_rfl) ?_
  refine s_val (some 85) (.bool true) (fun w => by kernel_rfl) (by kernel_rfl) ?_
  refine s_val (some 86) (.bool true) (fun w => by kernel_rfl) (by kernel_rfl) ?_
  refine s_load H23 (some 87) 24 (.tmp 9) 3 b5 (Value.cells (uv (rs A 0 PR))) 24 (0, 0) (by kernel_rfl) (by kernel_rfl) (by kernel_rfl) (by kernel_rfl) (by kernel_rfl) ?_
  refine s_val (some 88) (.agg #[.int .u64 0, .int .u64 0, .int .u64 0, .int .u64 0]) (fun w => by kernel_rfl) (by kernel_rfl) ?_
  refine s_opE (some 89) _ (.bool (decide ((rs A 0 PR) = 0))) (.bool false) (by kernel_rfl) (fun o w ho => eqU_run (x := (.tmp 87)) (y := (.tmp 88)) (rs A 0 PR) 0 (rs_lt pr_ok) (by unfold big; omega) w ho (by kernel_rfl) (by kernel_rfl)) (by rw [decide_eq_false hz] <;> rfl) (by kernel_rfl) ?_
  refine s_val (some 90) (.bool false) (fun w => by kernel_rfl) (by kernel_rfl) ?_
  refine s_val (some 91) (.int .i64 0) (fun w => by kernel_rfl) (by kernel_rfl) ?_
  refine s_val (some 92) (.bool true) (fun w => by kernel_rfl) (by kernel_rfl) ?_
  refine s_val (some 93) (.int .i64 6) (fun w => by kernel_rfl) (by kernel_rfl) ?_
  refine s_val (some 94) (.bool false) (fun w => by kernel_rfl) (by kernel_rfl) ?_
  refine s_val (some 95) (.bool true) (fun w => by kernel_rfl) (by kernel_rfl) ?_
  refine s_val (some 96) (.bool true) (fun w => by kernel_rfl) (by kernel_rfl) ?_
  refine s_val (some 97) (.bool true) (fun w => by kernel_rfl) (by kernel_rfl) ?_
  refine s_val (some 98) (.bool true) (fun w => by kernel_rfl) (by kernel_rfl) ?_
  refine s_val (some 99) (.int .i64 0) (fun w => by kernel_rfl) (by kernel_rfl) ?_
  refine s_val (some 100) (.bool true) (fun w => by kernel_rfl) (by kernel_rfl) ?_
  refine s_val (some 101) (.bool true) (fun w => by kernel_rfl) (by kernel_rfl) ?_
  refine s_not (some 102) (by kernel_rfl) (by kernel_rfl) ?_
  refine s_not (some 103) (by kernel_rfl) (by kernel_rfl) ?_
  refine s_val (some 104) (.bool true) (fun w => by kernel_rfl) (by kernel_rfl) ?_
  refine s_val (some 105) (.bool true) (fun w => by kernel_rfl) (by kernel_rfl) ?_
  refine s_val (some 2) (.bool true) (fun w => by kernel_rfl) (by kernel_rfl) ?_
  refine s_nil ?_
  refine g_ret (by kernel_rfl) ?_
  show ∃ vs, Res _ _ _ _ vs ∧ _
  refine ⟨[.bool true], (.tmp (.bool true) (by kernel_rfl) .nil), ?_, H23.below⟩
  rfl

set_option maxRecDepth 100000 in
theorem rootsNo (A : Nat) (hA : A < big) (hz : rs A 0 PR ≠ 0) (hs : sgn A = PR - 1) : Fn Try.prog 13 #[uv A] (.bool true) := by
  refine Fn.intro (c := codeOf Try.f13) [.tmp 2] 106 Try.func13 (by kernel_rfl) (by kernel_rfl) (by kernel_rfl) fun w => ?_
  have H0 := St.start w
  refine g_sreg [0, 1] (by kernel_rfl) (by kernel_rfl) ?_
  refine s_box H0 (some 1) 24 (.tmp 0) (uv A) (by kernel_rfl) (by kernel_rfl) (by kernel_rfl) ?_
  intro b1 w1 H1; clear H0
  refine s_val (some 2) (.bool false) (fun w => by kernel_rfl) (by kernel_rfl) ?_
  refine s_nil ?_
  refine g_sreg [0, 1, 2, 3, 4, 5, 6, 7, 8] (by kernel_rfl) (by kernel_rfl) ?_
  refine s_load H1 (some 18) 24 (.tmp 1) 0 b1 (Value.cells (uv A)) 24 (0, 0) (by kernel_rfl) (by kernel_rfl) (by kernel_rfl) (by kernel_rfl) (by kernel_rfl) ?_
  refine s_load H1 (some 19) 24 (.tmp 1) 0 b1 (Value.cells (uv A)) 24 (0, 0) (by kernel_rfl) (by kernel_rfl) (by kernel_rfl) (by kernel_rfl) (by kernel_rfl) ?_
  refine s_call H1 (some 20) 41 #[uv A, uv A, .int .i64 0] (.tuple #[uv (fMul A A PR), .int .i64 0]) (fmul0_fn A A hA hA) (fun w => by kernel_rfl) (by kernel_rfl) ?_
  intro w2 H2; clear H1
  refine s_val (some 17) (.tuple #[uv (fMul A A PR), .int .i64 0]) (fun w => by kernel_rfl) (by kernel_rfl) ?_
  refine s_val (some 21) (uv (fMul A A PR)) (fun w => by kernel_rfl) (by kernel_rfl) ?_
  refine s_val (some 22) (.int .i64 0) (fun w => by kernel_rfl) (by kernel_rfl) ?_
  refine s_alloc H2 (some 3) 24 (.agg #[.int .u64 0, .int .u64 0, .int .u64 0, .int .u64 0]) (by kernel_rfl) (by kernel_rfl) (by kernel_rfl) ?_
  intro b2 w3 H3; clear H2
  refine s_store H3 0 [(b2, Obj.cells (Value.cells (uv (fMul A A PR))) 24 (0, 0)), (b1, Obj.cells (Value.cells (uv A)) 24 (0, 0))] 24 (.tmp 3) (.tmp 21) b2 0 #[.int .u64 0, .int .u64 0, .int .u64 0, .int .u64 0] (Value.cells (uv (fMul A A PR))) 24 (uv (fMul A A PR)) (by kernel_rfl) (by kernel_rfl) (by kernel_rfl) (by kernel_rfl) (by kernel_rfl) (by kernel_rfl) (of_decide_eq_true (by kernel_rfl)) (by kernel_rfl) (by kernel_rfl) ?_
  intro w4 H4; clear H3
  refine s_val (some 4) (.int .i64 0) (fun w => by kernel_rfl) (by kernel_rfl) ?_
  refine s_nil ?_
  refine g_sreg [0, 1, 2, 3, 4, 5, 6, 7] (by kernel_rfl) (by kernel_rfl) ?_
  refine s_load H4 (some 24) 24 (.tmp 3) 0 b2 (Value.cells (uv (fMul A A PR))) 24 (0, 0) (by kernel_rfl) (by kernel_rfl) (by kernel_rfl) (by kernel_rfl) (by kernel_rfl) ?_
  refine s_call H4 (some 25) 51 #[uv (fMul A A PR)] (.tuple #[uv (rt (fMul A A PR)), .int .i64 0]) (root_fn (fMul A A PR) (fMul_lt pr_ok) (root_square A)) (fun w => by kernel_rfl) (by kernel_rfl) ?_
  intro w5 H5; clear H4
  refine s_val (some 23) (.tuple #[uv (rt (fMul A A PR)), .int .i64 0]) (fun w => by kernel_rfl) (by kernel_rfl) ?_
  refine s_val (some 26) (uv (rt (fMul A A PR))) (fun w => by kernel_rfl) (by kernel_rfl) ?_
  refine s_val (some 27) (.int .i64 0) (fun w => by kernel_rfl) (by kernel_rfl) ?_
  refine s_alloc H5 (some 5) 24 (.agg #[.int .u64 0, .int .u64 0, .int .u64 0, .int .u64 0]) (by kernel_rfl) (by kernel_rfl) (by kernel_rfl) ?_
  intro b3 w6 H6; clear H5
  refine s_store H6 0 [(b3, Obj.cells (Value.cells (uv (rt (fMul A A PR)))) 24 (0, 0)), (b2, Obj.cells (Value.cells (uv (fMul A A PR))) 24 (0, 0)), (b1, Obj.cells (Value.cells (uv A)) 24 (0, 0))] 24 (.tmp 5) (.tmp 26) b3 0 #[.int .u64 0, .int .u64 0, .int .u64 0, .int .u64 0] (Value.cells (uv (rt (fMul A A PR)))) 24 (uv (rt (fMul A A PR))) (by kernel_rfl) (by kernel_rfl) (by kernel_rfl) (by kernel_rfl) (by kernel_rfl) (by kernel_rfl) (of_decide_eq_true (by kernel_rfl)) (by kernel_rfl) (by kernel_rfl) ?_
  intro w7 H7; clear H6
  refine s_val (some 6) (.int .i64 0) (fun w => by kernel_rfl) (by kernel_rfl) ?_
  refine s_nil ?_
  refine g_sreg [0, 1, 2, 3, 4, 5, 6, 7, 8] (by kernel_rfl) (by kernel_rfl) ?_
  refine s_load H7 (some 29) 24 (.tmp 5) 0 b3 (Value.cells (uv (rt (fMul A A PR)))) 24 (0, 0) (by kernel_rfl) (by kernel_rfl) (by kernel_rfl) (by kernel_rfl) (by kernel_rfl) ?_
  refine s_load H7 (some 30) 24 (.tmp 5) 0 b3 (Value.cells (uv (rt (fMul A A PR)))) 24 (0, 0) (by kernel_rfl) (by kernel_rfl) (by kernel_rfl) (by kernel_rfl) (by kernel_rfl) ?_
  refine s_call H7 (some 31) 41 #[uv (rt (fMul A A PR)), uv (rt (fMul A A PR)), .int .i64 0] (.tuple #[uv (fMul (rt (fMul A A PR)) (rt (fMul A A PR)) PR), .int .i64 0]) (fmul0_fn (rt (fMul A A PR)) (rt (fMul A A PR)) (rt_lt _) (rt_lt _)) (fun w => by kernel_rfl) (by kernel_rfl) ?_
  intro w8 H8; clear H7
  refine s_val (some 28) (.tuple #[uv (fMul (rt (fMul A A PR)) (rt (fMul A A PR)) PR), .int .i64 0]) (fun w => by kernel_rfl) (by kernel_rfl) ?_
  refine s_val (some 32) (uv (fMul (rt (fMul A A PR)) (rt (fMul A A PR)) PR)) (fun w => by kernel_rfl) (by kernel_rfl) ?_
  refine s_val (some 33) (.int .i64 0) (fun w => by kernel_rfl) (by kernel_rfl) ?_
  refine s_alloc H8 (some 7) 24 (.agg #[.int .u64 0, .int .u64 0, .int .u64 0, .int .u64 0]) (by kernel_rfl) (by kernel_rfl) (by kernel_rfl) ?_
  intro b4 w9 H9; clear H8
  refine s_store H9 0 [(b4, Obj.cells (Value.cells (uv (fMul (rt (fMul A A PR)) (rt (fMul A A PR)) PR))) 24 (0, 0)), (b3, Obj.cells (Value.cells (uv (rt (fMul A A PR)))) 24 (0, 0)), (b2, Obj.cells (Value.cells (uv (fMul A A PR))) 24 (0, 0)), (b1, Obj.cells (Value.cells (uv A)) 24 (0, 0))] 24 (.tmp 7) (.tmp 32) b4 0 #[.int .u64 0, .int .u64 0, .int .u64 0, .int .u64 0] (Value.cells (uv (fMul (rt (fMul A A PR)) (rt (fMul A A PR)) PR))) 24 (uv (fMul (rt (fMul A A PR)) (rt (fMul A A PR)) PR)) (by kernel_rfl) (by kernel_rfl) (by kernel_rfl) (by kernel_rfl) (by kernel_rfl) (by kernel_rfl) (of_decide_eq_true (by kernel_rfl)) (by kernel_rfl) (by kernel_rfl) ?_
  intro w10 H10; clear H9
  refine s_val (some 8) (.int .i64 0) (fun w => by kernel_rfl) (by kernel_rfl) ?_
  refine s_nil ?_
  refine g_seq (by kernel_rfl) ?_
  refine g_sreg [0, 1, 2, 3, 4, 5, 6, 7, 8, 9, 10, 11, 12, 13, 14, 15, 16, 17, 18, 19, 20] (by kernel_rfl) (by kernel_rfl) ?_
  refine s_val (some 34) (.int .i64 0) (fun w => by kernel_rfl) (by kernel_rfl) ?_
  refine s_val (some 35) (.bool false) (fun w => by kernel_rfl) (by kernel_rfl) ?_
  refine s_val (some 36) (.bool false) (fun w => by kernel_rfl) (by kernel_rfl) ?_
  refine s_val (some 37) (.int .i64 0) (fun w => by kernel_rfl) (by kernel_rfl) ?_
  refine s_val (some 38) (.bool false) (fun w => by kernel_rfl) (by kernel_rfl) ?_
  refine s_val (some 39) (.bool false) (fun w => by kernel_rfl) (by kernel_rfl) ?_
  refine s_val (some 40) (.bool false) (fun w => by kernel_rfl) (by kernel_rfl) ?_
  refine s_val (some 41) (.int .i64 0) (fun w => by kernel_rfl) (by kernel_rfl) ?_
  refine s_val (some 42) (.bool false) (fun w => by kernel_rfl) (by kernel_rfl) ?_
  refine s_val (some 43) (.bool false) (fun w => by kernel_rfl) (by kernel_rfl) ?_
  refine s_val (some 44) (.bool false) (fun w => by kernel_rfl) (by kernel_rfl) ?_
  refine s_load H10 (some 45) 24 (.tmp 7) 0 b4 (Value.cells (uv (fMul (rt (fMul A A PR)) (rt (fMul A A PR)) PR))) 24 (0, 0) (by kernel_rfl) (by kernel_rfl) (by kernel_rfl) (by kernel_rfl) (by kernel_rfl) ?_
  refine s_load H10 (some 46) 24 (.tmp 3) 2 b2 (Value.cells (uv (fMul A A PR))) 24 (0, 0) (by kernel_rfl) (by kernel_rfl) (by kernel_rfl) (by kernel_rfl) (by kernel_rfl) ?_
  refine s_opE (some 47) _ (.bool (!decide ((fMul (rt (fMul A A PR)) (rt (fMul A A PR)) PR) = (fMul A A PR)))) (.bool false) (by kernel_rfl) (fun o w ho => neU_run (x := (.tmp 45)) (y := (.tmp 46)) (fMul (rt (fMul A A PR)) (rt (fMul A A PR)) PR) (fMul A A PR) (fMul_lt pr_ok) (fMul_lt pr_ok) w ho (by kernel_rfl) (by kernel_rfl)) (by rw [decide_eq_true (rt_sq A)] <;> rfl) (by kernel_rfl) ?_
  refine s_val (some 48) (.bool false) (fun w => by kernel_rfl) (by kernel_rfl) ?_
  refine s_val (some 49) (.bool false) (fun w => by kernel_rfl) (by kernel_rfl) ?_
  refine s_val (some 50) (.pointer (some ⟨b3, 0, none⟩)) (fun w => by kernel_rfl) (by kernel_rfl) ?_
  refine s_load1 H10 (some 51) 22 (.tmp 50) 1 b3 0 (Value.cells (uv (rt (fMul A A PR)))) 24 (0, 0) (.int .u64 (w0 (rt (fMul A A PR)))) (by kernel_rfl) (by kernel_rfl) (by kernel_rfl) (by kernel_rfl) (by kernel_rfl) (by kernel_rfl) ?_
  refine s_valE (some 52) (.int .u64 (bits .and .u64 (w0 (rt (fMul A A PR))) 1)) (.int .u64 0) (fun w => by kernel_rfl) (int_eq (w0_even (rt_even _))) (by kernel_rfl) ?_
  refine s_val (some 53) (.bool false) (fun w => by kernel_rfl) (by kernel_rfl) ?_
  refine s_val (some 54) (.bool false) (fun w => by kernel_rfl) (by kernel_rfl) ?_
  refine s_nil ?_
  refine g_cond_f (by kernel_rfl) (by kernel_rfl) ?_
  refine g_skip (by kernel_rfl) ?_
  show WP _ _ _ _ _ _
  refine g_sreg [0, 1, 2, 3, 4, 5, 6, 7, 8] (by kernel_rfl) (by kernel_rfl) ?_
  refine s_load H10 (some 56) 24 (.tmp 1) 3 b1 (Value.cells (uv A)) 24 (0, 0) (by kernel_rfl) (by kernel_rfl) (by kernel_rfl) (by kernel_rfl) (by kernel_rfl) ?_
  refine s_val (some 57) (.agg #[.int .u64 0, .int .u64 0, .int .u64 0, .int .u64 0]) (fun w => by kernel_rfl) (by kernel_rfl) ?_
  refine s_call H10 (some 58) 42 #[uv A, .agg #[.int .u64 0, .int .u64 0, .int .u64 0, .int .u64 0], .int .i64 0] (.tuple #[uv (rs A 0 PR), .int .i64 0]) (reduce0_fn A 0 hA (by unfold big; omega)) (fun w => by kernel_rfl) (by kernel_rfl) ?_
  intro w11 H11; clear H10
  refine s_val (some 55) (.tuple #[uv (rs A 0 PR), .int .i64 0]) (fun w => by kernel_rfl) (by kernel_rfl) ?_
  refine s_val (some 59) (uv (rs A 0 PR)) (fun w => by kernel_rfl) (by kernel_rfl) ?_
  refine s_val (some 60) (.int .i64 0) (fun w => by kernel_rfl) (by kernel_rfl) ?_
  refine s_alloc H11 (some 9) 24 (.agg #[.int .u64 0, .int .u64 0, .int .u64 0, .int .u64 0]) (by kernel_rfl) (by kernel_rfl) (by kernel_rfl) ?_
  intro b5 w12 H12; clear H11
  refine s_store H12 0 [(b5, Obj.cells (Value.cells (uv (rs A 0 PR))) 24 (0, 0)), (b4, Obj.cells (Value.cells (uv (fMul (rt (fMul A A PR)) (rt (fMul A A PR)) PR))) 24 (0, 0)), (b3, Obj.cells (Value.cells (uv (rt (fMul A A PR)))) 24 (0, 0)), (b2, Obj.cells (Value.cells (uv (fMul A A PR))) 24 (0, 0)), (b1, Obj.cells (Value.cells (uv A)) 24 (0, 0))] 24 (.tmp 9) (.tmp 59) b5 0 #[.int .u64 0, .int .u64 0, .int .u64 0, .int .u64 0] (Value.cells (uv (rs A 0 PR))) 24 (uv (rs A 0 PR)) (by kernel_rfl) (by kernel_rfl) (by kernel_rfl) (by kernel_rfl) (by kernel_rfl) (by kernel_rfl) (of_decide_eq_true (by kernel_rfl)) (by kernel_rfl) (by kernel_rfl) ?_
  intro w13 H13; clear H12
  refine s_val (some 10) (.int .i64 0) (fun w => by kernel_rfl) (by kernel_rfl) ?_
  refine s_nil ?_
  refine g_sreg [0, 1, 2, 3, 4, 5, 6, 7] (by kernel_rfl) (by kernel_rfl) ?_
  refine s_load H13 (some 62) 24 (.tmp 1) 4 b1 (Value.cells (uv A)) 24 (0, 0) (by kernel_rfl) (by kernel_rfl) (by kernel_rfl) (by kernel_rfl) (by kernel_rfl) ?_
  refine s_call H13 (some 63) 51 #[uv A] (.tuple #[.agg #[.int .u64 0, .int .u64 0, .int .u64 0, .int .u64 0], .int .i64 6]) (rootNo_fn A hA (root_no hz hs)) (fun w => by kernel_rfl) (by kernel_rfl) ?_
  intro w14 H14; clear H13
  refine s_val (some 61) (.tuple #[.agg #[.int .u64 0, .int .u64 0, .int .u64 0, .int .u64 0], .int .i64 6]) (fun w => by kernel_rfl) (by kernel_rfl) ?_
  refine s_val (some 64) (.agg #[.int .u64 0, .int .u64 0, .int .u64 0, .int .u64 0]) (fun w => by kernel_rfl) (by kernel_rfl) ?_
  refine s_val (some 65) (.int .i64 6) (fun w => by kernel_rfl) (by kernel_rfl) ?_
  refine s_alloc H14 (some 11) 24 (.agg #[.int .u64 0, .int .u64 0, .int .u64 0, .int .u64 0]) (by kernel_rfl) (by kernel_rfl) (by kernel_rfl) ?_
  intro b6 w15 H15; clear H14
  refine s_store H15 0 [(b6, Obj.cells #[.int .u64 0, .int .u64 0, .int .u64 0, .int .u64 0] 24 (0, 0)), (b5, Obj.cells (Value.cells (uv (rs A 0 PR))) 24 (0, 0)), (b4, Obj.cells (Value.cells (uv (fMul (rt (fMul A A PR)) (rt (fMul A A PR)) PR))) 24 (0, 0)), (b3, Obj.cells (Value.cells (uv (rt (fMul A A PR)))) 24 (0, 0)), (b2, Obj.cells (Value.cells (uv (fMul A A PR))) 24 (0, 0)), (b1, Obj.cells (Value.cells (uv A)) 24 (0, 0))] 24 (.tmp 11) (.tmp 64) b6 0 #[.int .u64 0, .int .u64 0, .int .u64 0, .int .u64 0] #[.int .u64 0, .int .u64 0, .int .u64 0, .int .u64 0] 24 (.agg #[.int .u64 0, .int .u64 0, .int .u64 0, .int .u64 0]) (by kernel_rfl) (by kernel_rfl) (by kernel_rfl) (by kernel_rfl) (by kernel_rfl) (by kernel_rfl) (of_decide_eq_true (by kernel_rfl)) (by kernel_rfl) (by kernel_rfl) ?_
  intro w16 H16; clear H15
  refine s_val (some 12) (.int .i64 6) (fun w => by kernel_rfl) (by kernel_rfl) ?_
  refine s_nil ?_
  refine g_sreg [0, 1, 2, 3, 4, 5, 6, 7, 8] (by kernel_rfl) (by kernel_rfl) ?_
  refine s_val (some 67) (.agg #[.int .u64 0, .int .u64 0, .int .u64 0, .int .u64 0]) (fun w => by kernel_rfl) (by kernel_rfl) ?_
  refine s_load H16 (some 68) 24 (.tmp 1) 5 b1 (Value.cells (uv A)) 24 (0, 0) (by kernel_rfl) (by kernel_rfl) (by kernel_rfl) (by kernel_rfl) (by kernel_rfl) ?_
  refine s_call H16 (some 69) 40 #[.agg #[.int .u64 0, .int .u64 0, .int .u64 0, .int .u64 0], uv A, .int .i64 0] (.tuple #[uv (fSub 0 A PR), .int .i64 0]) (fsub0_fn 0 A (by unfold big; omega) hA) (fun w => by kernel_rfl) (by kernel_rfl) ?_
  intro w17 H17; clear H16
  refine s_val (some 66) (.tuple #[uv (fSub 0 A PR), .int .i64 0]) (fun w => by kernel_rfl) (by kernel_rfl) ?_
  refine s_val (some 70) (uv (fSub 0 A PR)) (fun w => by kernel_rfl) (by kernel_rfl) ?_
  refine s_val (some 71) (.int .i64 0) (fun w => by kernel_rfl) (by kernel_rfl) ?_
  refine s_alloc H17 (some 13) 24 (.agg #[.int .u64 0, .int .u64 0, .int .u64 0, .int .u64 0]) (by kernel_rfl) (by kernel_rfl) (by kernel_rfl) ?_
  intro b7 w18 H18; clear H17
  refine s_store H18 0 [(b7, Obj.cells (Value.cells (uv (fSub 0 A PR))) 24 (0, 0)), (b6, Obj.cells #[.int .u64 0, .int .u64 0, .int .u64 0, .int .u64 0] 24 (0, 0)), (b5, Obj.cells (Value.cells (uv (rs A 0 PR))) 24 (0, 0)), (b4, Obj.cells (Value.cells (uv (fMul (rt (fMul A A PR)) (rt (fMul A A PR)) PR))) 24 (0, 0)), (b3, Obj.cells (Value.cells (uv (rt (fMul A A PR)))) 24 (0, 0)), (b2, Obj.cells (Value.cells (uv (fMul A A PR))) 24 (0, 0)), (b1, Obj.cells (Value.cells (uv A)) 24 (0, 0))] 24 (.tmp 13) (.tmp 70) b7 0 #[.int .u64 0, .int .u64 0, .int .u64 0, .int .u64 0] (Value.cells (uv (fSub 0 A PR))) 24 (uv (fSub 0 A PR)) (by kernel_rfl) (by kernel_rfl) (by kernel_rfl) (by kernel_rfl) (by kernel_rfl) (by kernel_rfl) (of_decide_eq_true (by kernel_rfl)) (by kernel_rfl) (by kernel_rfl) ?_
  intro w19 H19; clear H18
  refine s_val (some 14) (.int .i64 0) (fun w => by kernel_rfl) (by kernel_rfl) ?_
  refine s_nil ?_
  refine g_sreg [0, 1, 2, 3, 4, 5, 6, 7] (by kernel_rfl) (by kernel_rfl) ?_
  refine s_load H19 (some 73) 24 (.tmp 13) 0 b7 (Value.cells (uv (fSub 0 A PR))) 24 (0, 0) (by kernel_rfl) (by kernel_rfl) (by kernel_rfl) (by kernel_rfl) (by kernel_rfl) ?_
  refine s_call H19 (some 74) 51 #[uv (fSub 0 A PR)] (.tuple #[uv (rt (fSub 0 A PR)), .int .i64 0]) (root_fn (fSub 0 A PR) (fSub_lt pr_ok) (root_yes ((sgn_flip A).2 hs))) (fun w => by kernel_rfl) (by kernel_rfl) ?_
  intro w20 H20; clear H19
  refine s_val (some 72) (.tuple #[uv (rt (fSub 0 A PR)), .int .i64 0]) (fun w => by kernel_rfl) (by kernel_rfl) ?_
  refine s_val (some 75) (uv (rt (fSub 0 A PR))) (fun w => by kernel_rfl) (by kernel_rfl) ?_
  refine s_val (some 76) (.int .i64 0) (fun w => by kernel_rfl) (by kernel_rfl) ?_
  refine s_alloc H20 (some 15) 24 (.agg #[.int .u64 0, .int .u64 0, .int .u64 0, .int .u64 0]) (by kernel_rfl) (by kernel_rfl) (by kernel_rfl) ?_
  intro b8 w21 H21; clear H20
  refine s_store H21 0 [(b8, Obj.cells (Value.cells (uv (rt (fSub 0 A PR)))) 24 (0, 0)), (b7, Obj.cells (Value.cells (uv (fSub 0 A PR))) 24 (0, 0)), (b6, Obj.cells #[.int .u64 0, .int .u64 0, .int .u64 0, .int .u64 0] 24 (0, 0)), (b5, Obj.cells (Value.cells (uv (rs A 0 PR))) 24 (0, 0)), (b4, Obj.cells (Value.cells (uv (fMul (rt (fMul A A PR)) (rt (fMul A A PR)) PR))) 24 (0, 0)), (b3, Obj.cells (Value.cells (uv (rt (fMul A A PR)))) 24 (0, 0)), (b2, Obj.cells (Value.cells (uv (fMul A A PR))) 24 (0, 0)), (b1, Obj.cells (Value.cells (uv A)) 24 (0, 0))] 24 (.tmp 15) (.tmp 75) b8 0 #[.int .u64 0, .int .u64 0, .int .u64 0, .int .u64 0] (Value.cells (uv (rt (fSub 0 A PR)))) 24 (uv (rt (fSub 0 A PR))) (by kernel_rfl) (by kernel_rfl) (by kernel_rfl) (by kernel_rfl) (by kernel_rfl) (by kernel_rfl) (of_decide_eq_true (by kernel_rfl)) (by kernel_rfl) (by kernel_rfl) ?_
  intro w22 H22; clear H21
  refine s_val (some 16) (.int .i64 0) (fun w => by kernel_rfl) (by kernel_rfl) ?_
  refine s_nil ?_
  refine g_sreg [0, 1, 2, 3, 4, 5, 6, 7, 8, 9, 10, 11, 12, 13, 14, 15, 16, 17, 18, 19, 20, 21, 22, 23, 24, 25, 26, 27, 28, 29] (by kernel_rfl) (by kernel_rfl) ?_
  refine s_call H22 (some 77) 43 #[] (.bool true) alive02_fn (fun w => by kernel_rfl) (by kernel_rfl) ?_
  intro w23 H23; clear H22
  refine s_val (some 78) (.bool true) (fun w => by kernel_rfl) (by kernel_rfl) ?_
  refine s_val (some 79) (.int .i64 0) (fun w => by kernel_rfl) (by kernel_rfl) ?_
  refine s_val (some 80) (.bool true) (fun w => by kernel_rfl) (by kernel_rfl) ?_
  refine s_val (some 81) (.bool true) (fun w => by kernel_rfl) (by kernel_rfl) ?_
  refine s_val (some 82) (.bool true) (fun w => by kernel_rfl) (by kernel_rfl) ?_
  refine s_val (some 83) (.int .i64 0) (fun w => by kernel_rfl) (by kernel_rfl) ?_
  refine s_val (some 84) (.bool true) (fun w => by kernel_rfl) (by kernel_rfl) ?_
  refine s_val (some 85) (.bool true) (fun w => by kernel_rfl) (by kernel_rfl) ?_
  refine s_val (some 86) (.bool true) (fun w => by kernel_rfl) (by kernel_rfl) ?_
  refine s_load H23 (some 87) 24 (.tmp 9) 3 b5 (Value.cells (uv (rs A 0 PR))) 24 (0, 0) (by kernel_rfl) (by kernel_rfl) (by kernel_rfl) (by kernel_rfl) (by kernel_rfl) ?_
  refine s_val (some 88) (.agg #[.int .u64 0, .int .u64 0, .int .u64 0, .int .u64 0]) (fun w => by kernel_rfl) (by kernel_rfl) ?_
  refine s_opE (some 89) _ (.bool (decide ((rs A 0 PR) = 0))) (.bool false) (by kernel_rfl) (fun o w ho => eqU_run (x := (.tmp 87)) (y := (.tmp 88)) (rs A 0 PR) 0 (rs_lt pr_ok) (by unfold big; omega) w ho (by kernel_rfl) (by kernel_rfl)) (by rw [decide_eq_false hz] <;> rfl) (by kernel_rfl) ?_
  refine s_val (some 90) (.bool false) (fun w => by kernel_rfl) (by kernel_rfl) ?_
  refine s_val (some 91) (.int .i64 6) (fun w => by kernel_rfl) (by kernel_rfl) ?_
  refine s_val (some 92) (.bool false) (fun w => by kernel_rfl) (by kernel_rfl) ?_
  refine s_val (some 93) (.int .i64 0) (fun w => by kernel_rfl) (by kernel_rfl) ?_
  refine s_val (some 94) (.bool true) (fun w => by kernel_rfl) (by kernel_rfl) ?_
  refine s_val (some 95) (.bool true) (fun w => by kernel_rfl) (by kernel_rfl) ?_
  refine s_val (some 96) (.bool true) (fun w => by kernel_rfl) (by kernel_rfl) ?_
  refine s_val (some 97) (.bool true) (fun w => by kernel_rfl) (by kernel_rfl) ?_
  refine s_val (some 98) (.bool true) (fun w => by kernel_rfl) (by kernel_rfl) ?_
  refine s_val (some 99) (.int .i64 6) (fun w => by kernel_rfl) (by kernel_rfl) ?_
  refine s_val (some 100) (.bool false) (fun w => by kernel_rfl) (by kernel_rfl) ?_
  refine s_val (some 101) (.bool false) (fun w => by kernel_rfl) (by kernel_rfl) ?_
  refine s_val (some 102) (.int .i64 6) (fun w => by kernel_rfl) (by kernel_rfl) ?_
  refine s_val (some 103) (.bool true) (fun w => by kernel_rfl) (by kernel_rfl) ?_
  refine s_val (some 104) (.bool true) (fun w => by kernel_rfl) (by kernel_rfl) ?_
  refine s_val (some 105) (.bool true) (fun w => by kernel_rfl) (by kernel_rfl) ?_
  refine s_val (some 2) (.bool true) (fun w => by kernel_rfl) (by kernel_rfl) ?_
  refine s_nil ?_
  refine g_ret (by kernel_rfl) ?_
  show ∃ vs, Res _ _ _ _ vs ∧ _
  refine ⟨[.bool true], (.tmp (.bool true) (by kernel_rfl) .nil), ?_, H23.below⟩
  rfl

theorem roots_walk (A : Nat) (hA : A < big) (w : World) : Calls Try.prog 13 #[uv A] w fun e w' => e = .returned (.bool true) ∧ Below w.heap.size w w' := by
  by_cases hz : rs A 0 PR = 0
  · exact rootsZero A hA hz w
  · rcases sgn_cases hz with hs | hs
    · exact rootsYes A hA hz hs w
    · exact rootsNo A hA hz hs w

end Go.Proofs.Ytiiichlmmngbbaa
