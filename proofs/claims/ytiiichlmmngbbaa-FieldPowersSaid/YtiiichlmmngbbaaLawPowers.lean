/-
  The law FieldPowers.
-/
import Derived.Test.YtiiichlmmngbbaaLawM
namespace Go.Proofs.Ytiiichlmmngbbaa
open Go Go.RowKit
set_option linter.unusedVariables false
set_option maxRecDepth 100000 in
theorem powers0 (A B C : Nat) (hA : A < big) (hB : B < big) (hC : C < big) (n : Int) (hw : n % 2 = 0) : Fn Try.prog 11 #[uv A, uv B, uv C, .int .i64 n] (.bool true) := by
  refine Fn.intro (c := codeOf Try.f11) [.tmp 8] 149 Try.func11 (by kernel_rfl) (by kernel_rfl) (by kernel_rfl) fun w => ?_
  have H0 := St.start w
  refine g_sreg [0, 1, 2, 3] (by kernel_rfl) (by kernel_rfl) ?_
  refine s_box H0 (some 4) 24 (.tmp 0) (uv A) (by kernel_rfl) (by kernel_rfl) (by kernel_rfl) ?_
  intro b1 w1 H1; clear H0
  refine s_box H1 (some 5) 24 (.tmp 1) (uv B) (by kernel_rfl) (by kernel_rfl) (by kernel_rfl) ?_
  intro b2 w2 H2; clear H1
  refine s_box H2 (some 6) 24 (.tmp 2) (uv C) (by kernel_rfl) (by kernel_rfl) (by kernel_rfl) ?_
  intro b3 w3 H3; clear H2
  refine s_val (some 8) (.bool false) (fun w => by kernel_rfl) (by kernel_rfl) ?_
  refine s_nil ?_
  refine g_sreg [0, 1, 2] (by kernel_rfl) (by kernel_rfl) ?_
  refine s_val (some 28) (.int .i64 n) (fun w => by kernel_rfl) (by kernel_rfl) ?_
  refine s_valE (some 29) (.int .i64 (bits .and .i64 n 1)) (.int .i64 0) (fun w => by kernel_rfl) (int_eq (by rw [i64_and1]; exact hw)) (by kernel_rfl) ?_
  refine s_val (some 3) (.int .i64 0) (fun w => by kernel_rfl) (by kernel_rfl) ?_
  refine s_nil ?_
  refine g_sreg [0, 1, 2, 3, 4, 5, 6, 7, 8] (by kernel_rfl) (by kernel_rfl) ?_
  refine s_load H3 (some 31) 24 (.tmp 5) 1 b2 (Value.cells (uv B)) 24 (0, 0) (by kernel_rfl) (by kernel_rfl) (by kernel_rfl) (by kernel_rfl) (by kernel_rfl) ?_
  refine s_load H3 (some 32) 24 (.tmp 6) 0 b3 (Value.cells (uv C)) 24 (0, 0) (by kernel_rfl) (by kernel_rfl) (by kernel_rfl) (by kernel_rfl) (by kernel_rfl) ?_
  refine s_call H3 (some 33) 16 #[uv B, uv C] (.tuple #[uv (sm B C), .bool (ov B C)]) (add_fn B C hB hC) (fun w => by kernel_rfl) (by kernel_rfl) ?_
  intro w4 H4; clear H3
  cases hov : ov B C
  · skip
    refine s_val (some 30) (.tuple #[uv (sm B C), .bool false]) (fun w => by kernel_rfl) (by kernel_rfl) ?_
    refine s_val (some 34) (uv (sm B C)) (fun w => by kernel_rfl) (by kernel_rfl) ?_
    refine s_val (some 35) (.bool false) (fun w => by kernel_rfl) (by kernel_rfl) ?_
    refine s_alloc H4 (some 9) 24 (.agg #[.int .u64 0, .int .u64 0, .int .u64 0, .int .u64 0]) (by kernel_rfl) (by kernel_rfl) (by kernel_rfl) ?_
    intro b4 w5 H5; clear H4
    refine s_store H5 0 [(b4, Obj.cells (Value.cells (uv (sm B C))) 24 (0, 0)), (b3, Obj.cells (Value.cells (uv C)) 24 (0, 0)), (b2, Obj.cells (Value.cells (uv B)) 24 (0, 0)), (b1, Obj.cells (Value.cells (uv A)) 24 (0, 0))] 24 (.tmp 9) (.tmp 34) b4 0 #[.int .u64 0, .int .u64 0, .int .u64 0, .int .u64 0] (Value.cells (uv (sm B C))) 24 (uv (sm B C)) (by kernel_rfl) (by kernel_rfl) (by kernel_rfl) (by kernel_rfl) (by kernel_rfl) (by kernel_rfl) (of_decide_eq_true (by kernel_rfl)) (by kernel_rfl) (by kernel_rfl) ?_
    intro w6 H6; clear H5
    refine s_val (some 10) (.bool false) (fun w => by kernel_rfl) (by kernel_rfl) ?_
    refine s_nil ?_
    refine g_sreg [0, 1, 2, 3, 4, 5, 6, 7, 8, 9] (by kernel_rfl) (by kernel_rfl) ?_
    refine s_load H6 (some 37) 24 (.tmp 4) 3 b1 (Value.cells (uv A)) 24 (0, 0) (by kernel_rfl) (by kernel_rfl) (by kernel_rfl) (by kernel_rfl) (by kernel_rfl) ?_
    refine s_load H6 (some 38) 24 (.tmp 5) 2 b2 (Value.cells (uv B)) 24 (0, 0) (by kernel_rfl) (by kernel_rfl) (by kernel_rfl) (by kernel_rfl) (by kernel_rfl) ?_
    refine s_val (some 39) (.int .i64 0) (fun w => by kernel_rfl) (by kernel_rfl) ?_
    refine s_call H6 (some 40) 49 #[uv A, uv B, .int .i64 0] (.tuple #[uv (fpw A B PR), .int .i64 0]) (pow0_fn A B hA hB) (fun w => by kernel_rfl) (by kernel_rfl) ?_
    intro w7 H7; clear H6
    refine s_val (some 36) (.tuple #[uv (fpw A B PR), .int .i64 0]) (fun w => by kernel_rfl) (by kernel_rfl) ?_
    refine s_val (some 41) (uv (fpw A B PR)) (fun w => by kernel_rfl) (by kernel_rfl) ?_
    refine s_val (some 42) (.int .i64 0) (fun w => by kernel_rfl) (by kernel_rfl) ?_
    refine s_alloc H7 (some 11) 24 (.agg #[.int .u64 0, .int .u64 0, .int .u64 0, .int .u64 0]) (by kernel_rfl) (by kernel_rfl) (by kernel_rfl) ?_
    intro b5 w8 H8; clear H7
    refine s_store H8 0 [(b5, Obj.cells (Value.cells (uv (fpw A B PR))) 24 (0, 0)), (b4, Obj.cells (Value.cells (uv (sm B C))) 24 (0, 0)), (b3, Obj.cells (Value.cells (uv C)) 24 (0, 0)), (b2, Obj.cells (Value.cells (uv B)) 24 (0, 0)), (b1, Obj.cells (Value.cells (uv A)) 24 (0, 0))] 24 (.tmp 11) (.tmp 41) b5 0 #[.int .u64 0, .int .u64 0, .int .u64 0, .int .u64 0] (Value.cells (uv (fpw A B PR))) 24 (uv (fpw A B PR)) (by kernel_rfl) (by kernel_rfl) (by kernel_rfl) (by kernel_rfl) (by kernel_rfl) (by kernel_rfl) (of_decide_eq_true (by kernel_rfl)) (by kernel_rfl) (by kernel_rfl) ?_
    intro w9 H9; clear H8
    refine s_val (some 12) (.int .i64 0) (fun w => by kernel_rfl) (by kernel_rfl) ?_
    refine s_nil ?_
    refine g_sreg [0, 1, 2, 3, 4, 5, 6, 7, 8, 9] (by kernel_rfl) (by kernel_rfl) ?_
    refine s_load H9 (some 44) 24 (.tmp 4) 4 b1 (Value.cells (uv A)) 24 (0, 0) (by kernel_rfl) (by kernel_rfl) (by kernel_rfl) (by kernel_rfl) (by kernel_rfl) ?_
    refine s_load H9 (some 45) 24 (.tmp 6) 2 b3 (Value.cells (uv C)) 24 (0, 0) (by kernel_rfl) (by kernel_rfl) (by kernel_rfl) (by kernel_rfl) (by kernel_rfl) ?_
    refine s_val (some 46) (.int .i64 0) (fun w => by kernel_rfl) (by kernel_rfl) ?_
    refine s_call H9 (some 47) 49 #[uv A, uv C, .int .i64 0] (.tuple #[uv (fpw A C PR), .int .i64 0]) (pow0_fn A C hA hC) (fun w => by kernel_rfl) (by kernel_rfl) ?_
    intro w10 H10; clear H9
    refine s_val (some 43) (.tuple #[uv (fpw A C PR), .int .i64 0]) (fun w => by kernel_rfl) (by kernel_rfl) ?_
    refine s_val (some 48) (uv (fpw A C PR)) (fun w => by kernel_rfl) (by kernel_rfl) ?_
    refine s_val (some 49) (.int .i64 0) (fun w => by kernel_rfl) (by kernel_rfl) ?_
    refine s_alloc H10 (some 13) 24 (.agg #[.int .u64 0, .int .u64 0, .int .u64 0, .int .u64 0]) (by kernel_rfl) (by kernel_rfl) (by kernel_rfl) ?_
    intro b6 w11 H11; clear H10
    refine s_store H11 0 [(b6, Obj.cells (Value.cells (uv (fpw A C PR))) 24 (0, 0)), (b5, Obj.cells (Value.cells (uv (fpw A B PR))) 24 (0, 0)), (b4, Obj.cells (Value.cells (uv (sm B C))) 24 (0, 0)), (b3, Obj.cells (Value.cells (uv C)) 24 (0, 0)), (b2, Obj.cells (Value.cells (uv B)) 24 (0, 0)), (b1, Obj.cells (Value.cells (uv A)) 24 (0, 0))] 24 (.tmp 13) (.tmp 48) b6 0 #[.int .u64 0, .int .u64 0, .int .u64 0, .int .u64 0] (Value.cells (uv (fpw A C PR))) 24 (uv (fpw A C PR)) (by kernel_rfl) (by kernel_rfl) (by kernel_rfl) (by kernel_rfl) (by kernel_rfl) (by kernel_rfl) (of_decide_eq_true (by kernel_rfl)) (by kernel_rfl) (by kernel_rfl) ?_
    intro w12 H12; clear H11
    refine s_val (some 14) (.int .i64 0) (fun w => by kernel_rfl) (by kernel_rfl) ?_
    refine s_nil ?_
    refine g_sreg [0, 1, 2, 3, 4, 5, 6, 7, 8, 9] (by kernel_rfl) (by kernel_rfl) ?_
    refine s_load H12 (some 51) 24 (.tmp 4) 5 b1 (Value.cells (uv A)) 24 (0, 0) (by kernel_rfl) (by kernel_rfl) (by kernel_rfl) (by kernel_rfl) (by kernel_rfl) ?_
    refine s_load H12 (some 52) 24 (.tmp 9) 2 b4 (Value.cells (uv (sm B C))) 24 (0, 0) (by kernel_rfl) (by kernel_rfl) (by kernel_rfl) (by kernel_rfl) (by kernel_rfl) ?_
    refine s_val (some 53) (.int .i64 0) (fun w => by kernel_rfl) (by kernel_rfl) ?_
    refine s_call H12 (some 54) 49 #[uv A, uv (sm B C), .int .i64 0] (.tuple #[uv (fpw A (sm B C) PR), .int .i64 0]) (pow0_fn A (sm B C) hA (sm_lt _ _)) (fun w => by kernel_rfl) (by kernel_rfl) ?_
    intro w13 H13; clear H12
    refine s_val (some 50) (.tuple #[uv (fpw A (sm B C) PR), .int .i64 0]) (fun w => by kernel_rfl) (by kernel_rfl) ?_
    refine s_val (some 55) (uv (fpw A (sm B C) PR)) (fun w => by kernel_rfl) (by kernel_rfl) ?_
    refine s_val (some 56) (.int .i64 0) (fun w => by kernel_rfl) (by kernel_rfl) ?_
    refine s_alloc H13 (some 15) 24 (.agg #[.int .u64 0, .int .u64 0, .int .u64 0, .int .u64 0]) (by kernel_rfl) (by kernel_rfl) (by kernel_rfl) ?_
    intro b7 w14 H14; clear H13
    refine s_store H14 0 [(b7, Obj.cells (Value.cells (uv (fpw A (sm B C) PR))) 24 (0, 0)), (b6, Obj.cells (Value.cells (uv (fpw A C PR))) 24 (0, 0)), (b5, Obj.cells (Value.cells (uv (fpw A B PR))) 24 (0, 0)), (b4, Obj.cells (Value.cells (uv (sm B C))) 24 (0, 0)), (b3, Obj.cells (Value.cells (uv C)) 24 (0, 0)), (b2, Obj.cells (Value.cells (uv B)) 24 (0, 0)), (b1, Obj.cells (Value.cells (uv A)) 24 (0, 0))] 24 (.tmp 15) (.tmp 55) b7 0 #[.int .u64 0, .int .u64 0, .int .u64 0, .int .u64 0] (Value.cells (uv (fpw A (sm B C) PR))) 24 (uv (fpw A (sm B C) PR)) (by kernel_rfl) (by kernel_rfl) (by kernel_rfl) (by kernel_rfl) (by kernel_rfl) (by kernel_rfl) (of_decide_eq_true (by kernel_rfl)) (by kernel_rfl) (by kernel_rfl) ?_
    intro w15 H15; clear H14
    refine s_val (some 16) (.int .i64 0) (fun w => by kernel_rfl) (by kernel_rfl) ?_
    refine s_nil ?_
    refine g_sreg [0, 1, 2, 3, 4, 5, 6, 7, 8, 9] (by kernel_rfl) (by kernel_rfl) ?_
    refine s_load H15 (some 58) 24 (.tmp 11) 2 b5 (Value.cells (uv (fpw A B PR))) 24 (0, 0) (by kernel_rfl) (by kernel_rfl) (by kernel_rfl) (by kernel_rfl) (by kernel_rfl) ?_
    refine s_load H15 (some 59) 24 (.tmp 13) 1 b6 (Value.cells (uv (fpw A C PR))) 24 (0, 0) (by kernel_rfl) (by kernel_rfl) (by kernel_rfl) (by kernel_rfl) (by kernel_rfl) ?_
    refine s_val (some 60) (.int .i64 0) (fun w => by kernel_rfl) (by kernel_rfl) ?_
    refine s_call H15 (some 61) 41 #[uv (fpw A B PR), uv (fpw A C PR), .int .i64 0] (.tuple #[uv (fMul (fpw A B PR) (fpw A C PR) PR), .int .i64 0]) (fmul0_fn (fpw A B PR) (fpw A C PR) (fpw_lt pr_ok) (fpw_lt pr_ok)) (fun w => by kernel_rfl) (by kernel_rfl) ?_
    intro w16 H16; clear H15
    refine s_val (some 57) (.tuple #[uv (fMul (fpw A B PR) (fpw A C PR) PR), .int .i64 0]) (fun w => by kernel_rfl) (by kernel_rfl) ?_
    refine s_val (some 62) (uv (fMul (fpw A B PR) (fpw A C PR) PR)) (fun w => by kernel_rfl) (by kernel_rfl) ?_
    refine s_val (some 63) (.int .i64 0) (fun w => by kernel_rfl) (by kernel_rfl) ?_
    refine s_alloc H16 (some 17) 24 (.agg #[.int .u64 0, .int .u64 0, .int .u64 0, .int .u64 0]) (by kernel_rfl) (by kernel_rfl) (by kernel_rfl) ?_
    intro b8 w17 H17; clear H16
    refine s_store H17 0 [(b8, Obj.cells (Value.cells (uv (fMul (fpw A B PR) (fpw A C PR) PR))) 24 (0, 0)), (b7, Obj.cells (Value.cells (uv (fpw A (sm B C) PR))) 24 (0, 0)), (b6, Obj.cells (Value.cells (uv (fpw A C PR))) 24 (0, 0)), (b5, Obj.cells (Value.cells (uv (fpw A B PR))) 24 (0, 0)), (b4, Obj.cells (Value.cells (uv (sm B C))) 24 (0, 0)), (b3, Obj.cells (Value.cells (uv C)) 24 (0, 0)), (b2, Obj.cells (Value.cells (uv B)) 24 (0, 0)), (b1, Obj.cells (Value.cells (uv A)) 24 (0, 0))] 24 (.tmp 17) (.tmp 62) b8 0 #[.int .u64 0, .int .u64 0, .int .u64 0, .int .u64 0] (Value.cells (uv (fMul (fpw A B PR) (fpw A C PR) PR))) 24 (uv (fMul (fpw A B PR) (fpw A C PR) PR)) (by kernel_rfl) (by kernel_rfl) (by kernel_rfl) (by kernel_rfl) (by kernel_rfl) (by kernel_rfl) (of_decide_eq_true (by kernel_rfl)) (by kernel_rfl) (by kernel_rfl) ?_
    intro w18 H18; clear H17
    refine s_val (some 18) (.int .i64 0) (fun w => by kernel_rfl) (by kernel_rfl) ?_
    refine s_nil ?_
    refine g_sreg [0, 1, 2, 3, 4, 5, 6, 7, 8, 9] (by kernel_rfl) (by kernel_rfl) ?_
    refine s_load H18 (some 65) 24 (.tmp 4) 7 b1 (Value.cells (uv A)) 24 (0, 0) (by kernel_rfl) (by kernel_rfl) (by kernel_rfl) (by kernel_rfl) (by kernel_rfl) ?_
    refine s_val (some 66) (.agg #[.int .u64 0, .int .u64 0, .int .u64 0, .int .u64 0]) (fun w => by kernel_rfl) (by kernel_rfl) ?_
    refine s_val (some 67) (.int .i64 0) (fun w => by kernel_rfl) (by kernel_rfl) ?_
    refine s_call H18 (some 68) 49 #[uv A, .agg #[.int .u64 0, .int .u64 0, .int .u64 0, .int .u64 0], .int .i64 0] (.tuple #[uv (fpw A 0 PR), .int .i64 0]) (pow0_fn A 0 hA (by unfold big; omega)) (fun w => by kernel_rfl) (by kernel_rfl) ?_
    intro w19 H19; clear H18
    refine s_val (some 64) (.tuple #[uv (fpw A 0 PR), .int .i64 0]) (fun w => by kernel_rfl) (by kernel_rfl) ?_
    refine s_val (some 69) (uv (fpw A 0 PR)) (fun w => by kernel_rfl) (by kernel_rfl) ?_
    refine s_val (some 70) (.int .i64 0) (fun w => by kernel_rfl) (by kernel_rfl) ?_
    refine s_alloc H19 (some 19) 24 (.agg #[.int .u64 0, .int .u64 0, .int .u64 0, .int .u64 0]) (by kernel_rfl) (by kernel_rfl) (by kernel_rfl) ?_
    intro b9 w20 H20; clear H19
    refine s_store H20 0 [(b9, Obj.cells (Value.cells (uv (fpw A 0 PR))) 24 (0, 0)), (b8, Obj.cells (Value.cells (uv (fMul (fpw A B PR) (fpw A C PR) PR))) 24 (0, 0)), (b7, Obj.cells (Value.cells (uv (fpw A (sm B C) PR))) 24 (0, 0)), (b6, Obj.cells (Value.cells (uv (fpw A C PR))) 24 (0, 0)), (b5, Obj.cells (Value.cells (uv (fpw A B PR))) 24 (0, 0)), (b4, Obj.cells (Value.cells (uv (sm B C))) 24 (0, 0)), (b3, Obj.cells (Value.cells (uv C)) 24 (0, 0)), (b2, Obj.cells (Value.cells (uv B)) 24 (0, 0)), (b1, Obj.cells (Value.cells (uv A)) 24 (0, 0))] 24 (.tmp 19) (.tmp 69) b9 0 #[.int .u64 0, .int .u64 0, .int .u64 0, .int .u64 0] (Value.cells (uv (fpw A 0 PR))) 24 (uv (fpw A 0 PR)) (by kernel_rfl) (by kernel_rfl) (by kernel_rfl) (by kernel_rfl) (by kernel_rfl) (by kernel_rfl) (of_decide_eq_true (by kernel_rfl)) (by kernel_rfl) (by kernel_rfl) ?_
    intro w21 H21; clear H20
    refine s_val (some 20) (.int .i64 0) (fun w => by kernel_rfl) (by kernel_rfl) ?_
    refine s_nil ?_
    refine g_sreg [0, 1, 2, 3, 4, 5, 6, 7, 8, 9] (by kernel_rfl) (by kernel_rfl) ?_
    refine s_load H21 (some 72) 24 (.tmp 4) 8 b1 (Value.cells (uv A)) 24 (0, 0) (by kernel_rfl) (by kernel_rfl) (by kernel_rfl) (by kernel_rfl) (by kernel_rfl) ?_
    refine s_val (some 73) (.agg #[.int .u64 1, .int .u64 0, .int .u64 0, .int .u64 0]) (fun w => by kernel_rfl) (by kernel_rfl) ?_
    refine s_val (some 74) (.int .i64 0) (fun w => by kernel_rfl) (by kernel_rfl) ?_
    refine s_call H21 (some 75) 49 #[uv A, .agg #[.int .u64 1, .int .u64 0, .int .u64 0, .int .u64 0], .int .i64 0] (.tuple #[uv (fpw A 1 PR), .int .i64 0]) (pow0_fn A 1 hA (by unfold big; omega)) (fun w => by kernel_rfl) (by kernel_rfl) ?_
    intro w22 H22; clear H21
    refine s_val (some 71) (.tuple #[uv (fpw A 1 PR), .int .i64 0]) (fun w => by kernel_rfl) (by kernel_rfl) ?_
    refine s_val (some 76) (uv (fpw A 1 PR)) (fun w => by kernel_rfl) (by kernel_rfl) ?_
    refine s_val (some 77) (.int .i64 0) (fun w => by kernel_rfl) (by kernel_rfl) ?_
    refine s_alloc H22 (some 21) 24 (.agg #[.int .u64 0, .int .u64 0, .int .u64 0, .int .u64 0]) (by kernel_rfl) (by kernel_rfl) (by kernel_rfl) ?_
    intro b10 w23 H23; clear H22
    refine s_store H23 0 [(b10, Obj.cells (Value.cells (uv (fpw A 1 PR))) 24 (0, 0)), (b9, Obj.cells (Value.cells (uv (fpw A 0 PR))) 24 (0, 0)), (b8, Obj.cells (Value.cells (uv (fMul (fpw A B PR) (fpw A C PR) PR))) 24 (0, 0)), (b7, Obj.cells (Value.cells (uv (fpw A (sm B C) PR))) 24 (0, 0)), (b6, Obj.cells (Value.cells (uv (fpw A C PR))) 24 (0, 0)), (b5, Obj.cells (Value.cells (uv (fpw A B PR))) 24 (0, 0)), (b4, Obj.cells (Value.cells (uv (sm B C))) 24 (0, 0)), (b3, Obj.cells (Value.cells (uv C)) 24 (0, 0)), (b2, Obj.cells (Value.cells (uv B)) 24 (0, 0)), (b1, Obj.cells (Value.cells (uv A)) 24 (0, 0))] 24 (.tmp 21) (.tmp 76) b10 0 #[.int .u64 0, .int .u64 0, .int .u64 0, .int .u64 0] (Value.cells (uv (fpw A 1 PR))) 24 (uv (fpw A 1 PR)) (by kernel_rfl) (by kernel_rfl) (by kernel_rfl) (by kernel_rfl) (by kernel_rfl) (by kernel_rfl) (of_decide_eq_true (by kernel_rfl)) (by kernel_rfl) (by kernel_rfl) ?_
    intro w24 H24; clear H23
    refine s_val (some 22) (.int .i64 0) (fun w => by kernel_rfl) (by kernel_rfl) ?_
    refine s_nil ?_
    refine g_sreg [0, 1, 2, 3, 4, 5, 6, 7, 8, 9] (by kernel_rfl) (by kernel_rfl) ?_
    refine s_load H24 (some 79) 24 (.tmp 4) 9 b1 (Value.cells (uv A)) 24 (0, 0) (by kernel_rfl) (by kernel_rfl) (by kernel_rfl) (by kernel_rfl) (by kernel_rfl) ?_
    refine s_val (some 80) (.agg #[.int .u64 0, .int .u64 0, .int .u64 0, .int .u64 0]) (fun w => by kernel_rfl) (by kernel_rfl) ?_
    refine s_val (some 81) (.int .i64 0) (fun w => by kernel_rfl) (by kernel_rfl) ?_
    refine s_call H24 (some 82) 42 #[uv A, .agg #[.int .u64 0, .int .u64 0, .int .u64 0, .int .u64 0], .int .i64 0] (.tuple #[uv (rs A 0 PR), .int .i64 0]) (reduce0_fn A 0 hA (by unfold big; omega)) (fun w => by kernel_rfl) (by kernel_rfl) ?_
    intro w25 H25; clear H24
    refine s_val (some 78) (.tuple #[uv (rs A 0 PR), .int .i64 0]) (fun w => by kernel_rfl) (by kernel_rfl) ?_
    refine s_val (some 83) (uv (rs A 0 PR)) (fun w => by kernel_rfl) (by kernel_rfl) ?_
    refine s_val (some 84) (.int .i64 0) (fun w => by kernel_rfl) (by kernel_rfl) ?_
    refine s_alloc H25 (some 23) 24 (.agg #[.int .u64 0, .int .u64 0, .int .u64 0, .int .u64 0]) (by kernel_rfl) (by kernel_rfl) (by kernel_rfl) ?_
    intro b11 w26 H26; clear H25
    refine s_store H26 0 [(b11, Obj.cells (Value.cells (uv (rs A 0 PR))) 24 (0, 0)), (b10, Obj.cells (Value.cells (uv (fpw A 1 PR))) 24 (0, 0)), (b9, Obj.cells (Value.cells (uv (fpw A 0 PR))) 24 (0, 0)), (b8, Obj.cells (Value.cells (uv (fMul (fpw A B PR) (fpw A C PR) PR))) 24 (0, 0)), (b7, Obj.cells (Value.cells (uv (fpw A (sm B C) PR))) 24 (0, 0)), (b6, Obj.cells (Value.cells (uv (fpw A C PR))) 24 (0, 0)), (b5, Obj.cells (Value.cells (uv (fpw A B PR))) 24 (0, 0)), (b4, Obj.cells (Value.cells (uv (sm B C))) 24 (0, 0)), (b3, Obj.cells (Value.cells (uv C)) 24 (0, 0)), (b2, Obj.cells (Value.cells (uv B)) 24 (0, 0)), (b1, Obj.cells (Value.cells (uv A)) 24 (0, 0))] 24 (.tmp 23) (.tmp 83) b11 0 #[.int .u64 0, .int .u64 0, .int .u64 0, .int .u64 0] (Value.cells (uv (rs A 0 PR))) 24 (uv (rs A 0 PR)) (by kernel_rfl) (by kernel_rfl) (by kernel_rfl) (by kernel_rfl) (by kernel_rfl) (by kernel_rfl) (of_decide_eq_true (by kernel_rfl)) (by kernel_rfl) (by kernel_rfl) ?_
    intro w27 H27; clear H26
    refine s_val (some 24) (.int .i64 0) (fun w => by kernel_rfl) (by kernel_rfl) ?_
    refine s_nil ?_
    refine g_sreg [0, 1, 2, 3, 4, 5, 6, 7, 8] (by kernel_rfl) (by kernel_rfl) ?_
    refine s_load H27 (some 86) 24 (.tmp 4) 10 b1 (Value.cells (uv A)) 24 (0, 0) (by kernel_rfl) (by kernel_rfl) (by kernel_rfl) (by kernel_rfl) (by kernel_rfl) ?_
    refine s_load H27 (some 87) 24 (.tmp 5) 9 b2 (Value.cells (uv B)) 24 (0, 0) (by kernel_rfl) (by kernel_rfl) (by kernel_rfl) (by kernel_rfl) (by kernel_rfl) ?_
    refine s_call H27 (some 88) 49 #[uv A, uv B, .int .i64 2] (.tuple #[.agg #[.int .u64 0, .int .u64 0, .int .u64 0, .int .u64 0], .int .i64 1]) (powNo_fn A B hA hB 2 (by decide) (by decide)) (fun w => by kernel_rfl) (by kernel_rfl) ?_
    intro w28 H28; clear H27
    refine s_val (some 85) (.tuple #[.agg #[.int .u64 0, .int .u64 0, .int .u64 0, .int .u64 0], .int .i64 1]) (fun w => by kernel_rfl) (by kernel_rfl) ?_
    refine s_val (some 89) (.agg #[.int .u64 0, .int .u64 0, .int .u64 0, .int .u64 0]) (fun w => by kernel_rfl) (by kernel_rfl) ?_
    refine s_val (some 90) (.int .i64 1) (fun w => by kernel_rfl) (by kernel_rfl) ?_
    refine s_alloc H28 (some 25) 24 (.agg #[.int .u64 0, .int .u64 0, .int .u64 0, .int .u64 0]) (by kernel_rfl) (by kernel_rfl) (by kernel_rfl) ?_
    intro b12 w29 H29; clear H28
    refine s_store H29 0 [(b12, Obj.cells #[.int .u64 0, .int .u64 0, .int .u64 0, .int .u64 0] 24 (0, 0)), (b11, Obj.cells (Value.cells (uv (rs A 0 PR))) 24 (0, 0)), (b10, Obj.cells (Value.cells (uv (fpw A 1 PR))) 24 (0, 0)), (b9, Obj.cells (Value.cells (uv (fpw A 0 PR))) 24 (0, 0)), (b8, Obj.cells (Value.cells (uv (fMul (fpw A B PR) (fpw A C PR) PR))) 24 (0, 0)), (b7, Obj.cells (Value.cells (uv (fpw A (sm B C) PR))) 24 (0, 0)), (b6, Obj.cells (Value.cells (uv (fpw A C PR))) 24 (0, 0)), (b5, Obj.cells (Value.cells (uv (fpw A B PR))) 24 (0, 0)), (b4, Obj.cells (Value.cells (uv (sm B C))) 24 (0, 0)), (b3, Obj.cells (Value.cells (uv C)) 24 (0, 0)), (b2, Obj.cells (Value.cells (uv B)) 24 (0, 0)), (b1, Obj.cells (Value.cells (uv A)) 24 (0, 0))] 24 (.tmp 25) (.tmp 89) b12 0 #[.int .u64 0, .int .u64 0, .int .u64 0, .int .u64 0] #[.int .u64 0, .int .u64 0, .int .u64 0, .int .u64 0] 24 (.agg #[.int .u64 0, .int .u64 0, .int .u64 0, .int .u64 0]) (by kernel_rfl) (by kernel_rfl) (by kernel_rfl) (by kernel_rfl) (by kernel_rfl) (by kernel_rfl) (of_decide_eq_true (by kernel_rfl)) (by kernel_rfl) (by kernel_rfl) ?_
    intro w30 H30; clear H29
    refine s_val (some 26) (.int .i64 1) (fun w => by kernel_rfl) (by kernel_rfl) ?_
    refine s_nil ?_
    refine g_sreg [0, 1, 2, 3, 4, 5, 6, 7, 8, 9, 10, 11, 12, 13, 14, 15, 16, 17, 18, 19, 20, 21, 22, 23, 24, 25, 26, 27, 28, 29, 30, 31, 32] (by kernel_rfl) (by kernel_rfl) ?_
    refine s_val (some 91) (.int .i64 0) (fun w => by kernel_rfl) (by kernel_rfl) ?_
    refine s_val (some 92) (.bool true) (fun w => by kernel_rfl) (by kernel_rfl) ?_
    refine s_val (some 93) (.bool true) (fun w => by kernel_rfl) (by kernel_rfl) ?_
    refine s_val (some 94) (.int .i64 0) (fun w => by kernel_rfl) (by kernel_rfl) ?_
    refine s_val (some 95) (.int .i64 0) (fun w => by kernel_rfl) (by kernel_rfl) ?_
    refine s_val (some 96) (.bool true) (fun w => by kernel_rfl) (by kernel_rfl) ?_
    refine s_val (some 97) (.bool true) (fun w => by kernel_rfl) (by kernel_rfl) ?_
    refine s_val (some 98) (.bool true) (fun w => by kernel_rfl) (by kernel_rfl) ?_
    refine s_val (some 99) (.int .i64 0) (fun w => by kernel_rfl) (by kernel_rfl) ?_
    refine s_val (some 100) (.int .i64 0) (fun w => by kernel_rfl) (by kernel_rfl) ?_
    refine s_val (some 101) (.bool true) (fun w => by kernel_rfl) (by kernel_rfl) ?_
    refine s_val (some 102) (.bool true) (fun w => by kernel_rfl) (by kernel_rfl) ?_
    refine s_val (some 103) (.bool true) (fun w => by kernel_rfl) (by kernel_rfl) ?_
    refine s_val (some 104) (.int .i64 0) (fun w => by kernel_rfl) (by kernel_rfl) ?_
    refine s_val (some 105) (.int .i64 0) (fun w => by kernel_rfl) (by kernel_rfl) ?_
    refine s_val (some 106) (.bool true) (fun w => by kernel_rfl) (by kernel_rfl) ?_
    refine s_val (some 107) (.bool true) (fun w => by kernel_rfl) (by kernel_rfl) ?_
    refine s_val (some 108) (.bool true) (fun w => by kernel_rfl) (by kernel_rfl) ?_
    refine s_val (some 109) (.int .i64 0) (fun w => by kernel_rfl) (by kernel_rfl) ?_
    refine s_val (some 110) (.int .i64 0) (fun w => by kernel_rfl) (by kernel_rfl) ?_
    refine s_val (some 111) (.bool true) (fun w => by kernel_rfl) (by kernel_rfl) ?_
    refine s_val (some 112) (.bool true) (fun w => by kernel_rfl) (by kernel_rfl) ?_
    refine s_val (some 113) (.bool true) (fun w => by kernel_rfl) (by kernel_rfl) ?_
    refine s_val (some 114) (.int .i64 0) (fun w => by kernel_rfl) (by kernel_rfl) ?_
    refine s_val (some 115) (.int .i64 0) (fun w => by kernel_rfl) (by kernel_rfl) ?_
    refine s_val (some 116) (.bool true) (fun w => by kernel_rfl) (by kernel_rfl) ?_
    refine s_val (some 117) (.bool true) (fun w => by kernel_rfl) (by kernel_rfl) ?_
    refine s_val (some 118) (.bool true) (fun w => by kernel_rfl) (by kernel_rfl) ?_
    refine s_val (some 119) (.int .i64 0) (fun w => by kernel_rfl) (by kernel_rfl) ?_
    refine s_val (some 120) (.int .i64 0) (fun w => by kernel_rfl) (by kernel_rfl) ?_
    refine s_val (some 121) (.bool true) (fun w => by kernel_rfl) (by kernel_rfl) ?_
    refine s_val (some 122) (.bool true) (fun w => by kernel_rfl) (by kernel_rfl) ?_
    refine s_val (some 27) (.bool true) (fun w => by kernel_rfl) (by kernel_rfl) ?_
    refine s_nil ?_
    refine g_sreg [0, 1, 2, 3, 4, 5, 6, 7, 8, 9, 10, 11, 12, 13, 14, 15, 16, 17, 18, 19, 20, 21, 22, 23, 24, 25, 26] (by kernel_rfl) (by kernel_rfl) ?_
    refine s_call H30 (some 123) 43 #[] (.bool true) alive02_fn (fun w => by kernel_rfl) (by kernel_rfl) ?_
    intro w31 H31; clear H30
    refine s_val (some 124) (.bool true) (fun w => by kernel_rfl) (by kernel_rfl) ?_
    refine s_val (some 125) (.bool true) (fun w => by kernel_rfl) (by kernel_rfl) ?_
    refine s_val (some 126) (.bool true) (fun w => by kernel_rfl) (by kernel_rfl) ?_
    refine s_val (some 127) (.bool true) (fun w => by kernel_rfl) (by kernel_rfl) ?_
    refine s_val (some 128) (.int .i64 1) (fun w => by kernel_rfl) (by kernel_rfl) ?_
    refine s_val (some 129) (.bool true) (fun w => by kernel_rfl) (by kernel_rfl) ?_
    refine s_val (some 130) (.bool true) (fun w => by kernel_rfl) (by kernel_rfl) ?_
    refine s_val (some 131) (.bool true) (fun w => by kernel_rfl) (by kernel_rfl) ?_
    refine s_val (some 132) (.bool false) (fun w => by kernel_rfl) (by kernel_rfl) ?_
    refine s_val (some 133) (.bool false) (fun w => by kernel_rfl) (by kernel_rfl) ?_
    refine s_load H31 (some 134) 24 (.tmp 15) 5 b7 (Value.cells (uv (fpw A (sm B C) PR))) 24 (0, 0) (by kernel_rfl) (by kernel_rfl) (by kernel_rfl) (by kernel_rfl) (by kernel_rfl) ?_
    refine s_load H31 (some 135) 24 (.tmp 17) 4 b8 (Value.cells (uv (fMul (fpw A B PR) (fpw A C PR) PR))) 24 (0, 0) (by kernel_rfl) (by kernel_rfl) (by kernel_rfl) (by kernel_rfl) (by kernel_rfl) ?_
    refine s_opE (some 136) _ (.bool (decide ((fpw A (sm B C) PR) = (fMul (fpw A B PR) (fpw A C PR) PR)))) (.bool true) (by kernel_rfl) (fun o w ho => eqU_run (x := (.tmp 134)) (y := (.tmp 135)) (fpw A (sm B C) PR) (fMul (fpw A B PR) (fpw A C PR) PR) (fpw_lt pr_ok) (fMul_lt pr_ok) w ho (by kernel_rfl) (by kernel_rfl)) (by rw [decide_eq_true (fpw_sum A B C PR hov)] <;> rfl) (by kernel_rfl) ?_
    refine s_val (some 137) (.bool true) (fun w => by kernel_rfl) (by kernel_rfl) ?_
    refine s_val (some 138) (.bool true) (fun w => by kernel_rfl) (by kernel_rfl) ?_
    refine s_val (some 139) (.bool true) (fun w => by kernel_rfl) (by kernel_rfl) ?_
    refine s_load H31 (some 140) 24 (.tmp 19) 3 b9 (Value.cells (uv (fpw A 0 PR))) 24 (0, 0) (by kernel_rfl) (by kernel_rfl) (by kernel_rfl) (by kernel_rfl) (by kernel_rfl) ?_
    refine s_val (some 141) (.agg #[.int .u64 1, .int .u64 0, .int .u64 0, .int .u64 0]) (fun w => by kernel_rfl) (by kernel_rfl) ?_
    refine s_opE (some 142) _ (.bool (decide ((fpw A 0 PR) = 1))) (.bool true) (by kernel_rfl) (fun o w ho => eqU_run (x := (.tmp 140)) (y := (.tmp 141)) (fpw A 0 PR) 1 (fpw_lt pr_ok) (by unfold big; omega) w ho (by kernel_rfl) (by kernel_rfl)) (by rw [decide_eq_true (fpw_none pr_ok A)] <;> rfl) (by kernel_rfl) ?_
    refine s_val (some 143) (.bool true) (fun w => by kernel_rfl) (by kernel_rfl) ?_
    refine s_val (some 144) (.bool true) (fun w => by kernel_rfl) (by kernel_rfl) ?_
    refine s_load H31 (some 145) 24 (.tmp 21) 2 b10 (Value.cells (uv (fpw A 1 PR))) 24 (0, 0) (by kernel_rfl) (by kernel_rfl) (by kernel_rfl) (by kernel_rfl) (by kernel_rfl) ?_
    refine s_load H31 (some 146) 24 (.tmp 23) 1 b11 (Value.cells (uv (rs A 0 PR))) 24 (0, 0) (by kernel_rfl) (by kernel_rfl) (by kernel_rfl) (by kernel_rfl) (by kernel_rfl) ?_
    refine s_opE (some 147) _ (.bool (decide ((fpw A 1 PR) = (rs A 0 PR)))) (.bool true) (by kernel_rfl) (fun o w ho => eqU_run (x := (.tmp 145)) (y := (.tmp 146)) (fpw A 1 PR) (rs A 0 PR) (fpw_lt pr_ok) (rs_lt pr_ok) w ho (by kernel_rfl) (by kernel_rfl)) (by rw [decide_eq_true (fpw_one A PR)] <;> rfl) (by kernel_rfl) ?_
    refine s_val (some 148) (.bool true) (fun w => by kernel_rfl) (by kernel_rfl) ?_
    refine s_val (some 8) (.bool true) (fun w => by kernel_rfl) (by kernel_rfl) ?_
    refine s_nil ?_
    refine g_ret (by kernel_rfl) ?_
    show ∃ vs, Res _ _ _ _ vs ∧ _
    refine ⟨[.bool true], (.tmp (.bool true) (by kernel_rfl) .nil), ?_, H31.below⟩
    rfl
  · skip
    refine s_val (some 30) (.tuple #[uv (sm B C), .bool true]) (fun w => by kernel_rfl) (by kernel_rfl) ?_
    refine s_val (some 34) (uv (sm B C)) (fun w => by kernel_rfl) (by kernel_rfl) ?_
    refine s_val (some 35) (.bool true) (fun w => by kernel_rfl) (by kernel_rfl) ?_
    refine s_alloc H4 (some 9) 24 (.agg #[.int .u64 0, .int .u64 0, .int .u64 0, .int .u64 0]) (by kernel_rfl) (by kernel_rfl) (by kernel_rfl) ?_
    intro b13 w32 H32; clear H4
    refine s_store H32 0 [(b13, Obj.cells (Value.cells (uv (sm B C))) 24 (0, 0)), (b3, Obj.cells (Value.cells (uv C)) 24 (0, 0)), (b2, Obj.cells (Value.cells (uv B)) 24 (0, 0)), (b1, Obj.cells (Value.cells (uv A)) 24 (0, 0))] 24 (.tmp 9) (.tmp 34) b13 0 #[.int .u64 0, .int .u64 0, .int .u64 0, .int .u64 0] (Value.cells (uv (sm B C))) 24 (uv (sm B C)) (by kernel_rfl) (by kernel_rfl) (by kernel_rfl) (by kernel_rfl) (by kernel_rfl) (by kernel_rfl) (of_decide_eq_true (by kernel_rfl)) (by kernel_rfl) (by kernel_rfl) ?_
    intro w33 H33; clear H32
    refine s_val (some 10) (.bool true) (fun w => by kernel_rfl) (by kernel_rfl) ?_
    refine s_nil ?_
    refine g_sreg [0, 1, 2, 3, 4, 5, 6, 7, 8, 9] (by kernel_rfl) (by kernel_rfl) ?_
    refine s_load H33 (some 37) 24 (.tmp 4) 3 b1 (Value.cells (uv A)) 24 (0, 0) (by kernel_rfl) (by kernel_rfl) (by kernel_rfl) (by kernel_rfl) (by kernel_rfl) ?_
    refine s_load H33 (some 38) 24 (.tmp 5) 2 b2 (Value.cells (uv B)) 24 (0, 0) (by kernel_rfl) (by kernel_rfl) (by kernel_rfl) (by kernel_rfl) (by kernel_rfl) ?_
    refine s_val (some 39) (.int .i64 0) (fun w => by kernel_rfl) (by kernel_rfl) ?_
    refine s_call H33 (some 40) 49 #[uv A, uv B, .int .i64 0] (.tuple #[uv (fpw A B PR), .int .i64 0]) (pow0_fn A B hA hB) (fun w => by kernel_rfl) (by kernel_rfl) ?_
    intro w34 H34; clear H33
    refine s_val (some 36) (.tuple #[uv (fpw A B PR), .int .i64 0]) (fun w => by kernel_rfl) (by kernel_rfl) ?_
    refine s_val (some 41) (uv (fpw A B PR)) (fun w => by kernel_rfl) (by kernel_rfl) ?_
    refine s_val (some 42) (.int .i64 0) (fun w => by kernel_rfl) (by kernel_rfl) ?_
    refine s_alloc H34 (some 11) 24 (.agg #[.int .u64 0, .int .u64 0, .int .u64 0, .int .u64 0]) (by kernel_rfl) (by kernel_rfl) (by kernel_rfl) ?_
    intro b14 w35 H35; clear H34
    refine s_store H35 0 [(b14, Obj.cells (Value.cells (uv (fpw A B PR))) 24 (0, 0)), (b13, Obj.cells (Value.cells (uv (sm B C))) 24 (0, 0)), (b3, Obj.cells (Value.cells (uv C)) 24 (0, 0)), (b2, Obj.cells (Value.cells (uv B)) 24 (0, 0)), (b1, Obj.cells (Value.cells (uv A)) 24 (0, 0))] 24 (.tmp 11) (.tmp 41) b14 0 #[.int .u64 0, .int .u64 0, .int .u64 0, .int .u64 0] (Value.cells (uv (fpw A B PR))) 24 (uv (fpw A B PR)) (by kernel_rfl) (by kernel_rfl) (by kernel_rfl) (by kernel_rfl) (by kernel_rfl) (by kernel_rfl) (of_decide_eq_true (by kernel_rfl)) (by kernel_rfl) (by kernel_rfl) ?_
    intro w36 H36; clear H35
    refine s_val (some 12) (.int .i64 0) (fun w => by kernel_rfl) (by kernel_rfl) ?_
    refine s_nil ?_
    refine g_sreg [0, 1, 2, 3, 4, 5, 6, 7, 8, 9] (by kernel_rfl) (by kernel_rfl) ?_
    refine s_load H36 (some 44) 24 (.tmp 4) 4 b1 (Value.cells (uv A)) 24 (0, 0) (by kernel_rfl) (by kernel_rfl) (by kernel_rfl) (by kernel_rfl) (by kernel_rfl) ?_
    refine s_load H36 (some 45) 24 (.tmp 6) 2 b3 (Value.cells (uv C)) 24 (0, 0) (by kernel_rfl) (by kernel_rfl) (by kernel_rfl) (by kernel_rfl) (by kernel_rfl) ?_
    refine s_val (some 46) (.int .i64 0) (fun w => by kernel_rfl) (by kernel_rfl) ?_
    refine s_call H36 (some 47) 49 #[uv A, uv C, .int .i64 0] (.tuple #[uv (fpw A C PR), .int .i64 0]) (pow0_fn A C hA hC) (fun w => by kernel_rfl) (by kernel_rfl) ?_
    intro w37 H37; clear H36
    refine s_val (some 43) (.tuple #[uv (fpw A C PR), .int .i64 0]) (fun w => by kernel_rfl) (by kernel_rfl) ?_
    refine s_val (some 48) (uv (fpw A C PR)) (fun w => by kernel_rfl) (by kernel_rfl) ?_
    refine s_val (some 49) (.int .i64 0) (fun w => by kernel_rfl) (by kernel_rfl) ?_
    refine s_alloc H37 (some 13) 24 (.agg #[.int .u64 0, .int .u64 0, .int .u64 0, .int .u64 0]) (by kernel_rfl) (by kernel_rfl) (by kernel_rfl) ?_
    intro b15 w38 H38; clear H37
    refine s_store H38 0 [(b15, Obj.cells (Value.cells (uv (fpw A C PR))) 24 (0, 0)), (b14, Obj.cells (Value.cells (uv (fpw A B PR))) 24 (0, 0)), (b13, Obj.cells (Value.cells (uv (sm B C))) 24 (0, 0)), (b3, Obj.cells (Value.cells (uv C)) 24 (0, 0)), (b2, Obj.cells (Value.cells (uv B)) 24 (0, 0)), (b1, Obj.cells (Value.cells (uv A)) 24 (0, 0))] 24 (.tmp 13) (.tmp 48) b15 0 #[.int .u64 0, .int .u64 0, .int .u64 0, .int .u64 0] (Value.cells (uv (fpw A C PR))) 24 (uv (fpw A C PR)) (by kernel_rfl) (by kernel_rfl) (by kernel_rfl) (by kernel_rfl) (by kernel_rfl) (by kernel_rfl) (of_decide_eq_true (by kernel_rfl)) (by kernel_rfl) (by kernel_rfl) ?_
    intro w39 H39; clear H38
    refine s_val (some 14) (.int .i64 0) (fun w => by kernel_rfl) (by kernel_rfl) ?_
    refine s_nil ?_
    refine g_sreg [0, 1, 2, 3, 4, 5, 6, 7, 8, 9] (by kernel_rfl) (by kernel_rfl) ?_
    refine s_load H39 (some 51) 24 (.tmp 4) 5 b1 (Value.cells (uv A)) 24 (0, 0) (by kernel_rfl) (by kernel_rfl) (by kernel_rfl) (by kernel_rfl) (by kernel_rfl) ?_
    refine s_load H39 (some 52) 24 (.tmp 9) 2 b13 (Value.cells (uv (sm B C))) 24 (0, 0) (by kernel_rfl) (by kernel_rfl) (by kernel_rfl) (by kernel_rfl) (by kernel_rfl) ?_
    refine s_val (some 53) (.int .i64 0) (fun w => by kernel_rfl) (by kernel_rfl) ?_
    refine s_call H39 (some 54) 49 #[uv A, uv (sm B C), .int .i64 0] (.tuple #[uv (fpw A (sm B C) PR), .int .i64 0]) (pow0_fn A (sm B C) hA (sm_lt _ _)) (fun w => by kernel_rfl) (by kernel_rfl) ?_
    intro w40 H40; clear H39
    refine s_val (some 50) (.tuple #[uv (fpw A (sm B C) PR), .int .i64 0]) (fun w => by kernel_rfl) (by kernel_rfl) ?_
    refine s_val (some 55) (uv (fpw A (sm B C) PR)) (fun w => by kernel_rfl) (by kernel_rfl) ?_
    refine s_val (some 56) (.int .i64 0) (fun w => by kernel_rfl) (by kernel_rfl) ?_
    refine s_alloc H40 (some 15) 24 (.agg #[.int .u64 0, .int .u64 0, .int .u64 0, .int .u64 0]) (by kernel_rfl) (by kernel_rfl) (by kernel_rfl) ?_
    intro b16 w41 H41; clear H40
    refine s_store H41 0 [(b16, Obj.cells (Value.cells (uv (fpw A (sm B C) PR))) 24 (0, 0)), (b15, Obj.cells (Value.cells (uv (fpw A C PR))) 24 (0, 0)), (b14, Obj.cells (Value.cells (uv (fpw A B PR))) 24 (0, 0)), (b13, Obj.cells (Value.cells (uv (sm B C))) 24 (0, 0)), (b3, Obj.cells (Value.cells (uv C)) 24 (0, 0)), (b2, Obj.cells (Value.cells (uv B)) 24 (0, 0)), (b1, Obj.cells (Value.cells (uv A)) 24 (0, 0))] 24 (.tmp 15) (.tmp 55) b16 0 #[.int .u64 0, .int .u64 0, .int .u64 0, .int .u64 0] (Value.cells (uv (fpw A (sm B C) PR))) 24 (uv (fpw A (sm B C) PR)) (by kernel_rfl) (by kernel_rfl) (by kernel_rfl) (by kernel_rfl) (by kernel_rfl) (by kernel_rfl) (of_decide_eq_true (by kernel_rfl)) (by kernel_rfl) (by kernel_rfl) ?_
    intro w42 H42; clear H41
    refine s_val (some 16) (.int .i64 0) (fun w => by kernel_rfl) (by kernel_rfl) ?_
    refine s_nil ?_
    refine g_sreg [0, 1, 2, 3, 4, 5, 6, 7, 8, 9] (by kernel_rfl) (by kernel_rfl) ?_
    refine s_load H42 (some 58) 24 (.tmp 11) 2 b14 (Value.cells (uv (fpw A B PR))) 24 (0, 0) (by kernel_rfl) (by kernel_rfl) (by kernel_rfl) (by kernel_rfl) (by kernel_rfl) ?_
    refine s_load H42 (some 59) 24 (.tmp 13) 1 b15 (Value.cells (uv (fpw A C PR))) 24 (0, 0) (by kernel_rfl) (by kernel_rfl) (by kernel_rfl) (by kernel_rfl) (by kernel_rfl) ?_
    refine s_val (some 60) (.int .i64 0) (fun w => by kernel_rfl) (by kernel_rfl) ?_
    refine s_call H42 (some 61) 41 #[uv (fpw A B PR), uv (fpw A C PR), .int .i64 0] (.tuple #[uv (fMul (fpw A B PR) (fpw A C PR) PR), .int .i64 0]) (fmul0_fn (fpw A B PR) (fpw A C PR) (fpw_lt pr_ok) (fpw_lt pr_ok)) (fun w => by kernel_rfl) (by kernel_rfl) ?_
    intro w43 H43; clear H42
    refine s_val (some 57) (.tuple #[uv (fMul (fpw A B PR) (fpw A C PR) PR), .int .i64 0]) (fun w => by kernel_rfl) (by kernel_rfl) ?_
    refine s_val (some 62) (uv (fMul (fpw A B PR) (fpw A C PR) PR)) (fun w => by kernel_rfl) (by kernel_rfl) ?_
    refine s_val (some 63) (.int .i64 0) (fun w => by kernel_rfl) (by kernel_rfl) ?_
    refine s_alloc H43 (some 17) 24 (.agg #[.int .u64 0, .int .u64 0, .int .u64 0, .int .u64 0]) (by kernel_rfl) (by kernel_rfl) (by kernel_rfl) ?_
    intro b17 w44 H44; clear H43
    refine s_store H44 0 [(b17, Obj.cells (Value.cells (uv (fMul (fpw A B PR) (fpw A C PR) PR))) 24 (0, 0)), (b16, Obj.cells (Value.cells (uv (fpw A (sm B C) PR))) 24 (0, 0)), (b15, Obj.cells (Value.cells (uv (fpw A C PR))) 24 (0, 0)), (b14, Obj.cells (Value.cells (uv (fpw A B PR))) 24 (0, 0)), (b13, Obj.cells (Value.cells (uv (sm B C))) 24 (0, 0)), (b3, Obj.cells (Value.cells (uv C)) 24 (0, 0)), (b2, Obj.cells (Value.cells (uv B)) 24 (0, 0)), (b1, Obj.cells (Value.cells (uv A)) 24 (0, 0))] 24 (.tmp 17) (.tmp 62) b17 0 #[.int .u64 0, .int .u64 0, .int .u64 0, .int .u64 0] (Value.cells (uv (fMul (fpw A B PR) (fpw A C PR) PR))) 24 (uv (fMul (fpw A B PR) (fpw A C PR) PR)) (by kernel_rfl) (by kernel_rfl) (by kernel_rfl) (by kernel_rfl) (by kernel_rfl) (by kernel_rfl) (of_decide_eq_true (by kernel_rfl)) (by kernel_rfl) (by kernel_rfl) ?_
    intro w45 H45; clear H44
    refine s_val (some 18) (.int .i64 0) (fun w => by kernel_rfl) (by kernel_rfl) ?_
    refine s_nil ?_
    refine g_sreg [0, 1, 2, 3, 4, 5, 6, 7, 8, 9] (by kernel_rfl) (by kernel_rfl) ?_
    refine s_load H45 (some 65) 24 (.tmp 4) 7 b1 (Value.cells (uv A)) 24 (0, 0) (by kernel_rfl) (by kernel_rfl) (by kernel_rfl) (by kernel_rfl) (by kernel_rfl) ?_
    refine s_val (some 66) (.agg #[.int .u64 0, .int .u64 0, .int .u64 0, .int .u64 0]) (fun w => by kernel_rfl) (by kernel_rfl) ?_
    refine s_val (some 67) (.int .i64 0) (fun w => by kernel_rfl) (by kernel_rfl) ?_
    refine s_call H45 (some 68) 49 #[uv A, .agg #[.int .u64 0, .int .u64 0, .int .u64 0, .int .u64 0], .int .i64 0] (.tuple #[uv (fpw A 0 PR), .int .i64 0]) (pow0_fn A 0 hA (by unfold big; omega)) (fun w => by kernel_rfl) (by kernel_rfl) ?_
    intro w46 H46; clear H45
    refine s_val (some 64) (.tuple #[uv (fpw A 0 PR), .int .i64 0]) (fun w => by kernel_rfl) (by kernel_rfl) ?_
    refine s_val (some 69) (uv (fpw A 0 PR)) (fun w => by kernel_rfl) (by kernel_rfl) ?_
    refine s_val (some 70) (.int .i64 0) (fun w => by kernel_rfl) (by kernel_rfl) ?_
    refine s_alloc H46 (some 19) 24 (.agg #[.int .u64 0, .int .u64 0, .int .u64 0, .int .u64 0]) (by kernel_rfl) (by kernel_rfl) (by kernel_rfl) ?_
    intro b18 w47 H47; clear H46
    refine s_store H47 0 [(b18, Obj.cells (Value.cells (uv (fpw A 0 PR))) 24 (0, 0)), (b17, Obj.cells (Value.cells (uv (fMul (fpw A B PR) (fpw A C PR) PR))) 24 (0, 0)), (b16, Obj.cells (Value.cells (uv (fpw A (sm B C) PR))) 24 (0, 0)), (b15, Obj.cells (Value.cells (uv (fpw A C PR))) 24 (0, 0)), (b14, Obj.cells (Value.cells (uv (fpw A B PR))) 24 (0, 0)), (b13, Obj.cells (Value.cells (uv (sm B C))) 24 (0, 0)), (b3, Obj.cells (Value.cells (uv C)) 24 (0, 0)), (b2, Obj.cells (Value.cells (uv B)) 24 (0, 0)), (b1, Obj.cells (Value.cells (uv A)) 24 (0, 0))] 24 (.tmp 19) (.tmp 69) b18 0 #[.int .u64 0, .int .u64 0, .int .u64 0, .int .u64 0] (Value.cells (uv (fpw A 0 PR))) 24 (uv (fpw A 0 PR)) (by kernel_rfl) (by kernel_rfl) (by kernel_rfl) (by kernel_rfl) (by kernel_rfl) (by kernel_rfl) (of_decide_eq_true (by kernel_rfl)) (by kernel_rfl) (by kernel_rfl) ?_
    intro w48 H48; clear H47
    refine s_val (some 20) (.int .i64 0) (fun w => by kernel_rfl) (by kernel_rfl) ?_
    refine s_nil ?_
    refine g_sreg [0, 1, 2, 3, 4, 5, 6, 7, 8, 9] (by kernel_rfl) (by kernel_rfl) ?_
    refine s_load H48 (some 72) 24 (.tmp 4) 8 b1 (Value.cells (uv A)) 24 (0, 0) (by kernel_rfl) (by kernel_rfl) (by kernel_rfl) (by kernel_rfl) (by kernel_rfl) ?_
    refine s_val (some 73) (.agg #[.int .u64 1, .int .u64 0, .int .u64 0, .int .u64 0]) (fun w => by kernel_rfl) (by kernel_rfl) ?_
    refine s_val (some 74) (.int .i64 0) (fun w => by kernel_rfl) (by kernel_rfl) ?_
    refine s_call H48 (some 75) 49 #[uv A, .agg #[.int .u64 1, .int .u64 0, .int .u64 0, .int .u64 0], .int .i64 0] (.tuple #[uv (fpw A 1 PR), .int .i64 0]) (pow0_fn A 1 hA (by unfold big; omega)) (fun w => by kernel_rfl) (by kernel_rfl) ?_
    intro w49 H49; clear H48
    refine s_val (some 71) (.tuple #[uv (fpw A 1 PR), .int .i64 0]) (fun w => by kernel_rfl) (by kernel_rfl) ?_
    refine s_val (some 76) (uv (fpw A 1 PR)) (fun w => by kernel_rfl) (by kernel_rfl) ?_
    refine s_val (some 77) (.int .i64 0) (fun w => by kernel_rfl) (by kernel_rfl) ?_
    refine s_alloc H49 (some 21) 24 (.agg #[.int .u64 0, .int .u64 0, .int .u64 0, .int .u64 0]) (by kernel_rfl) (by kernel_rfl) (by kernel_rfl) ?_
    intro b19 w50 H50; clear H49
    refine s_store H50 0 [(b19, Obj.cells (Value.cells (uv (fpw A 1 PR))) 24 (0, 0)), (b18, Obj.cells (Value.cells (uv (fpw A 0 PR))) 24 (0, 0)), (b17, Obj.cells (Value.cells (uv (fMul (fpw A B PR) (fpw A C PR) PR))) 24 (0, 0)), (b16, Obj.cells (Value.cells (uv (fpw A (sm B C) PR))) 24 (0, 0)), (b15, Obj.cells (Value.cells (uv (fpw A C PR))) 24 (0, 0)), (b14, Obj.cells (Value.cells (uv (fpw A B PR))) 24 (0, 0)), (b13, Obj.cells (Value.cells (uv (sm B C))) 24 (0, 0)), (b3, Obj.cells (Value.cells (uv C)) 24 (0, 0)), (b2, Obj.cells (Value.cells (uv B)) 24 (0, 0)), (b1, Obj.cells (Value.cells (uv A)) 24 (0, 0))] 24 (.tmp 21) (.tmp 76) b19 0 #[.int .u64 0, .int .u64 0, .int .u64 0, .int .u64 0] (Value.cells (uv (fpw A 1 PR))) 24 (uv (fpw A 1 PR)) (by kernel_rfl) (by kernel_rfl) (by kernel_rfl) (by kernel_rfl) (by kernel_rfl) (by kernel_rfl) (of_decide_eq_true (by kernel_rfl)) (by kernel_rfl) (by kernel_rfl) ?_
    intro w51 H51; clear H50
    refine s_val (some 22) (.int .i64 0) (fun w => by kernel_rfl) (by kernel_rfl) ?_
    refine s_nil ?_
    refine g_sreg [0, 1, 2, 3, 4, 5, 6, 7, 8, 9] (by kernel_rfl) (by kernel_rfl) ?_
    refine s_load H51 (some 79) 24 (.tmp 4) 9 b1 (Value.cells (uv A)) 24 (0, 0) (by kernel_rfl) (by kernel_rfl) (by kernel_rfl) (by kernel_rfl) (by kernel_rfl) ?_
    refine s_val (some 80) (.agg #[.int .u64 0, .int .u64 0, .int .u64 0, .int .u64 0]) (fun w => by kernel_rfl) (by kernel_rfl) ?_
    refine s_val (some 81) (.int .i64 0) (fun w => by kernel_rfl) (by kernel_rfl) ?_
    refine s_call H51 (some 82) 42 #[uv A, .agg #[.int .u64 0, .int .u64 0, .int .u64 0, .int .u64 0], .int .i64 0] (.tuple #[uv (rs A 0 PR), .int .i64 0]) (reduce0_fn A 0 hA (by unfold big; omega)) (fun w => by kernel_rfl) (by kernel_rfl) ?_
    intro w52 H52; clear H51
    refine s_val (some 78) (.tuple #[uv (rs A 0 PR), .int .i64 0]) (fun w => by kernel_rfl) (by kernel_rfl) ?_
    refine s_val (some 83) (uv (rs A 0 PR)) (fun w => by kernel_rfl) (by kernel_rfl) ?_
    refine s_val (some 84) (.int .i64 0) (fun w => by kernel_rfl) (by kernel_rfl) ?_
    refine s_alloc H52 (some 23) 24 (.agg #[.int .u64 0, .int .u64 0, .int .u64 0, .int .u64 0]) (by kernel_rfl) (by kernel_rfl) (by kernel_rfl) ?_
    intro b20 w53 H53; clear H52
    refine s_store H53 0 [(b20, Obj.cells (Value.cells (uv (rs A 0 PR))) 24 (0, 0)), (b19, Obj.cells (Value.cells (uv (fpw A 1 PR))) 24 (0, 0)), (b18, Obj.cells (Value.cells (uv (fpw A 0 PR))) 24 (0, 0)), (b17, Obj.cells (Value.cells (uv (fMul (fpw A B PR) (fpw A C PR) PR))) 24 (0, 0)), (b16, Obj.cells (Value.cells (uv (fpw A (sm B C) PR))) 24 (0, 0)), (b15, Obj.cells (Value.cells (uv (fpw A C PR))) 24 (0, 0)), (b14, Obj.cells (Value.cells (uv (fpw A B PR))) 24 (0, 0)), (b13, Obj.cells (Value.cells (uv (sm B C))) 24 (0, 0)), (b3, Obj.cells (Value.cells (uv C)) 24 (0, 0)), (b2, Obj.cells (Value.cells (uv B)) 24 (0, 0)), (b1, Obj.cells (Value.cells (uv A)) 24 (0, 0))] 24 (.tmp 23) (.tmp 83) b20 0 #[.int .u64 0, .int .u64 0, .int .u64 0, .int .u64 0] (Value.cells (uv (rs A 0 PR))) 24 (uv (rs A 0 PR)) (by kernel_rfl) (by kernel_rfl) (by kernel_rfl) (by kernel_rfl) (by kernel_rfl) (by kernel_rfl) (of_decide_eq_true (by kernel_rfl)) (by kernel_rfl) (by kernel_rfl) ?_
    intro w54 H54; clear H53
    refine s_val (some 24) (.int .i64 0) (fun w => by kernel_rfl) (by kernel_rfl) ?_
    refine s_nil ?_
    refine g_sreg [0, 1, 2, 3, 4, 5, 6, 7, 8] (by kernel_rfl) (by kernel_rfl) ?_
    refine s_load H54 (some 86) 24 (.tmp 4) 10 b1 (Value.cells (uv A)) 24 (0, 0) (by kernel_rfl) (by kernel_rfl) (by kernel_rfl) (by kernel_rfl) (by kernel_rfl) ?_
    refine s_load H54 (some 87) 24 (.tmp 5) 9 b2 (Value.cells (uv B)) 24 (0, 0) (by kernel_rfl) (by kernel_rfl) (by kernel_rfl) (by kernel_rfl) (by kernel_rfl) ?_
    refine s_call H54 (some 88) 49 #[uv A, uv B, .int .i64 2] (.tuple #[.agg #[.int .u64 0, .int .u64 0, .int .u64 0, .int .u64 0], .int .i64 1]) (powNo_fn A B hA hB 2 (by decide) (by decide)) (fun w => by kernel_rfl) (by kernel_rfl) ?_
    intro w55 H55; clear H54
    refine s_val (some 85) (.tuple #[.agg #[.int .u64 0, .int .u64 0, .int .u64 0, .int .u64 0], .int .i64 1]) (fun w => by kernel_rfl) (by kernel_rfl) ?_
    refine s_val (some 89) (.agg #[.int .u64 0, .int .u64 0, .int .u64 0, .int .u64 0]) (fun w => by kernel_rfl) (by kernel_rfl) ?_
    refine s_val (some 90) (.int .i64 1) (fun w => by kernel_rfl) (by kernel_rfl) ?_
    refine s_alloc H55 (some 25) 24 (.agg #[.int .u64 0, .int .u64 0, .int .u64 0, .int .u64 0]) (by kernel_rfl) (by kernel_rfl) (by kernel_rfl) ?_
    intro b21 w56 H56; clear H55
    refine s_store H56 0 [(b21, Obj.cells #[.int .u64 0, .int .u64 0, .int .u64 0, .int .u64 0] 24 (0, 0)), (b20, Obj.cells (Value.cells (uv (rs A 0 PR))) 24 (0, 0)), (b19, Obj.cells (Value.cells (uv (fpw A 1 PR))) 24 (0, 0)), (b18, Obj.cells (Value.cells (uv (fpw A 0 PR))) 24 (0, 0)), (b17, Obj.cells (Value.cells (uv (fMul (fpw A B PR) (fpw A C PR) PR))) 24 (0, 0)), (b16, Obj.cells (Value.cells (uv (fpw A (sm B C) PR))) 24 (0, 0)), (b15, Obj.cells (Value.cells (uv (fpw A C PR))) 24 (0, 0)), (b14, Obj.cells (Value.cells (uv (fpw A B PR))) 24 (0, 0)), (b13, Obj.cells (Value.cells (uv (sm B C))) 24 (0, 0)), (b3, Obj.cells (Value.cells (uv C)) 24 (0, 0)), (b2, Obj.cells (Value.cells (uv B)) 24 (0, 0)), (b1, Obj.cells (Value.cells (uv A)) 24 (0, 0))] 24 (.tmp 25) (.tmp 89) b21 0 #[.int .u64 0, .int .u64 0, .int .u64 0, .int .u64 0] #[.int .u64 0, .int .u64 0, .int .u64 0, .int .u64 0] 24 (.agg #[.int .u64 0, .int .u64 0, .int .u64 0, .int .u64 0]) (by kernel_rfl) (by kernel_rfl) (by kernel_rfl) (by kernel_rfl) (by kernel_rfl) (by kernel_rfl) (of_decide_eq_true (by kernel_rfl)) (by kernel_rfl) (by kernel_rfl) ?_
    intro w57 H57; clear H56
    refine s_val (some 26) (.int .i64 1) (fun w => by kernel_rfl) (by kernel_rfl) ?_
    refine s_nil ?_
    refine g_sreg [0, 1, 2, 3, 4, 5, 6, 7, 8, 9, 10, 11, 12, 13, 14, 15, 16, 17, 18, 19, 20, 21, 22, 23, 24, 25, 26, 27, 28, 29, 30, 31, 32] (by kernel_rfl) (by kernel_rfl) ?_
    refine s_val (some 91) (.int .i64 0) (fun w => by kernel_rfl) (by kernel_rfl) ?_
    refine s_val (some 92) (.bool true) (fun w => by kernel_rfl) (by kernel_rfl) ?_
    refine s_val (some 93) (.bool true) (fun w => by kernel_rfl) (by kernel_rfl) ?_
    refine s_val (some 94) (.int .i64 0) (fun w => by kernel_rfl) (by kernel_rfl) ?_
    refine s_val (some 95) (.int .i64 0) (fun w => by kernel_rfl) (by kernel_rfl) ?_
    refine s_val (some 96) (.bool true) (fun w => by kernel_rfl) (by kernel_rfl) ?_
    refine s_val (some 97) (.bool true) (fun w => by kernel_rfl) (by kernel_rfl) ?_
    refine s_val (some 98) (.bool true) (fun w => by kernel_rfl) (by kernel_rfl) ?_
    refine s_val (some 99) (.int .i64 0) (fun w => by kernel_rfl) (by kernel_rfl) ?_
    refine s_val (some 100) (.int .i64 0) (fun w => by kernel_rfl) (by kernel_rfl) ?_
    refine s_val (some 101) (.bool true) (fun w => by kernel_rfl) (by kernel_rfl) ?_
    refine s_val (some 102) (.bool true) (fun w => by kernel_rfl) (by kernel_rfl) ?_
    refine s_val (some 103) (.bool true) (fun w => by kernel_rfl) (by kernel_rfl) ?_
    refine s_val (some 104) (.int .i64 0) (fun w => by kernel_rfl) (by kernel_rfl) ?_
    refine s_val (some 105) (.int .i64 0) (fun w => by kernel_rfl) (by kernel_rfl) ?_
    refine s_val (some 106) (.bool true) (fun w => by kernel_rfl) (by kernel_rfl) ?_
    refine s_val (some 107) (.bool true) (fun w => by kernel_rfl) (by kernel_rfl) ?_
    refine s_val (some 108) (.bool true) (fun w => by kernel_rfl) (by kernel_rfl) ?_
    refine s_val (some 109) (.int .i64 0) (fun w => by kernel_rfl) (by kernel_rfl) ?_
    refine s_val (some 110) (.int .i64 0) (fun w => by kernel_rfl) (by kernel_rfl) ?_
    refine s_val (some 111) (.bool true) (fun w => by kernel_rfl) (by kernel_rfl) ?_
    refine s_val (some 112) (.bool true) (fun w => by kernel_rfl) (by kernel_rfl) ?_
    refine s_val (some 113) (.bool true) (fun w => by kernel_rfl) (by kernel_rfl) ?_
    refine s_val (some 114) (.int .i64 0) (fun w => by kernel_rfl) (by kernel_rfl) ?_
    refine s_val (some 115) (.int .i64 0) (fun w => by kernel_rfl) (by kernel_rfl) ?_
    refine s_val (some 116) (.bool true) (fun w => by kernel_rfl) (by kernel_rfl) ?_
    refine s_val (some 117) (.bool true) (fun w => by kernel_rfl) (by kernel_rfl) ?_
    refine s_val (some 118) (.bool true) (fun w => by kernel_rfl) (by kernel_rfl) ?_
    refine s_val (some 119) (.int .i64 0) (fun w => by kernel_rfl) (by kernel_rfl) ?_
    refine s_val (some 120) (.int .i64 0) (fun w => by kernel_rfl) (by kernel_rfl) ?_
    refine s_val (some 121) (.bool true) (fun w => by kernel_rfl) (by kernel_rfl) ?_
    refine s_val (some 122) (.bool true) (fun w => by kernel_rfl) (by kernel_rfl) ?_
    refine s_val (some 27) (.bool true) (fun w => by kernel_rfl) (by kernel_rfl) ?_
    refine s_nil ?_
    refine g_sreg [0, 1, 2, 3, 4, 5, 6, 7, 8, 9, 10, 11, 12, 13, 14, 15, 16, 17, 18, 19, 20, 21, 22, 23, 24, 25, 26] (by kernel_rfl) (by kernel_rfl) ?_
    refine s_call H57 (some 123) 43 #[] (.bool true) alive02_fn (fun w => by kernel_rfl) (by kernel_rfl) ?_
    intro w58 H58; clear H57
    refine s_val (some 124) (.bool true) (fun w => by kernel_rfl) (by kernel_rfl) ?_
    refine s_val (some 125) (.bool true) (fun w => by kernel_rfl) (by kernel_rfl) ?_
    refine s_val (some 126) (.bool true) (fun w => by kernel_rfl) (by kernel_rfl) ?_
    refine s_val (some 127) (.bool true) (fun w => by kernel_rfl) (by kernel_rfl) ?_
    refine s_val (some 128) (.int .i64 1) (fun w => by kernel_rfl) (by kernel_rfl) ?_
    refine s_val (some 129) (.bool true) (fun w => by kernel_rfl) (by kernel_rfl) ?_
    refine s_val (some 130) (.bool true) (fun w => by kernel_rfl) (by kernel_rfl) ?_
    refine s_val (some 131) (.bool true) (fun w => by kernel_rfl) (by kernel_rfl) ?_
    refine s_val (some 132) (.bool true) (fun w => by kernel_rfl) (by kernel_rfl) ?_
    refine s_val (some 133) (.bool true) (fun w => by kernel_rfl) (by kernel_rfl) ?_
    refine s_not (some 134) (by kernel_rfl) (by kernel_rfl) ?_
    refine s_not (some 135) (by kernel_rfl) (by kernel_rfl) ?_
    refine s_not (some 136) (by kernel_rfl) (by kernel_rfl) ?_
    refine s_val (some 137) (.bool true) (fun w => by kernel_rfl) (by kernel_rfl) ?_
    refine s_val (some 138) (.bool true) (fun w => by kernel_rfl) (by kernel_rfl) ?_
    refine s_val (some 139) (.bool true) (fun w => by kernel_rfl) (by kernel_rfl) ?_
    refine s_load H58 (some 140) 24 (.tmp 19) 3 b18 (Value.cells (uv (fpw A 0 PR))) 24 (0, 0) (by kernel_rfl) (by kernel_rfl) (by kernel_rfl) (by kernel_rfl) (by kernel_rfl) ?_
    refine s_val (some 141) (.agg #[.int .u64 1, .int .u64 0, .int .u64 0, .int .u64 0]) (fun w => by kernel_rfl) (by kernel_rfl) ?_
    refine s_opE (some 142) _ (.bool (decide ((fpw A 0 PR) = 1))) (.bool true) (by kernel_rfl) (fun o w ho => eqU_run (x := (.tmp 140)) (y := (.tmp 141)) (fpw A 0 PR) 1 (fpw_lt pr_ok) (by unfold big; omega) w ho (by kernel_rfl) (by kernel_rfl)) (by rw [decide_eq_true (fpw_none pr_ok A)] <;> rfl) (by kernel_rfl) ?_
    refine s_val (some 143) (.bool true) (fun w => by kernel_rfl) (by kernel_rfl) ?_
    refine s_val (some 144) (.bool true) (fun w => by kernel_rfl) (by kernel_rfl) ?_
    refine s_load H58 (some 145) 24 (.tmp 21) 2 b19 (Value.cells (uv (fpw A 1 PR))) 24 (0, 0) (by kernel_rfl) (by kernel_rfl) (by kernel_rfl) (by kernel_rfl) (by kernel_rfl) ?_
    refine s_load H58 (some 146) 24 (.tmp 23) 1 b20 (Value.cells (uv (rs A 0 PR))) 24 (0, 0) (by kernel_rfl) (by kernel_rfl) (by kernel_rfl) (by kernel_rfl) (by kernel_rfl) ?_
    refine s_opE (some 147) _ (.bool (decide ((fpw A 1 PR) = (rs A 0 PR)))) (.bool true) (by kernel_rfl) (fun o w ho => eqU_run (x := (.tmp 145)) (y := (.tmp 146)) (fpw A 1 PR) (rs A 0 PR) (fpw_lt pr_ok) (rs_lt pr_ok) w ho (by kernel_rfl) (by kernel_rfl)) (by rw [decide_eq_true (fpw_one A PR)] <;> rfl) (by kernel_rfl) ?_
    refine s_val (some 148) (.bool true) (fun w => by kernel_rfl) (by kernel_rfl) ?_
    refine s_val (some 8) (.bool true) (fun w => by kernel_rfl) (by kernel_rfl) ?_
    refine s_nil ?_
    refine g_ret (by kernel_rfl) ?_
    show ∃ vs, Res _ _ _ _ vs ∧ _
    refine ⟨[.bool true], (.tmp (.bool true) (by kernel_rfl) .nil), ?_, H58.below⟩
    rfl

set_option maxRecDepth 100000 in
theorem powers1 (A B C : Nat) (hA : A < big) (hB : B < big) (hC : C < big) (n : Int) (hw : n % 2 = 1) : Fn Try.prog 11 #[uv A, uv B, uv C, .int .i64 n] (.bool true) := by
  refine Fn.intro (c := codeOf Try.f11) [.tmp 8] 149 Try.func11 (by kernel_rfl) (by kernel_rfl) (by kernel_rfl) fun w => ?_
  have H0 := St.start w
  refine g_sreg [0, 1, 2, 3] (by kernel_rfl) (by kernel_rfl) ?_
  refine s_box H0 (some 4) 24 (.tmp 0) (uv A) (by kernel_rfl) (by kernel_rfl) (by kernel_rfl) ?_
  intro b1 w1 H1; clear H0
  refine s_box H1 (some 5) 24 (.tmp 1) (uv B) (by kernel_rfl) (by kernel_rfl) (by kernel_rfl) ?_
  intro b2 w2 H2; clear H1
  refine s_box H2 (some 6) 24 (.tmp 2) (uv C) (by kernel_rfl) (by kernel_rfl) (by kernel_rfl) ?_
  intro b3 w3 H3; clear H2
  refine s_val (some 8) (.bool false) (fun w => by kernel_rfl) (by kernel_rfl) ?_
  refine s_nil ?_
  refine g_sreg [0, 1, 2] (by kernel_rfl) (by kernel_rfl) ?_
  refine s_val (some 28) (.int .i64 n) (fun w => by kernel_rfl) (by kernel_rfl) ?_
  refine s_valE (some 29) (.int .i64 (bits .and .i64 n 1)) (.int .i64 1) (fun w => by kernel_rfl) (int_eq (by rw [i64_and1]; exact hw)) (by kernel_rfl) ?_
  refine s_val (some 3) (.int .i64 1) (fun w => by kernel_rfl) (by kernel_rfl) ?_
  refine s_nil ?_
  refine g_sreg [0, 1, 2, 3, 4, 5, 6, 7, 8] (by kernel_rfl) (by kernel_rfl) ?_
  refine s_load H3 (some 31) 24 (.tmp 5) 1 b2 (Value.cells (uv B)) 24 (0, 0) (by kernel_rfl) (by kernel_rfl) (by kernel_rfl) (by kernel_rfl) (by kernel_rfl) ?_
  refine s_load H3 (some 32) 24 (.tmp 6) 0 b3 (Value.cells (uv C)) 24 (0, 0) (by kernel_rfl) (by kernel_rfl) (by kernel_rfl) (by kernel_rfl) (by kernel_rfl) ?_
  refine s_call H3 (some 33) 16 #[uv B, uv C] (.tuple #[uv (sm B C), .bool (ov B C)]) (add_fn B C hB hC) (fun w => by kernel_rfl) (by kernel_rfl) ?_
  intro w4 H4; clear H3
  cases hov : ov B C
  · skip
    refine s_val (some 30) (.tuple #[uv (sm B C), .bool false]) (fun w => by kernel_rfl) (by kernel_rfl) ?_
    refine s_val (some 34) (uv (sm B C)) (fun w => by kernel_rfl) (by kernel_rfl) ?_
    refine s_val (some 35) (.bool false) (fun w => by kernel_rfl) (by kernel_rfl) ?_
    refine s_alloc H4 (some 9) 24 (.agg #[.int .u64 0, .int .u64 0, .int .u64 0, .int .u64 0]) (by kernel_rfl) (by kernel_rfl) (by kernel_rfl) ?_
    intro b4 w5 H5; clear H4
    refine s_store H5 0 [(b4, Obj.cells (Value.cells (uv (sm B C))) 24 (0, 0)), (b3, Obj.cells (Value.cells (uv C)) 24 (0, 0)), (b2, Obj.cells (Value.cells (uv B)) 24 (0, 0)), (b1, Obj.cells (Value.cells (uv A)) 24 (0, 0))] 24 (.tmp 9) (.tmp 34) b4 0 #[.int .u64 0, .int .u64 0, .int .u64 0, .int .u64 0] (Value.cells (uv (sm B C))) 24 (uv (sm B C)) (by kernel_rfl) (by kernel_rfl) (by kernel_rfl) (by kernel_rfl) (by kernel_rfl) (by kernel_rfl) (of_decide_eq_true (by kernel_rfl)) (by kernel_rfl) (by kernel_rfl) ?_
    intro w6 H6; clear H5
    refine s_val (some 10) (.bool false) (fun w => by kernel_rfl) (by kernel_rfl) ?_
    refine s_nil ?_
    refine g_sreg [0, 1, 2, 3, 4, 5, 6, 7, 8, 9] (by kernel_rfl) (by kernel_rfl) ?_
    refine s_load H6 (some 37) 24 (.tmp 4) 3 b1 (Value.cells (uv A)) 24 (0, 0) (by kernel_rfl) (by kernel_rfl) (by kernel_rfl) (by kernel_rfl) (by kernel_rfl) ?_
    refine s_load H6 (some 38) 24 (.tmp 5) 2 b2 (Value.cells (uv B)) 24 (0, 0) (by kernel_rfl) (by kernel_rfl) (by kernel_rfl) (by kernel_rfl) (by kernel_rfl) ?_
    refine s_val (some 39) (.int .i64 1) (fun w => by kernel_rfl) (by kernel_rfl) ?_
    refine s_call H6 (some 40) 49 #[uv A, uv B, .int .i64 1] (.tuple #[uv (fpw A B NR), .int .i64 0]) (pow1_fn A B hA hB) (fun w => by kernel_rfl) (by kernel_rfl) ?_
    intro w7 H7; clear H6
    refine s_val (some 36) (.tuple #[uv (fpw A B NR), .int .i64 0]) (fun w => by kernel_rfl) (by kernel_rfl) ?_
    refine s_val (some 41) (uv (fpw A B NR)) (fun w => by kernel_rfl) (by kernel_rfl) ?_
    refine s_val (some 42) (.int .i64 0) (fun w => by kernel_rfl) (by kernel_rfl) ?_
    refine s_alloc H7 (some 11) 24 (.agg #[.int .u64 0, .int .u64 0, .int .u64 0, .int .u64 0]) (by kernel_rfl) (by kernel_rfl) (by kernel_rfl) ?_
    intro b5 w8 H8; clear H7
    refine s_store H8 0 [(b5, Obj.cells (Value.cells (uv (fpw A B NR))) 24 (0, 0)), (b4, Obj.cells (Value.cells (uv (sm B C))) 24 (0, 0)), (b3, Obj.cells (Value.cells (uv C)) 24 (0, 0)), (b2, Obj.cells (Value.cells (uv B)) 24 (0, 0)), (b1, Obj.cells (Value.cells (uv A)) 24 (0, 0))] 24 (.tmp 11) (.tmp 41) b5 0 #[.int .u64 0, .int .u64 0, .int .u64 0, .int .u64 0] (Value.cells (uv (fpw A B NR))) 24 (uv (fpw A B NR)) (by kernel_rfl) (by kernel_rfl) (by kernel_rfl) (by kernel_rfl) (by kernel_rfl) (by kernel_rfl) (of_decide_eq_true (by kernel_rfl)) (by kernel_rfl) (by kernel_rfl) ?_
    intro w9 H9; clear H8
    refine s_val (some 12) (.int .i64 0) (fun w => by kernel_rfl) (by kernel_rfl) ?_
    refine s_nil ?_
    refine g_sreg [0, 1, 2, 3, 4, 5, 6, 7, 8, 9] (by kernel_rfl) (by kernel_rfl) ?_
    refine s_load H9 (some 44) 24 (.tmp 4) 4 b1 (Value.cells (uv A)) 24 (0, 0) (by kernel_rfl) (by kernel_rfl) (by kernel_rfl) (by kernel_rfl) (by kernel_rfl) ?_
    refine s_load H9 (some 45) 24 (.tmp 6) 2 b3 (Value.cells (uv C)) 24 (0, 0) (by kernel_rfl) (by kernel_rfl) (by kernel_rfl) (by kernel_rfl) (by kernel_rfl) ?_
    refine s_val (some 46) (.int .i64 1) (fun w => by kernel_rfl) (by kernel_rfl) ?_
    refine s_call H9 (some 47) 49 #[uv A, uv C, .int .i64 1] (.tuple #[uv (fpw A C NR), .int .i64 0]) (pow1_fn A C hA hC) (fun w => by kernel_rfl) (by kernel_rfl) ?_
    intro w10 H10; clear H9
    refine s_val (some 43) (.tuple #[uv (fpw A C NR), .int .i64 0]) (fun w => by kernel_rfl) (by kernel_rfl) ?_
    refine s_val (some 48) (uv (fpw A C NR)) (fun w => by kernel_rfl) (by kernel_rfl) ?_
    refine s_val (some 49) (.int .i64 0) (fun w => by kernel_rfl) (by kernel_rfl) ?_
    refine s_alloc H10 (some 13) 24 (.agg #[.int .u64 0, .int .u64 0, .int .u64 0, .int .u64 0]) (by kernel_rfl) (by kernel_rfl) (by kernel_rfl) ?_
    intro b6 w11 H11; clear H10
    refine s_store H11 0 [(b6, Obj.cells (Value.cells (uv (fpw A C NR))) 24 (0, 0)), (b5, Obj.cells (Value.cells (uv (fpw A B NR))) 24 (0, 0)), (b4, Obj.cells (Value.cells (uv (sm B C))) 24 (0, 0)), (b3, Obj.cells (Value.cells (uv C)) 24 (0, 0)), (b2, Obj.cells (Value.cells (uv B)) 24 (0, 0)), (b1, Obj.cells (Value.cells (uv A)) 24 (0, 0))] 24 (.tmp 13) (.tmp 48) b6 0 #[.int .u64 0, .int .u64 0, .int .u64 0, .int .u64 0] (Value.cells (uv (fpw A C NR))) 24 (uv (fpw A C NR)) (by kernel_rfl) (by kernel_rfl) (by kernel_rfl) (by kernel_rfl) (by kernel_rfl) (by kernel_rfl) (of_decide_eq_true (by kernel_rfl)) (by kernel_rfl) (by kernel_rfl) ?_
    intro w12 H12; clear H11
    refine s_val (some 14) (.int .i64 0) (fun w => by kernel_rfl) (by kernel_rfl) ?_
    refine s_nil ?_
    refine g_sreg [0, 1, 2, 3, 4, 5, 6, 7, 8, 9] (by kernel_rfl) (by kernel_rfl) ?_
    refine s_load H12 (some 51) 24 (.tmp 4) 5 b1 (Value.cells (uv A)) 24 (0, 0) (by kernel_rfl) (by kernel_rfl) (by kernel_rfl) (by kernel_rfl) (by kernel_rfl) ?_
    refine s_load H12 (some 52) 24 (.tmp 9) 2 b4 (Value.cells (uv (sm B C))) 24 (0, 0) (by kernel_rfl) (by kernel_rfl) (by kernel_rfl) (by kernel_rfl) (by kernel_rfl) ?_
    refine s_val (some 53) (.int .i64 1) (fun w => by kernel_rfl) (by kernel_rfl) ?_
    refine s_call H12 (some 54) 49 #[uv A, uv (sm B C), .int .i64 1] (.tuple #[uv (fpw A (sm B C) NR), .int .i64 0]) (pow1_fn A (sm B C) hA (sm_lt _ _)) (fun w => by kernel_rfl) (by kernel_rfl) ?_
    intro w13 H13; clear H12
    refine s_val (some 50) (.tuple #[uv (fpw A (sm B C) NR), .int .i64 0]) (fun w => by kernel_rfl) (by kernel_rfl) ?_
    refine s_val (some 55) (uv (fpw A (sm B C) NR)) (fun w => by kernel_rfl) (by kernel_rfl) ?_
    refine s_val (some 56) (.int .i64 0) (fun w => by kernel_rfl) (by kernel_rfl) ?_
    refine s_alloc H13 (some 15) 24 (.agg #[.int .u64 0, .int .u64 0, .int .u64 0, .int .u64 0]) (by kernel_rfl) (by kernel_rfl) (by kernel_rfl) ?_
    intro b7 w14 H14; clear H13
    refine s_store H14 0 [(b7, Obj.cells (Value.cells (uv (fpw A (sm B C) NR))) 24 (0, 0)), (b6, Obj.cells (Value.cells (uv (fpw A C NR))) 24 (0, 0)), (b5, Obj.cells (Value.cells (uv (fpw A B NR))) 24 (0, 0)), (b4, Obj.cells (Value.cells (uv (sm B C))) 24 (0, 0)), (b3, Obj.cells (Value.cells (uv C)) 24 (0, 0)), (b2, Obj.cells (Value.cells (uv B)) 24 (0, 0)), (b1, Obj.cells (Value.cells (uv A)) 24 (0, 0))] 24 (.tmp 15) (.tmp 55) b7 0 #[.int .u64 0, .int .u64 0, .int .u64 0, .int .u64 0] (Value.cells (uv (fpw A (sm B C) NR))) 24 (uv (fpw A (sm B C) NR)) (by kernel_rfl) (by kernel_rfl) (by kernel_rfl) (by kernel_rfl) (by kernel_rfl) (by kernel_rfl) (of_decide_eq_true (by kernel_rfl)) (by kernel_rfl) (by kernel_rfl) ?_
    intro w15 H15; clear H14
    refine s_val (some 16) (.int .i64 0) (fun w => by kernel_rfl) (by kernel_rfl) ?_
    refine s_nil ?_
    refine g_sreg [0, 1, 2, 3, 4, 5, 6, 7, 8, 9] (by kernel_rfl) (by kernel_rfl) ?_
    refine s_load H15 (some 58) 24 (.tmp 11) 2 b5 (Value.cells (uv (fpw A B NR))) 24 (0, 0) (by kernel_rfl) (by kernel_rfl) (by kernel_rfl) (by kernel_rfl) (by kernel_rfl) ?_
    refine s_load H15 (some 59) 24 (.tmp 13) 1 b6 (Value.cells (uv (fpw A C NR))) 24 (0, 0) (by kernel_rfl) (by kernel_rfl) (by kernel_rfl) (by kernel_rfl) (by kernel_rfl) ?_
    refine s_val (some 60) (.int .i64 1) (fun w => by kernel_rfl) (by kernel_rfl) ?_
    refine s_call H15 (some 61) 41 #[uv (fpw A B NR), uv (fpw A C NR), .int .i64 1] (.tuple #[uv (fMul (fpw A B NR) (fpw A C NR) NR), .int .i64 0]) (fmul1_fn (fpw A B NR) (fpw A C NR) (fpw_lt nr_ok) (fpw_lt nr_ok)) (fun w => by kernel_rfl) (by kernel_rfl) ?_
    intro w16 H16; clear H15
    refine s_val (some 57) (.tuple #[uv (fMul (fpw A B NR) (fpw A C NR) NR), .int .i64 0]) (fun w => by kernel_rfl) (by kernel_rfl) ?_
    refine s_val (some 62) (uv (fMul (fpw A B NR) (fpw A C NR) NR)) (fun w => by kernel_rfl) (by kernel_rfl) ?_
    refine s_val (some 63) (.int .i64 0) (fun w => by kernel_rfl) (by kernel_rfl) ?_
    refine s_alloc H16 (some 17) 24 (.agg #[.int .u64 0, .int .u64 0, .int .u64 0, .int .u64 0]) (by kernel_rfl) (by kernel_rfl) (by kernel_rfl) ?_
    intro b8 w17 H17; clear H16
    refine s_store H17 0 [(b8, Obj.cells (Value.cells (uv (fMul (fpw A B NR) (fpw A C NR) NR))) 24 (0, 0)), (b7, Obj.cells (Value.cells (uv (fpw A (sm B C) NR))) 24 (0, 0)), (b6, Obj.cells (Value.cells (uv (fpw A C NR))) 24 (0, 0)), (b5, Obj.cells (Value.cells (uv (fpw A B NR))) 24 (0, 0)), (b4, Obj.cells (Value.cells (uv (sm B C))) 24 (0, 0)), (b3, Obj.cells (Value.cells (uv C)) 24 (0, 0)), (b2, Obj.cells (Value.cells (uv B)) 24 (0, 0)), (b1, Obj.cells (Value.cells (uv A)) 24 (0, 0))] 24 (.tmp 17) (.tmp 62) b8 0 #[.int .u64 0, .int .u64 0, .int .u64 0, .int .u64 0] (Value.cells (uv (fMul (fpw A B NR) (fpw A C NR) NR))) 24 (uv (fMul (fpw A B NR) (fpw A C NR) NR)) (by kernel_rfl) (by kernel_rfl) (by kernel_rfl) (by kernel_rfl) (by kernel_rfl) (by kernel_rfl) (of_decide_eq_true (by kernel_rfl)) (by kernel_rfl) (by kernel_rfl) ?_
    intro w18 H18; clear H17
    refine s_val (some 18) (.int .i64 0) (fun w => by kernel_rfl) (by kernel_rfl) ?_
    refine s_nil ?_
    refine g_sreg [0, 1, 2, 3, 4, 5, 6, 7, 8, 9] (by kernel_rfl) (by kernel_rfl) ?_
    refine s_load H18 (some 65) 24 (.tmp 4) 7 b1 (Value.cells (uv A)) 24 (0, 0) (by kernel_rfl) (by kernel_rfl) (by kernel_rfl) (by kernel_rfl) (by kernel_rfl) ?_
    refine s_val (some 66) (.agg #[.int .u64 0, .int .u64 0, .int .u64 0, .int .u64 0]) (fun w => by kernel_rfl) (by kernel_rfl) ?_
    refine s_val (some 67) (.int .i64 1) (fun w => by kernel_rfl) (by kernel_rfl) ?_
    refine s_call H18 (some 68) 49 #[uv A, .agg #[.int .u64 0, .int .u64 0, .int .u64 0, .int .u64 0], .int .i64 1] (.tuple #[uv (fpw A 0 NR), .int .i64 0]) (pow1_fn A 0 hA (by unfold big; omega)) (fun w => by kernel_rfl) (by kernel_rfl) ?_
    intro w19 H19; clear H18
    refine s_val (some 64) (.tuple #[uv (fpw A 0 NR), .int .i64 0]) (fun w => by kernel_rfl) (by kernel_rfl) ?_
    refine s_val (some 69) (uv (fpw A 0 NR)) (fun w => by kernel_rfl) (by kernel_rfl) ?_
    refine s_val (some 70) (.int .i64 0) (fun w => by kernel_rfl) (by kernel_rfl) ?_
    refine s_alloc H19 (some 19) 24 (.agg #[.int .u64 0, .int .u64 0, .int .u64 0, .int .u64 0]) (by kernel_rfl) (by kernel_rfl) (by kernel_rfl) ?_
    intro b9 w20 H20; clear H19
    refine s_store H20 0 [(b9, Obj.cells (Value.cells (uv (fpw A 0 NR))) 24 (0, 0)), (b8, Obj.cells (Value.cells (uv (fMul (fpw A B NR) (fpw A C NR) NR))) 24 (0, 0)), (b7, Obj.cells (Value.cells (uv (fpw A (sm B C) NR))) 24 (0, 0)), (b6, Obj.cells (Value.cells (uv (fpw A C NR))) 24 (0, 0)), (b5, Obj.cells (Value.cells (uv (fpw A B NR))) 24 (0, 0)), (b4, Obj.cells (Value.cells (uv (sm B C))) 24 (0, 0)), (b3, Obj.cells (Value.cells (uv C)) 24 (0, 0)), (b2, Obj.cells (Value.cells (uv B)) 24 (0, 0)), (b1, Obj.cells (Value.cells (uv A)) 24 (0, 0))] 24 (.tmp 19) (.tmp 69) b9 0 #[.int .u64 0, .int .u64 0, .int .u64 0, .int .u64 0] (Value.cells (uv (fpw A 0 NR))) 24 (uv (fpw A 0 NR)) (by kernel_rfl) (by kernel_rfl) (by kernel_rfl) (by kernel_rfl) (by kernel_rfl) (by kernel_rfl) (of_decide_eq_true (by kernel_rfl)) (by kernel_rfl) (by kernel_rfl) ?_
    intro w21 H21; clear H20
    refine s_val (some 20) (.int .i64 0) (fun w => by kernel_rfl) (by kernel_rfl) ?_
    refine s_nil ?_
    refine g_sreg [0, 1, 2, 3, 4, 5, 6, 7, 8, 9] (by kernel_rfl) (by kernel_rfl) ?_
    refine s_load H21 (some 72) 24 (.tmp 4) 8 b1 (Value.cells (uv A)) 24 (0, 0) (by kernel_rfl) (by kernel_rfl) (by kernel_rfl) (by kernel_rfl) (by kernel_rfl) ?_
    refine s_val (some 73) (.agg #[.int .u64 1, .int .u64 0, .int .u64 0, .int .u64 0]) (fun w => by kernel_rfl) (by kernel_rfl) ?_
    refine s_val (some 74) (.int .i64 1) (fun w => by kernel_rfl) (by kernel_rfl) ?_
    refine s_call H21 (some 75) 49 #[uv A, .agg #[.int .u64 1, .int .u64 0, .int .u64 0, .int .u64 0], .int .i64 1] (.tuple #[uv (fpw A 1 NR), .int .i64 0]) (pow1_fn A 1 hA (by unfold big; omega)) (fun w => by kernel_rfl) (by kernel_rfl) ?_
    intro w22 H22; clear H21
    refine s_val (some 71) (.tuple #[uv (fpw A 1 NR), .int .i64 0]) (fun w => by kernel_rfl) (by kernel_rfl) ?_
    refine s_val (some 76) (uv (fpw A 1 NR)) (fun w => by kernel_rfl) (by kernel_rfl) ?_
    refine s_val (some 77) (.int .i64 0) (fun w => by kernel_rfl) (by kernel_rfl) ?_
    refine s_alloc H22 (some 21) 24 (.agg #[.int .u64 0, .int .u64 0, .int .u64 0, .int .u64 0]) (by kernel_rfl) (by kernel_rfl) (by kernel_rfl) ?_
    intro b10 w23 H23; clear H22
    refine s_store H23 0 [(b10, Obj.cells (Value.cells (uv (fpw A 1 NR))) 24 (0, 0)), (b9, Obj.cells (Value.cells (uv (fpw A 0 NR))) 24 (0, 0)), (b8, Obj.cells (Value.cells (uv (fMul (fpw A B NR) (fpw A C NR) NR))) 24 (0, 0)), (b7, Obj.cells (Value.cells (uv (fpw A (sm B C) NR))) 24 (0, 0)), (b6, Obj.cells (Value.cells (uv (fpw A C NR))) 24 (0, 0)), (b5, Obj.cells (Value.cells (uv (fpw A B NR))) 24 (0, 0)), (b4, Obj.cells (Value.cells (uv (sm B C))) 24 (0, 0)), (b3, Obj.cells (Value.cells (uv C)) 24 (0, 0)), (b2, Obj.cells (Value.cells (uv B)) 24 (0, 0)), (b1, Obj.cells (Value.cells (uv A)) 24 (0, 0))] 24 (.tmp 21) (.tmp 76) b10 0 #[.int .u64 0, .int .u64 0, .int .u64 0, .int .u64 0] (Value.cells (uv (fpw A 1 NR))) 24 (uv (fpw A 1 NR)) (by kernel_rfl) (by kernel_rfl) (by kernel_rfl) (by kernel_rfl) (by kernel_rfl) (by kernel_rfl) (of_decide_eq_true (by kernel_rfl)) (by kernel_rfl) (by kernel_rfl) ?_
    intro w24 H24; clear H23
    refine s_val (some 22) (.int .i64 0) (fun w => by kernel_rfl) (by kernel_rfl) ?_
    refine s_nil ?_
    refine g_sreg [0, 1, 2, 3, 4, 5, 6, 7, 8, 9] (by kernel_rfl) (by kernel_rfl) ?_
    refine s_load H24 (some 79) 24 (.tmp 4) 9 b1 (Value.cells (uv A)) 24 (0, 0) (by kernel_rfl) (by kernel_rfl) (by kernel_rfl) (by kernel_rfl) (by kernel_rfl) ?_
    refine s_val (some 80) (.agg #[.int .u64 0, .int .u64 0, .int .u64 0, .int .u64 0]) (fun w => by kernel_rfl) (by kernel_rfl) ?_
    refine s_val (some 81) (.int .i64 1) (fun w => by kernel_rfl) (by kernel_rfl) ?_
    refine s_call H24 (some 82) 42 #[uv A, .agg #[.int .u64 0, .int .u64 0, .int .u64 0, .int .u64 0], .int .i64 1] (.tuple #[uv (rs A 0 NR), .int .i64 0]) (reduce1_fn A 0 hA (by unfold big; omega)) (fun w => by kernel_rfl) (by kernel_rfl) ?_
    intro w25 H25; clear H24
    refine s_val (some 78) (.tuple #[uv (rs A 0 NR), .int .i64 0]) (fun w => by kernel_rfl) (by kernel_rfl) ?_
    refine s_val (some 83) (uv (rs A 0 NR)) (fun w => by kernel_rfl) (by kernel_rfl) ?_
    refine s_val (some 84) (.int .i64 0) (fun w => by kernel_rfl) (by kernel_rfl) ?_
    refine s_alloc H25 (some 23) 24 (.agg #[.int .u64 0, .int .u64 0, .int .u64 0, .int .u64 0]) (by kernel_rfl) (by kernel_rfl) (by kernel_rfl) ?_
    intro b11 w26 H26; clear H25
    refine s_store H26 0 [(b11, Obj.cells (Value.cells (uv (rs A 0 NR))) 24 (0, 0)), (b10, Obj.cells (Value.cells (uv (fpw A 1 NR))) 24 (0, 0)), (b9, Obj.cells (Value.cells (uv (fpw A 0 NR))) 24 (0, 0)), (b8, Obj.cells (Value.cells (uv (fMul (fpw A B NR) (fpw A C NR) NR))) 24 (0, 0)), (b7, Obj.cells (Value.cells (uv (fpw A (sm B C) NR))) 24 (0, 0)), (b6, Obj.cells (Value.cells (uv (fpw A C NR))) 24 (0, 0)), (b5, Obj.cells (Value.cells (uv (fpw A B NR))) 24 (0, 0)), (b4, Obj.cells (Value.cells (uv (sm B C))) 24 (0, 0)), (b3, Obj.cells (Value.cells (uv C)) 24 (0, 0)), (b2, Obj.cells (Value.cells (uv B)) 24 (0, 0)), (b1, Obj.cells (Value.cells (uv A)) 24 (0, 0))] 24 (.tmp 23) (.tmp 83) b11 0 #[.int .u64 0, .int .u64 0, .int .u64 0, .int .u64 0] (Value.cells (uv (rs A 0 NR))) 24 (uv (rs A 0 NR)) (by kernel_rfl) (by kernel_rfl) (by kernel_rfl) (by kernel_rfl) (by kernel_rfl) (by kernel_rfl) (of_decide_eq_true (by kernel_rfl)) (by kernel_rfl) (by kernel_rfl) ?_
    intro w27 H27; clear H26
    refine s_val (some 24) (.int .i64 0) (fun w => by kernel_rfl) (by kernel_rfl) ?_
    refine s_nil ?_
    refine g_sreg [0, 1, 2, 3, 4, 5, 6, 7, 8] (by kernel_rfl) (by kernel_rfl) ?_
    refine s_load H27 (some 86) 24 (.tmp 4) 10 b1 (Value.cells (uv A)) 24 (0, 0) (by kernel_rfl) (by kernel_rfl) (by kernel_rfl) (by kernel_rfl) (by kernel_rfl) ?_
    refine s_load H27 (some 87) 24 (.tmp 5) 9 b2 (Value.cells (uv B)) 24 (0, 0) (by kernel_rfl) (by kernel_rfl) (by kernel_rfl) (by kernel_rfl) (by kernel_rfl) ?_
    refine s_call H27 (some 88) 49 #[uv A, uv B, .int .i64 2] (.tuple #[.agg #[.int .u64 0, .int .u64 0, .int .u64 0, .int .u64 0], .int .i64 1]) (powNo_fn A B hA hB 2 (by decide) (by decide)) (fun w => by kernel_rfl) (by kernel_rfl) ?_
    intro w28 H28; clear H27
    refine s_val (some 85) (.tuple #[.agg #[.int .u64 0, .int .u64 0, .int .u64 0, .int .u64 0], .int .i64 1]) (fun w => by kernel_rfl) (by kernel_rfl) ?_
    refine s_val (some 89) (.agg #[.int .u64 0, .int .u64 0, .int .u64 0, .int .u64 0]) (fun w => by kernel_rfl) (by kernel_rfl) ?_
    refine s_val (some 90) (.int .i64 1) (fun w => by kernel_rfl) (by kernel_rfl) ?_
    refine s_alloc H28 (some 25) 24 (.agg #[.int .u64 0, .int .u64 0, .int .u64 0, .int .u64 0]) (by kernel_rfl) (by kernel_rfl) (by kernel_rfl) ?_
    intro b12 w29 H29; clear H28
    refine s_store H29 0 [(b12, Obj.cells #[.int .u64 0, .int .u64 0, .int .u64 0, .int .u64 0] 24 (0, 0)), (b11, Obj.cells (Value.cells (uv (rs A 0 NR))) 24 (0, 0)), (b10, Obj.cells (Value.cells (uv (fpw A 1 NR))) 24 (0, 0)), (b9, Obj.cells (Value.cells (uv (fpw A 0 NR))) 24 (0, 0)), (b8, Obj.cells (Value.cells (uv (fMul (fpw A B NR) (fpw A C NR) NR))) 24 (0, 0)), (b7, Obj.cells (Value.cells (uv (fpw A (sm B C) NR))) 24 (0, 0)), (b6, Obj.cells (Value.cells (uv (fpw A C NR))) 24 (0, 0)), (b5, Obj.cells (Value.cells (uv (fpw A B NR))) 24 (0, 0)), (b4, Obj.cells (Value.cells (uv (sm B C))) 24 (0, 0)), (b3, Obj.cells (Value.cells (uv C)) 24 (0, 0)), (b2, Obj.cells (Value.cells (uv B)) 24 (0, 0)), (b1, Obj.cells (Value.cells (uv A)) 24 (0, 0))] 24 (.tmp 25) (.tmp 89) b12 0 #[.int .u64 0, .int .u64 0, .int .u64 0, .int .u64 0] #[.int .u64 0, .int .u64 0, .int .u64 0, .int .u64 0] 24 (.agg #[.int .u64 0, .int .u64 0, .int .u64 0, .int .u64 0]) (by kernel_rfl) (by kernel_rfl) (by kernel_rfl) (by kernel_rfl) (by kernel_rfl) (by kernel_rfl) (of_decide_eq_true (by kernel_rfl)) (by kernel_rfl) (by kernel_rfl) ?_
    intro w30 H30; clear H29
    refine s_val (some 26) (.int .i64 1) (fun w => by kernel_rfl) (by kernel_rfl) ?_
    refine s_nil ?_
    refine g_sreg [0, 1, 2, 3, 4, 5, 6, 7, 8, 9, 10, 11, 12, 13, 14, 15, 16, 17, 18, 19, 20, 21, 22, 23, 24, 25, 26, 27, 28, 29, 30, 31, 32] (by kernel_rfl) (by kernel_rfl) ?_
    refine s_val (some 91) (.int .i64 0) (fun w => by kernel_rfl) (by kernel_rfl) ?_
    refine s_val (some 92) (.bool true) (fun w => by kernel_rfl) (by kernel_rfl) ?_
    refine s_val (some 93) (.bool true) (fun w => by kernel_rfl) (by kernel_rfl) ?_
    refine s_val (some 94) (.int .i64 0) (fun w => by kernel_rfl) (by kernel_rfl) ?_
    refine s_val (some 95) (.int .i64 0) (fun w => by kernel_rfl) (by kernel_rfl) ?_
    refine s_val (some 96) (.bool true) (fun w => by kernel_rfl) (by kernel_rfl) ?_
    refine s_val (some 97) (.bool true) (fun w => by kernel_rfl) (by kernel_rfl) ?_
    refine s_val (some 98) (.bool true) (fun w => by kernel_rfl) (by kernel_rfl) ?_
    refine s_val (some 99) (.int .i64 0) (fun w => by kernel_rfl) (by kernel_rfl) ?_
    refine s_val (some 100) (.int .i64 0) (fun w => by kernel_rfl) (by kernel_rfl) ?_
    refine s_val (some 101) (.bool true) (fun w => by kernel_rfl) (by kernel_rfl) ?_
    refine s_val (some 102) (.bool true) (fun w => by kernel_rfl) (by kernel_rfl) ?_
    refine s_val (some 103) (.bool true) (fun w => by kernel_rfl) (by kernel_rfl) ?_
    refine s_val (some 104) (.int .i64 0) (fun w => by kernel_rfl) (by kernel_rfl) ?_
    refine s_val (some 105) (.int .i64 0) (fun w => by kernel_rfl) (by kernel_rfl) ?_
    refine s_val (some 106) (.bool true) (fun w => by kernel_rfl) (by kernel_rfl) ?_
    refine s_val (some 107) (.bool true) (fun w => by kernel_rfl) (by kernel_rfl) ?_
    refine s_val (some 108) (.bool true) (fun w => by kernel_rfl) (by kernel_rfl) ?_
    refine s_val (some 109) (.int .i64 0) (fun w => by kernel_rfl) (by kernel_rfl) ?_
    refine s_val (some 110) (.int .i64 0) (fun w => by kernel_rfl) (by kernel_rfl) ?_
    refine s_val (some 111) (.bool true) (fun w => by kernel_rfl) (by kernel_rfl) ?_
    refine s_val (some 112) (.bool true) (fun w => by kernel_rfl) (by kernel_rfl) ?_
    refine s_val (some 113) (.bool true) (fun w => by kernel_rfl) (by kernel_rfl) ?_
    refine s_val (some 114) (.int .i64 0) (fun w => by kernel_rfl) (by kernel_rfl) ?_
    refine s_val (some 115) (.int .i64 0) (fun w => by kernel_rfl) (by kernel_rfl) ?_
    refine s_val (some 116) (.bool true) (fun w => by kernel_rfl) (by kernel_rfl) ?_
    refine s_val (some 117) (.bool true) (fun w => by kernel_rfl) (by kernel_rfl) ?_
    refine s_val (some 118) (.bool true) (fun w => by kernel_rfl) (by kernel_rfl) ?_
    refine s_val (some 119) (.int .i64 0) (fun w => by kernel_rfl) (by kernel_rfl) ?_
    refine s_val (some 120) (.int .i64 0) (fun w => by kernel_rfl) (by kernel_rfl) ?_
    refine s_val (some 121) (.bool true) (fun w => by kernel_rfl) (by kernel_rfl) ?_
    refine s_val (some 122) (.bool true) (fun w => by kernel_rfl) (by kernel_rfl) ?_
    refine s_val (some 27) (.bool true) (fun w => by kernel_rfl) (by kernel_rfl) ?_
    refine s_nil ?_
    refine g_sreg [0, 1, 2, 3, 4, 5, 6, 7, 8, 9, 10, 11, 12, 13, 14, 15, 16, 17, 18, 19, 20, 21, 22, 23, 24, 25, 26] (by kernel_rfl) (by kernel_rfl) ?_
    refine s_call H30 (some 123) 43 #[] (.bool true) alive02_fn (fun w => by kernel_rfl) (by kernel_rfl) ?_
    intro w31 H31; clear H30
    refine s_val (some 124) (.bool true) (fun w => by kernel_rfl) (by kernel_rfl) ?_
    refine s_val (some 125) (.bool true) (fun w => by kernel_rfl) (by kernel_rfl) ?_
    refine s_val (some 126) (.bool true) (fun w => by kernel_rfl) (by kernel_rfl) ?_
    refine s_val (some 127) (.bool true) (fun w => by kernel_rfl) (by kernel_rfl) ?_
    refine s_val (some 128) (.int .i64 1) (fun w => by kernel_rfl) (by kernel_rfl) ?_
    refine s_val (some 129) (.bool true) (fun w => by kernel_rfl) (by kernel_rfl) ?_
    refine s_val (some 130) (.bool true) (fun w => by kernel_rfl) (by kernel_rfl) ?_
    refine s_val (some 131) (.bool true) (fun w => by kernel_rfl) (by kernel_rfl) ?_
    refine s_val (some 132) (.bool false) (fun w => by kernel_rfl) (by kernel_rfl) ?_
    refine s_val (some 133) (.bool false) (fun w => by kernel_rfl) (by kernel_rfl) ?_
    refine s_load H31 (some 134) 24 (.tmp 15) 5 b7 (Value.cells (uv (fpw A (sm B C) NR))) 24 (0, 0) (by kernel_rfl) (by kernel_rfl) (by kernel_rfl) (by kernel_rfl) (by kernel_rfl) ?_
    refine s_load H31 (some 135) 24 (.tmp 17) 4 b8 (Value.cells (uv (fMul (fpw A B NR) (fpw A C NR) NR))) 24 (0, 0) (by kernel_rfl) (by kernel_rfl) (by kernel_rfl) (by kernel_rfl) (by kernel_rfl) ?_
    refine s_opE (some 136) _ (.bool (decide ((fpw A (sm B C) NR) = (fMul (fpw A B NR) (fpw A C NR) NR)))) (.bool true) (by kernel_rfl) (fun o w ho => eqU_run (x := (.tmp 134)) (y := (.tmp 135)) (fpw A (sm B C) NR) (fMul (fpw A B NR) (fpw A C NR) NR) (fpw_lt nr_ok) (fMul_lt nr_ok) w ho (by kernel_rfl) (by kernel_rfl)) (by rw [decide_eq_true (fpw_sum A B C NR hov)] <;> rfl) (by kernel_rfl) ?_
    refine s_val (some 137) (.bool true) (fun w => by kernel_rfl) (by kernel_rfl) ?_
    refine s_val (some 138) (.bool true) (fun w => by kernel_rfl) (by kernel_rfl) ?_
    refine s_val (some 139) (.bool true) (fun w => by kernel_rfl) (by kernel_rfl) ?_
    refine s_load H31 (some 140) 24 (.tmp 19) 3 b9 (Value.cells (uv (fpw A 0 NR))) 24 (0, 0) (by kernel_rfl) (by kernel_rfl) (by kernel_rfl) (by kernel_rfl) (by kernel_rfl) ?_
    refine s_val (some 141) (.agg #[.int .u64 1, .int .u64 0, .int .u64 0, .int .u64 0]) (fun w => by kernel_rfl) (by kernel_rfl) ?_
    refine s_opE (some 142) _ (.bool (decide ((fpw A 0 NR) = 1))) (.bool true) (by kernel_rfl) (fun o w ho => eqU_run (x := (.tmp 140)) (y := (.tmp 141)) (fpw A 0 NR) 1 (fpw_lt nr_ok) (by unfold big; omega) w ho (by kernel_rfl) (by kernel_rfl)) (by rw [decide_eq_true (fpw_none nr_ok A)] <;> rfl) (by kernel_rfl) ?_
    refine s_val (some 143) (.bool true) (fun w => by kernel_rfl) (by kernel_rfl) ?_
    refine s_val (some 144) (.bool true) (fun w => by kernel_rfl) (by kernel_rfl) ?_
    refine s_load H31 (some 145) 24 (.tmp 21) 2 b10 (Value.cells (uv (fpw A 1 NR))) 24 (0, 0) (by kernel_rfl) (by kernel_rfl) (by kernel_rfl) (by kernel_rfl) (by kernel_rfl) ?_
    refine s_load H31 (some 146) 24 (.tmp 23) 1 b11 (Value.cells (uv (rs A 0 NR))) 24 (0, 0) (by kernel_rfl) (by kernel_rfl) (by kernel_rfl) (by kernel_rfl) (by kernel_rfl) ?_
    refine s_opE (some 147) _ (.bool (decide ((fpw A 1 NR) = (rs A 0 NR)))) (.bool true) (by kernel_rfl) (fun o w ho => eqU_run (x := (.tmp 145)) (y := (.tmp 146)) (fpw A 1 NR) (rs A 0 NR) (fpw_lt nr_ok) (rs_lt nr_ok) w ho (by kernel_rfl) (by kernel_rfl)) (by rw [decide_eq_true (fpw_one A NR)] <;> rfl) (by kernel_rfl) ?_
    refine s_val (some 148) (.bool true) (fun w => by kernel_rfl) (by kernel_rfl) ?_
    refine s_val (some 8) (.bool true) (fun w => by kernel_rfl) (by kernel_rfl) ?_
    refine s_nil ?_
    refine g_ret (by kernel_rfl) ?_
    show ∃ vs, Res _ _ _ _ vs ∧ _
    refine ⟨[.bool true], (.tmp (.bool true) (by kernel_rfl) .nil), ?_, H31.below⟩
    rfl
  · skip
    refine s_val (some 30) (.tuple #[uv (sm B C), .bool true]) (fun w => by kernel_rfl) (by kernel_rfl) ?_
    refine s_val (some 34) (uv (sm B C)) (fun w => by kernel_rfl) (by kernel_rfl) ?_
    refine s_val (some 35) (.bool true) (fun w => by kernel_rfl) (by kernel_rfl) ?_
    refine s_alloc H4 (some 9) 24 (.agg #[.int .u64 0, .int .u64 0, .int .u64 0, .int .u64 0]) (by kernel_rfl) (by kernel_rfl) (by kernel_rfl) ?_
    intro b13 w32 H32; clear H4
    refine s_store H32 0 [(b13, Obj.cells (Value.cells (uv (sm B C))) 24 (0, 0)), (b3, Obj.cells (Value.cells (uv C)) 24 (0, 0)), (b2, Obj.cells (Value.cells (uv B)) 24 (0, 0)), (b1, Obj.cells (Value.cells (uv A)) 24 (0, 0))] 24 (.tmp 9) (.tmp 34) b13 0 #[.int .u64 0, .int .u64 0, .int .u64 0, .int .u64 0] (Value.cells (uv (sm B C))) 24 (uv (sm B C)) (by kernel_rfl) (by kernel_rfl) (by kernel_rfl) (by kernel_rfl) (by kernel_rfl) (by kernel_rfl) (of_decide_eq_true (by kernel_rfl)) (by kernel_rfl) (by kernel_rfl) ?_
    intro w33 H33; clear H32
    refine s_val (some 10) (.bool true) (fun w => by kernel_rfl) (by kernel_rfl) ?_
    refine s_nil ?_
    refine g_sreg [0, 1, 2, 3, 4, 5, 6, 7, 8, 9] (by kernel_rfl) (by kernel_rfl) ?_
    refine s_load H33 (some 37) 24 (.tmp 4) 3 b1 (Value.cells (uv A)) 24 (0, 0) (by kernel_rfl) (by kernel_rfl) (by kernel_rfl) (by kernel_rfl) (by kernel_rfl) ?_
    refine s_load H33 (some 38) 24 (.tmp 5) 2 b2 (Value.cells (uv B)) 24 (0, 0) (by kernel_rfl) (by kernel_rfl) (by kernel_rfl) (by kernel_rfl) (by kernel_rfl) ?_
    refine s_val (some 39) (.int .i64 1) (fun w => by kernel_rfl) (by kernel_rfl) ?_
    refine s_call H33 (some 40) 49 #[uv A, uv B, .int .i64 1] (.tuple #[uv (fpw A B NR), .int .i64 0]) (pow1_fn A B hA hB) (fun w => by kernel_rfl) (by kernel_rfl) ?_
    intro w34 H34; clear H33
    refine s_val (some 36) (.tuple #[uv (fpw A B NR), .int .i64 0]) (fun w => by kernel_rfl) (by kernel_rfl) ?_
    refine s_val (some 41) (uv (fpw A B NR)) (fun w => by kernel_rfl) (by kernel_rfl) ?_
    refine s_val (some 42) (.int .i64 0) (fun w => by kernel_rfl) (by kernel_rfl) ?_
    refine s_alloc H34 (some 11) 24 (.agg #[.int .u64 0, .int .u64 0, .int .u64 0, .int .u64 0]) (by kernel_rfl) (by kernel_rfl) (by kernel_rfl) ?_
    intro b14 w35 H35; clear H34
    refine s_store H35 0 [(b14, Obj.cells (Value.cells (uv (fpw A B NR))) 24 (0, 0)), (b13, Obj.cells (Value.cells (uv (sm B C))) 24 (0, 0)), (b3, Obj.cells (Value.cells (uv C)) 24 (0, 0)), (b2, Obj.cells (Value.cells (uv B)) 24 (0, 0)), (b1, Obj.cells (Value.cells (uv A)) 24 (0, 0))] 24 (.tmp 11) (.tmp 41) b14 0 #[.int .u64 0, .int .u64 0, .int .u64 0, .int .u64 0] (Value.cells (uv (fpw A B NR))) 24 (uv (fpw A B NR)) (by kernel_rfl) (by kernel_rfl) (by kernel_rfl) (by kernel_rfl) (by kernel_rfl) (by kernel_rfl) (of_decide_eq_true (by kernel_rfl)) (by kernel_rfl) (by kernel_rfl) ?_
    intro w36 H36; clear H35
    refine s_val (some 12) (.int .i64 0) (fun w => by kernel_rfl) (by kernel_rfl) ?_
    refine s_nil ?_
    refine g_sreg [0, 1, 2, 3, 4, 5, 6, 7, 8, 9] (by kernel_rfl) (by kernel_rfl) ?_
    refine s_load H36 (some 44) 24 (.tmp 4) 4 b1 (Value.cells (uv A)) 24 (0, 0) (by kernel_rfl) (by kernel_rfl) (by kernel_rfl) (by kernel_rfl) (by kernel_rfl) ?_
    refine s_load H36 (some 45) 24 (.tmp 6) 2 b3 (Value.cells (uv C)) 24 (0, 0) (by kernel_rfl) (by kernel_rfl) (by kernel_rfl) (by kernel_rfl) (by kernel_rfl) ?_
    refine s_val (some 46) (.int .i64 1) (fun w => by kernel_rfl) (by kernel_rfl) ?_
    refine s_call H36 (some 47) 49 #[uv A, uv C, .int .i64 1] (.tuple #[uv (fpw A C NR), .int .i64 0]) (pow1_fn A C hA hC) (fun w => by kernel_rfl) (by kernel_rfl) ?_
    intro w37 H37; clear H36
    refine s_val (some 43) (.tuple #[uv (fpw A C NR), .int .i64 0]) (fun w => by kernel_rfl) (by kernel_rfl) ?_
    refine s_val (some 48) (uv (fpw A C NR)) (fun w => by kernel_rfl) (by kernel_rfl) ?_
    refine s_val (some 49) (.int .i64 0) (fun w => by kernel_rfl) (by kernel_rfl) ?_
    refine s_alloc H37 (some 13) 24 (.agg #[.int .u64 0, .int .u64 0, .int .u64 0, .int .u64 0]) (by kernel_rfl) (by kernel_rfl) (by kernel_rfl) ?_
    intro b15 w38 H38; clear H37
    refine s_store H38 0 [(b15, Obj.cells (Value.cells (uv (fpw A C NR))) 24 (0, 0)), (b14, Obj.cells (Value.cells (uv (fpw A B NR))) 24 (0, 0)), (b13, Obj.cells (Value.cells (uv (sm B C))) 24 (0, 0)), (b3, Obj.cells (Value.cells (uv C)) 24 (0, 0)), (b2, Obj.cells (Value.cells (uv B)) 24 (0, 0)), (b1, Obj.cells (Value.cells (uv A)) 24 (0, 0))] 24 (.tmp 13) (.tmp 48) b15 0 #[.int .u64 0, .int .u64 0, .int .u64 0, .int .u64 0] (Value.cells (uv (fpw A C NR))) 24 (uv (fpw A C NR)) (by kernel_rfl) (by kernel_rfl) (by kernel_rfl) (by kernel_rfl) (by kernel_rfl) (by kernel_rfl) (of_decide_eq_true (by kernel_rfl)) (by kernel_rfl) (by kernel_rfl) ?_
    intro w39 H39; clear H38
    refine s_val (some 14) (.int .i64 0) (fun w => by kernel_rfl) (by kernel_rfl) ?_
    refine s_nil ?_
    refine g_sreg [0, 1, 2, 3, 4, 5, 6, 7, 8, 9] (by kernel_rfl) (by kernel_rfl) ?_
    refine s_load H39 (some 51) 24 (.tmp 4) 5 b1 (Value.cells (uv A)) 24 (0, 0) (by kernel_rfl) (by kernel_rfl) (by kernel_rfl) (by kernel_rfl) (by kernel_rfl) ?_
    refine s_load H39 (some 52) 24 (.tmp 9) 2 b13 (Value.cells (uv (sm B C))) 24 (0, 0) (by kernel_rfl) (by kernel_rfl) (by kernel_rfl) (by kernel_rfl) (by kernel_rfl) ?_
    refine s_val (some 53) (.int .i64 1) (fun w => by kernel_rfl) (by kernel_rfl) ?_
    refine s_call H39 (some 54) 49 #[uv A, uv (sm B C), .int .i64 1] (.tuple #[uv (fpw A (sm B C) NR), .int .i64 0]) (pow1_fn A (sm B C) hA (sm_lt _ _)) (fun w => by kernel_rfl) (by kernel_rfl) ?_
    intro w40 H40; clear H39
    refine s_val (some 50) (.tuple #[uv (fpw A (sm B C) NR), .int .i64 0]) (fun w => by kernel_rfl) (by kernel_rfl) ?_
    refine s_val (some 55) (uv (fpw A (sm B C) NR)) (fun w => by kernel_rfl) (by kernel_rfl) ?_
    refine s_val (some 56) (.int .i64 0) (fun w => by kernel_rfl) (by kernel_rfl) ?_
    refine s_alloc H40 (some 15) 24 (.agg #[.int .u64 0, .int .u64 0, .int .u64 0, .int .u64 0]) (by kernel_rfl) (by kernel_rfl) (by kernel_rfl) ?_
    intro b16 w41 H41; clear H40
    refine s_store H41 0 [(b16, Obj.cells (Value.cells (uv (fpw A (sm B C) NR))) 24 (0, 0)), (b15, Obj.cells (Value.cells (uv (fpw A C NR))) 24 (0, 0)), (b14, Obj.cells (Value.cells (uv (fpw A B NR))) 24 (0, 0)), (b13, Obj.cells (Value.cells (uv (sm B C))) 24 (0, 0)), (b3, Obj.cells (Value.cells (uv C)) 24 (0, 0)), (b2, Obj.cells (Value.cells (uv B)) 24 (0, 0)), (b1, Obj.cells (Value.cells (uv A)) 24 (0, 0))] 24 (.tmp 15) (.tmp 55) b16 0 #[.int .u64 0, .int .u64 0, .int .u64 0, .int .u64 0] (Value.cells (uv (fpw A (sm B C) NR))) 24 (uv (fpw A (sm B C) NR)) (by kernel_rfl) (by kernel_rfl) (by kernel_rfl) (by kernel_rfl) (by kernel_rfl) (by kernel_rfl) (of_decide_eq_true (by kernel_rfl)) (by kernel_rfl) (by kernel_rfl) ?_
    intro w42 H42; clear H41
    refine s_val (some 16) (.int .i64 0) (fun w => by kernel_rfl) (by kernel_rfl) ?_
    refine s_nil ?_
    refine g_sreg [0, 1, 2, 3, 4, 5, 6, 7, 8, 9] (by kernel_rfl) (by kernel_rfl) ?_
    refine s_load H42 (some 58) 24 (.tmp 11) 2 b14 (Value.cells (uv (fpw A B NR))) 24 (0, 0) (by kernel_rfl) (by kernel_rfl) (by kernel_rfl) (by kernel_rfl) (by kernel_rfl) ?_
    refine s_load H42 (some 59) 24 (.tmp 13) 1 b15 (Value.cells (uv (fpw A C NR))) 24 (0, 0) (by kernel_rfl) (by kernel_rfl) (by kernel_rfl) (by kernel_rfl) (by kernel_rfl) ?_
    refine s_val (some 60) (.int .i64 1) (fun w => by kernel_rfl) (by kernel_rfl) ?_
    refine s_call H42 (some 61) 41 #[uv (fpw A B NR), uv (fpw A C NR), .int .i64 1] (.tuple #[uv (fMul (fpw A B NR) (fpw A C NR) NR), .int .i64 0]) (fmul1_fn (fpw A B NR) (fpw A C NR) (fpw_lt nr_ok) (fpw_lt nr_ok)) (fun w => by kernel_rfl) (by kernel_rfl) ?_
    intro w43 H43; clear H42
    refine s_val (some 57) (.tuple #[uv (fMul (fpw A B NR) (fpw A C NR) NR), .int .i64 0]) (fun w => by kernel_rfl) (by kernel_rfl) ?_
    refine s_val (some 62) (uv (fMul (fpw A B NR) (fpw A C NR) NR)) (fun w => by kernel_rfl) (by kernel_rfl) ?_
    refine s_val (some 63) (.int .i64 0) (fun w => by kernel_rfl) (by kernel_rfl) ?_
    refine s_alloc H43 (some 17) 24 (.agg #[.int .u64 0, .int .u64 0, .int .u64 0, .int .u64 0]) (by kernel_rfl) (by kernel_rfl) (by kernel_rfl) ?_
    intro b17 w44 H44; clear H43
    refine s_store H44 0 [(b17, Obj.cells (Value.cells (uv (fMul (fpw A B NR) (fpw A C NR) NR))) 24 (0, 0)), (b16, Obj.cells (Value.cells (uv (fpw A (sm B C) NR))) 24 (0, 0)), (b15, Obj.cells (Value.cells (uv (fpw A C NR))) 24 (0, 0)), (b14, Obj.cells (Value.cells (uv (fpw A B NR))) 24 (0, 0)), (b13, Obj.cells (Value.cells (uv (sm B C))) 24 (0, 0)), (b3, Obj.cells (Value.cells (uv C)) 24 (0, 0)), (b2, Obj.cells (Value.cells (uv B)) 24 (0, 0)), (b1, Obj.cells (Value.cells (uv A)) 24 (0, 0))] 24 (.tmp 17) (.tmp 62) b17 0 #[.int .u64 0, .int .u64 0, .int .u64 0, .int .u64 0] (Value.cells (uv (fMul (fpw A B NR) (fpw A C NR) NR))) 24 (uv (fMul (fpw A B NR) (fpw A C NR) NR)) (by kernel_rfl) (by kernel_rfl) (by kernel_rfl) (by kernel_rfl) (by kernel_rfl) (by kernel_rfl) (of_decide_eq_true (by kernel_rfl)) (by kernel_rfl) (by kernel_rfl) ?_
    intro w45 H45; clear H44
    refine s_val (some 18) (.int .i64 0) (fun w => by kernel_rfl) (by kernel_rfl) ?_
    refine s_nil ?_
    refine g_sreg [0, 1, 2, 3, 4, 5, 6, 7, 8, 9] (by kernel_rfl) (by kernel_rfl) ?_
    refine s_load H45 (some 65) 24 (.tmp 4) 7 b1 (Value.cells (uv A)) 24 (0, 0) (by kernel_rfl) (by kernel_rfl) (by kernel_rfl) (by kernel_rfl) (by kernel_rfl) ?_
    refine s_val (some 66) (.agg #[.int .u64 0, .int .u64 0, .int .u64 0, .int .u64 0]) (fun w => by kernel_rfl) (by kernel_rfl) ?_
    refine s_val (some 67) (.int .i64 1) (fun w => by kernel_rfl) (by kernel_rfl) ?_
    refine s_call H45 (some 68) 49 #[uv A, .agg #[.int .u64 0, .int .u64 0, .int .u64 0, .int .u64 0], .int .i64 1] (.tuple #[uv (fpw A 0 NR), .int .i64 0]) (pow1_fn A 0 hA (by unfold big; omega)) (fun w => by kernel_rfl) (by kernel_rfl) ?_
    intro w46 H46; clear H45
    refine s_val (some 64) (.tuple #[uv (fpw A 0 NR), .int .i64 0]) (fun w => by kernel_rfl) (by kernel_rfl) ?_
    refine s_val (some 69) (uv (fpw A 0 NR)) (fun w => by kernel_rfl) (by kernel_rfl) ?_
    refine s_val (some 70) (.int .i64 0) (fun w => by kernel_rfl) (by kernel_rfl) ?_
    refine s_alloc H46 (some 19) 24 (.agg #[.int .u64 0, .int .u64 0, .int .u64 0, .int .u64 0]) (by kernel_rfl) (by kernel_rfl) (by kernel_rfl) ?_
    intro b18 w47 H47; clear H46
    refine s_store H47 0 [(b18, Obj.cells (Value.cells (uv (fpw A 0 NR))) 24 (0, 0)), (b17, Obj.cells (Value.cells (uv (fMul (fpw A B NR) (fpw A C NR) NR))) 24 (0, 0)), (b16, Obj.cells (Value.cells (uv (fpw A (sm B C) NR))) 24 (0, 0)), (b15, Obj.cells (Value.cells (uv (fpw A C NR))) 24 (0, 0)), (b14, Obj.cells (Value.cells (uv (fpw A B NR))) 24 (0, 0)), (b13, Obj.cells (Value.cells (uv (sm B C))) 24 (0, 0)), (b3, Obj.cells (Value.cells (uv C)) 24 (0, 0)), (b2, Obj.cells (Value.cells (uv B)) 24 (0, 0)), (b1, Obj.cells (Value.cells (uv A)) 24 (0, 0))] 24 (.tmp 19) (.tmp 69) b18 0 #[.int .u64 0, .int .u64 0, .int .u64 0, .int .u64 0] (Value.cells (uv (fpw A 0 NR))) 24 (uv (fpw A 0 NR)) (by kernel_rfl) (by kernel_rfl) (by kernel_rfl) (by kernel_rfl) (by kernel_rfl) (by kernel_rfl) (of_decide_eq_true (by kernel_rfl)) (by kernel_rfl) (by kernel_rfl) ?_
    intro w48 H48; clear H47
    refine s_val (some 20) (.int .i64 0) (fun w => by kernel_rfl) (by kernel_rfl) ?_
    refine s_nil ?_
    refine g_sreg [0, 1, 2, 3, 4, 5, 6, 7, 8, 9] (by kernel_rfl) (by kernel_rfl) ?_
    refine s_load H48 (some 72) 24 (.tmp 4) 8 b1 (Value.cells (uv A)) 24 (0, 0) (by kernel_rfl) (by kernel_rfl) (by kernel_rfl) (by kernel_rfl) (by kernel_rfl) ?_
    refine s_val (some 73) (.agg #[.int .u64 1, .int .u64 0, .int .u64 0, .int .u64 0]) (fun w => by kernel_rfl) (by kernel_rfl) ?_
    refine s_val (some 74) (.int .i64 1) (fun w => by kernel_rfl) (by kernel_rfl) ?_
    refine s_call H48 (some 75) 49 #[uv A, .agg #[.int .u64 1, .int .u64 0, .int .u64 0, .int .u64 0], .int .i64 1] (.tuple #[uv (fpw A 1 NR), .int .i64 0]) (pow1_fn A 1 hA (by unfold big; omega)) (fun w => by kernel_rfl) (by kernel_rfl) ?_
    intro w49 H49; clear H48
    refine s_val (some 71) (.tuple #[uv (fpw A 1 NR), .int .i64 0]) (fun w => by kernel_rfl) (by kernel_rfl) ?_
    refine s_val (some 76) (uv (fpw A 1 NR)) (fun w => by kernel_rfl) (by kernel_rfl) ?_
    refine s_val (some 77) (.int .i64 0) (fun w => by kernel_rfl) (by kernel_rfl) ?_
    refine s_alloc H49 (some 21) 24 (.agg #[.int .u64 0, .int .u64 0, .int .u64 0, .int .u64 0]) (by kernel_rfl) (by kernel_rfl) (by kernel_rfl) ?_
    intro b19 w50 H50; clear H49
    refine s_store H50 0 [(b19, Obj.cells (Value.cells (uv (fpw A 1 NR))) 24 (0, 0)), (b18, Obj.cells (Value.cells (uv (fpw A 0 NR))) 24 (0, 0)), (b17, Obj.cells (Value.cells (uv (fMul (fpw A B NR) (fpw A C NR) NR))) 24 (0, 0)), (b16, Obj.cells (Value.cells (uv (fpw A (sm B C) NR))) 24 (0, 0)), (b15, Obj.cells (Value.cells (uv (fpw A C NR))) 24 (0, 0)), (b14, Obj.cells (Value.cells (uv (fpw A B NR))) 24 (0, 0)), (b13, Obj.cells (Value.cells (uv (sm B C))) 24 (0, 0)), (b3, Obj.cells (Value.cells (uv C)) 24 (0, 0)), (b2, Obj.cells (Value.cells (uv B)) 24 (0, 0)), (b1, Obj.cells (Value.cells (uv A)) 24 (0, 0))] 24 (.tmp 21) (.tmp 76) b19 0 #[.int .u64 0, .int .u64 0, .int .u64 0, .int .u64 0] (Value.cells (uv (fpw A 1 NR))) 24 (uv (fpw A 1 NR)) (by kernel_rfl) (by kernel_rfl) (by kernel_rfl) (by kernel_rfl) (by kernel_rfl) (by kernel_rfl) (of_decide_eq_true (by kernel_rfl)) (by kernel_rfl) (by kernel_rfl) ?_
    intro w51 H51; clear H50
    refine s_val (some 22) (.int .i64 0) (fun w => by kernel_rfl) (by kernel_rfl) ?_
    refine s_nil ?_
    refine g_sreg [0, 1, 2, 3, 4, 5, 6, 7, 8, 9] (by kernel_rfl) (by kernel_rfl) ?_
    refine s_load H51 (some 79) 24 (.tmp 4) 9 b1 (Value.cells (uv A)) 24 (0, 0) (by kernel_rfl) (by kernel_rfl) (by kernel_rfl) (by kernel_rfl) (by kernel_rfl) ?_
    refine s_val (some 80) (.agg #[.int .u64 0, .int .u64 0, .int .u64 0, .int .u64 0]) (fun w => by kernel_rfl) (by kernel_rfl) ?_
    refine s_val (some 81) (.int .i64 1) (fun w => by kernel_rfl) (by kernel_rfl) ?_
    refine s_call H51 (some 82) 42 #[uv A, .agg #[.int .u64 0, .int .u64 0, .int .u64 0, .int .u64 0], .int .i64 1] (.tuple #[uv (rs A 0 NR), .int .i64 0]) (reduce1_fn A 0 hA (by unfold big; omega)) (fun w => by kernel_rfl) (by kernel_rfl) ?_
    intro w52 H52; clear H51
    refine s_val (some 78) (.tuple #[uv (rs A 0 NR), .int .i64 0]) (fun w => by kernel_rfl) (by kernel_rfl) ?_
    refine s_val (some 83) (uv (rs A 0 NR)) (fun w => by kernel_rfl) (by kernel_rfl) ?_
    refine s_val (some 84) (.int .i64 0) (fun w => by kernel_rfl) (by kernel_rfl) ?_
    refine s_alloc H52 (some 23) 24 (.agg #[.int .u64 0, .int .u64 0, .int .u64 0, .int .u64 0]) (by kernel_rfl) (by kernel_rfl) (by kernel_rfl) ?_
    intro b20 w53 H53; clear H52
    refine s_store H53 0 [(b20, Obj.cells (Value.cells (uv (rs A 0 NR))) 24 (0, 0)), (b19, Obj.cells (Value.cells (uv (fpw A 1 NR))) 24 (0, 0)), (b18, Obj.cells (Value.cells (uv (fpw A 0 NR))) 24 (0, 0)), (b17, Obj.cells (Value.cells (uv (fMul (fpw A B NR) (fpw A C NR) NR))) 24 (0, 0)), (b16, Obj.cells (Value.cells (uv (fpw A (sm B C) NR))) 24 (0, 0)), (b15, Obj.cells (Value.cells (uv (fpw A C NR))) 24 (0, 0)), (b14, Obj.cells (Value.cells (uv (fpw A B NR))) 24 (0, 0)), (b13, Obj.cells (Value.cells (uv (sm B C))) 24 (0, 0)), (b3, Obj.cells (Value.cells (uv C)) 24 (0, 0)), (b2, Obj.cells (Value.cells (uv B)) 24 (0, 0)), (b1, Obj.cells (Value.cells (uv A)) 24 (0, 0))] 24 (.tmp 23) (.tmp 83) b20 0 #[.int .u64 0, .int .u64 0, .int .u64 0, .int .u64 0] (Value.cells (uv (rs A 0 NR))) 24 (uv (rs A 0 NR)) (by kernel_rfl) (by kernel_rfl) (by kernel_rfl) (by kernel_rfl) (by kernel_rfl) (by kernel_rfl) (of_decide_eq_true (by kernel_rfl)) (by kernel_rfl) (by kernel_rfl) ?_
    intro w54 H54; clear H53
    refine s_val (some 24) (.int .i64 0) (fun w => by kernel_rfl) (by kernel_rfl) ?_
    refine s_nil ?_
    refine g_sreg [0, 1, 2, 3, 4, 5, 6, 7, 8] (by kernel_rfl) (by kernel_rfl) ?_
    refine s_load H54 (some 86) 24 (.tmp 4) 10 b1 (Value.cells (uv A)) 24 (0, 0) (by kernel_rfl) (by kernel_rfl) (by kernel_rfl) (by kernel_rfl) (by kernel_rfl) ?_
    refine s_load H54 (some 87) 24 (.tmp 5) 9 b2 (Value.cells (uv B)) 24 (0, 0) (by kernel_rfl) (by kernel_rfl) (by kernel_rfl) (by kernel_rfl) (by kernel_rfl) ?_
    refine s_call H54 (some 88) 49 #[uv A, uv B, .int .i64 2] (.tuple #[.agg #[.int .u64 0, .int .u64 0, .int .u64 0, .int .u64 0], .int .i64 1]) (powNo_fn A B hA hB 2 (by decide) (by decide)) (fun w => by kernel_rfl) (by kernel_rfl) ?_
    intro w55 H55; clear H54
    refine s_val (some 85) (.tuple #[.agg #[.int .u64 0, .int .u64 0, .int .u64 0, .int .u64 0], .int .i64 1]) (fun w => by kernel_rfl) (by kernel_rfl) ?_
    refine s_val (some 89) (.agg #[.int .u64 0, .int .u64 0, .int .u64 0, .int .u64 0]) (fun w => by kernel_rfl) (by kernel_rfl) ?_
    refine s_val (some 90) (.int .i64 1) (fun w => by kernel_rfl) (by kernel_rfl) ?_
    refine s_alloc H55 (some 25) 24 (.agg #[.int .u64 0, .int .u64 0, .int .u64 0, .int .u64 0]) (by kernel_rfl) (by kernel_rfl) (by kernel_rfl) ?_
    intro b21 w56 H56; clear H55
    refine s_store H56 0 [(b21, Obj.cells #[.int .u64 0, .int .u64 0, .int .u64 0, .int .u64 0] 24 (0, 0)), (b20, Obj.cells (Value.cells (uv (rs A 0 NR))) 24 (0, 0)), (b19, Obj.cells (Value.cells (uv (fpw A 1 NR))) 24 (0, 0)), (b18, Obj.cells (Value.cells (uv (fpw A 0 NR))) 24 (0, 0)), (b17, Obj.cells (Value.cells (uv (fMul (fpw A B NR) (fpw A C NR) NR))) 24 (0, 0)), (b16, Obj.cells (Value.cells (uv (fpw A (sm B C) NR))) 24 (0, 0)), (b15, Obj.cells (Value.cells (uv (fpw A C NR))) 24 (0, 0)), (b14, Obj.cells (Value.cells (uv (fpw A B NR))) 24 (0, 0)), (b13, Obj.cells (Value.cells (uv (sm B C))) 24 (0, 0)), (b3, Obj.cells (Value.cells (uv C)) 24 (0, 0)), (b2, Obj.cells (Value.cells (uv B)) 24 (0, 0)), (b1, Obj.cells (Value.cells (uv A)) 24 (0, 0))] 24 (.tmp 25) (.tmp 89) b21 0 #[.int .u64 0, .int .u64 0, .int .u64 0, .int .u64 0] #[.int .u64 0, .int .u64 0, .int .u64 0, .int .u64 0] 24 (.agg #[.int .u64 0, .int .u64 0, .int .u64 0, .int .u64 0]) (by kernel_rfl) (by kernel_rfl) (by kernel_rfl) (by kernel_rfl) (by kernel_rfl) (by kernel_rfl) (of_decide_eq_true (by kernel_rfl)) (by kernel_rfl) (by kernel_rfl) ?_
    intro w57 H57; clear H56
    refine s_val (some 26) (.int .i64 1) (fun w => by kernel_rfl) (by kernel_rfl) ?_
    refine s_nil ?_
    refine g_sreg [0, 1, 2, 3, 4, 5, 6, 7, 8, 9, 10, 11, 12, 13, 14, 15, 16, 17, 18, 19, 20, 21, 22, 23, 24, 25, 26, 27, 28, 29, 30, 31, 32] (by kernel_rfl) (by kernel_rfl) ?_
    refine s_val (some 91) (.int .i64 0) (fun w => by kernel_rfl) (by kernel_rfl) ?_
    refine s_val (some 92) (.bool true) (fun w => by kernel_rfl) (by kernel_rfl) ?_
    refine s_val (some 93) (.bool true) (fun w => by kernel_rfl) (by kernel_rfl) ?_
    refine s_val (some 94) (.int .i64 0) (fun w => by kernel_rfl) (by kernel_rfl) ?_
    refine s_val (some 95) (.int .i64 0) (fun w => by kernel_rfl) (by kernel_rfl) ?_
    refine s_val (some 96) (.bool true) (fun w => by kernel_rfl) (by kernel_rfl) ?_
    refine s_val (some 97) (.bool true) (fun w => by kernel_rfl) (by kernel_rfl) ?_
    refine s_val (some 98) (.bool true) (fun w => by kernel_rfl) (by kernel_rfl) ?_
    refine s_val (some 99) (.int .i64 0) (fun w => by kernel_rfl) (by kernel_rfl) ?_
    refine s_val (some 100) (.int .i64 0) (fun w => by kernel_rfl) (by kernel_rfl) ?_
    refine s_val (some 101) (.bool true) (fun w => by kernel_rfl) (by kernel_rfl) ?_
    refine s_val (some 102) (.bool true) (fun w => by kernel_rfl) (by kernel_rfl) ?_
    refine s_val (some 103) (.bool true) (fun w => by kernel_rfl) (by kernel_rfl) ?_
    refine s_val (some 104) (.int .i64 0) (fun w => by kernel_rfl) (by kernel_rfl) ?_
    refine s_val (some 105) (.int .i64 0) (fun w => by kernel_rfl) (by kernel_rfl) ?_
    refine s_val (some 106) (.bool true) (fun w => by kernel_rfl) (by kernel_rfl) ?_
    refine s_val (some 107) (.bool true) (fun w => by kernel_rfl) (by kernel_rfl) ?_
    refine s_val (some 108) (.bool true) (fun w => by kernel_rfl) (by kernel_rfl) ?_
    refine s_val (some 109) (.int .i64 0) (fun w => by kernel_rfl) (by kernel_rfl) ?_
    refine s_val (some 110) (.int .i64 0) (fun w => by kernel_rfl) (by kernel_rfl) ?_
    refine s_val (some 111) (.bool true) (fun w => by kernel_rfl) (by kernel_rfl) ?_
    refine s_val (some 112) (.bool true) (fun w => by kernel_rfl) (by kernel_rfl) ?_
    refine s_val (some 113) (.bool true) (fun w => by kernel_rfl) (by kernel_rfl) ?_
    refine s_val (some 114) (.int .i64 0) (fun w => by kernel_rfl) (by kernel_rfl) ?_
    refine s_val (some 115) (.int .i64 0) (fun w => by kernel_rfl) (by kernel_rfl) ?_
    refine s_val (some 116) (.bool true) (fun w => by kernel_rfl) (by kernel_rfl) ?_
    refine s_val (some 117) (.bool true) (fun w => by kernel_rfl) (by kernel_rfl) ?_
    refine s_val (some 118) (.bool true) (fun w => by kernel_rfl) (by kernel_rfl) ?_
    refine s_val (some 119) (.int .i64 0) (fun w => by kernel_rfl) (by kernel_rfl) ?_
    refine s_val (some 120) (.int .i64 0) (fun w => by kernel_rfl) (by kernel_rfl) ?_
    refine s_val (some 121) (.bool true) (fun w => by kernel_rfl) (by kernel_rfl) ?_
    refine s_val (some 122) (.bool true) (fun w => by kernel_rfl) (by kernel_rfl) ?_
    refine s_val (some 27) (.bool true) (fun w => by kernel_rfl) (by kernel_rfl) ?_
    refine s_nil ?_
    refine g_sreg [0, 1, 2, 3, 4, 5, 6, 7, 8, 9, 10, 11, 12, 13, 14, 15, 16, 17, 18, 19, 20, 21, 22, 23, 24, 25, 26] (by kernel_rfl) (by kernel_rfl) ?_
    refine s_call H57 (some 123) 43 #[] (.bool true) alive02_fn (fun w => by kernel_rfl) (by kernel_rfl) ?_
    intro w58 H58; clear H57
    refine s_val (some 124) (.bool true) (fun w => by kernel_rfl) (by kernel_rfl) ?_
    refine s_val (some 125) (.bool true) (fun w => by kernel_rfl) (by kernel_rfl) ?_
    refine s_val (some 126) (.bool true) (fun w => by kernel_rfl) (by kernel_rfl) ?_
    refine s_val (some 127) (.bool true) (fun w => by kernel_rfl) (by kernel_rfl) ?_
    refine s_val (some 128) (.int .i64 1) (fun w => by kernel_rfl) (by kernel_rfl) ?_
    refine s_val (some 129) (.bool true) (fun w => by kernel_rfl) (by kernel_rfl) ?_
    refine s_val (some 130) (.bool true) (fun w => by kernel_rfl) (by kernel_rfl) ?_
    refine s_val (some 131) (.bool true) (fun w => by kernel_rfl) (by kernel_rfl) ?_
    refine s_val (some 132) (.bool true) (fun w => by kernel_rfl) (by kernel_rfl) ?_
    refine s_val (some 133) (.bool true) (fun w => by kernel_rfl) (by kernel_rfl) ?_
    refine s_not (some 134) (by kernel_rfl) (by kernel_rfl) ?_
    refine s_not (some 135) (by kernel_rfl) (by kernel_rfl) ?_
    refine s_not (some 136) (by kernel_rfl) (by kernel_rfl) ?_
    refine s_val (some 137) (.bool true) (fun w => by kernel_rfl) (by kernel_rfl) ?_
    refine s_val (some 138) (.bool true) (fun w => by kernel_rfl) (by kernel_rfl) ?_
    refine s_val (some 139) (.bool true) (fun w => by kernel_rfl) (by kernel_rfl) ?_
    refine s_load H58 (some 140) 24 (.tmp 19) 3 b18 (Value.cells (uv (fpw A 0 NR))) 24 (0, 0) (by kernel_rfl) (by kernel_rfl) (by kernel_rfl) (by kernel_rfl) (by kernel_rfl) ?_
    refine s_val (some 141) (.agg #[.int .u64 1, .int .u64 0, .int .u64 0, .int .u64 0]) (fun w => by kernel_rfl) (by kernel_rfl) ?_
    refine s_opE (some 142) _ (.bool (decide ((fpw A 0 NR) = 1))) (.bool true) (by kernel_rfl) (fun o w ho => eqU_run (x := (.tmp 140)) (y := (.tmp 141)) (fpw A 0 NR) 1 (fpw_lt nr_ok) (by unfold big; omega) w ho (by kernel_rfl) (by kernel_rfl)) (by rw [decide_eq_true (fpw_none nr_ok A)] <;> rfl) (by kernel_rfl) ?_
    refine s_val (some 143) (.bool true) (fun w => by kernel_rfl) (by kernel_rfl) ?_
    refine s_val (some 144) (.bool true) (fun w => by kernel_rfl) (by kernel_rfl) ?_
    refine s_load H58 (some 145) 24 (.tmp 21) 2 b19 (Value.cells (uv (fpw A 1 NR))) 24 (0, 0) (by kernel_rfl) (by kernel_rfl) (by kernel_rfl) (by kernel_rfl) (by kernel_rfl) ?_
    refine s_load H58 (some 146) 24 (.tmp 23) 1 b20 (Value.cells (uv (rs A 0 NR))) 24 (0, 0) (by kernel_rfl) (by kernel_rfl) (by kernel_rfl) (by kernel_rfl) (by kernel_rfl) ?_
    refine s_opE (some 147) _ (.bool (decide ((fpw A 1 NR) = (rs A 0 NR)))) (.bool true) (by kernel_rfl) (fun o w ho => eqU_run (x := (.tmp 145)) (y := (.tmp 146)) (fpw A 1 NR) (rs A 0 NR) (fpw_lt nr_ok) (rs_lt nr_ok) w ho (by kernel_rfl) (by kernel_rfl)) (by rw [decide_eq_true (fpw_one A NR)] <;> rfl) (by kernel_rfl) ?_
    refine s_val (some 148) (.bool true) (fun w => by kernel_rfl) (by kernel_rfl) ?_
    refine s_val (some 8) (.bool true) (fun w => by kernel_rfl) (by kernel_rfl) ?_
    refine s_nil ?_
    refine g_ret (by kernel_rfl) ?_
    show ∃ vs, Res _ _ _ _ vs ∧ _
    refine ⟨[.bool true], (.tmp (.bool true) (by kernel_rfl) .nil), ?_, H58.below⟩
    rfl

theorem powers_walk (A : Nat) (hA : A < big) (B : Nat) (hB : B < big) (C : Nat) (hC : C < big) (n : Int) {p : Prop} (_ : p) (w : World) : Calls Try.prog 11 #[uv A, uv B, uv C, .int .i64 n] w fun e w' => e = .returned (.bool true) ∧ Below w.heap.size w w' := by
  rcases (show n % 2 = 0 ∨ n % 2 = 1 by omega) with h | h
  · exact powers0 A B C hA hB hC n h w
  · exact powers1 A B C hA hB hC n h w

end Go.Proofs.Ytiiichlmmngbbaa
