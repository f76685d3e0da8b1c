/-  SHRUNK
  The reference: all rounds.
-/
import Derived.Test.YtddhadddpllbcaaDoorProg
import Derived.Test.YtddhadddpllbcaaDoorStr
import Derived.Test.YtddhadddpllbcaaDoorKecM
import Derived.Test.YtddhadddpllbcaaDoorKecRR
namespace Go.Proofs.YtddhadddpllbcaaDoor
open Go Go.RowKit Go.Proofs.Kec
set_option linter.unusedVariables false
set_option maxRecDepth 100000 in
set_option maxHeartbeats 2000000 in
theorem mixR_fn (s : List (BitVec 64)) : Fn Tryd.prog 11 #[svn s] (svn (mix s)) := by
  refine Fn.intro (c := codeOf Tryd.f11) [.cell 2 26] 12 Tryd.func11 (by kernel_rfl) (by kernel_rfl) (by kernel_rfl) fun w => ?_
  have H0 := St.start w
  refine g_sreg [0, 1] (by kernel_rfl) (by kernel_rfl) ?_
  refine s_box H0 (some 1) 26 (.tmp 0) (svn s) (by kernel_rfl) (by kernel_rfl) (by kernel_rfl) ?_
  intro b1 w1 H1; clear H0
  refine s_alloc H1 (some 2) 26 (.agg Z25) (by kernel_rfl) (by kernel_rfl) (by kernel_rfl) ?_
  intro b2 w2 H2; clear H1
  refine s_nil ?_
  refine g_seq (by kernel_rfl) ?_
  refine g_sreg [0] (by kernel_rfl) (by kernel_rfl) ?_
  refine s_val (some 3) (.int .i64 0) (fun w => by kernel_rfl) (by kernel_rfl) ?_
  refine s_nil ?_
  refine g_block 0 (by kernel_rfl) ?_
  refine g_first (by kernel_rfl) ?_
  refine g_seq (by kernel_rfl) ?_
  refine g_sreg [0, 1] (by kernel_rfl) (by kernel_rfl) ?_
  refine s_val (some 4) (.int .i64 0) (fun w => by kernel_rfl) (by kernel_rfl) ?_
  refine s_val (some 5) (.bool true) (fun w => by kernel_rfl) (by kernel_rfl) ?_
  refine s_nil ?_
  refine g_cond_t (by kernel_rfl) (by kernel_rfl) ?_
  refine g_skip (by kernel_rfl) ?_
  show WP _ _ _ _ _ _
  refine g_seq (by kernel_rfl) ?_
  refine g_block 1 (by kernel_rfl) ?_
  refine g_reg0 [0, 1, 2, 3] (by kernel_rfl) ?_
  refine s_load H2 (some 8) 26 (.tmp 1) 1 b1 (Value.cells (svn s)) 26 (0, 0) (by kernel_rfl) (by kernel_rfl) (by kernel_rfl) (by kernel_rfl) (by kernel_rfl) ?_
  refine s_val (some 9) (.int .i64 0) (fun w => by kernel_rfl) (by kernel_rfl) ?_
  refine s_call H2 (some 10) 15 #[svn s, .int .i64 0] (svn (mS1 s)) (by have h := roundR_fn s 0 (by omega); rw [show lastB 0 7 = (1 : BitVec 64) from last_mark ⟨0, by decide⟩] at h; exact h) (fun w => by kernel_rfl) (by kernel_rfl) ?_
  intro w3 H3; clear H2
  refine s_store H3 1 [(b2, Obj.cells Z25 26 (0, 0)), (b1, Obj.cells (Value.cells (svn (mS1 s))) 26 (0, 0))] 26 (.tmp 1) (.tmp 10) b1 (0) (Value.cells (svn s)) (Value.cells (svn (mS1 s))) 26 (svn (mS1 s)) (by kernel_rfl) (by kernel_rfl) (by kernel_rfl) (by kernel_rfl) (by kernel_rfl) (by kernel_rfl) (of_decide_eq_true (by kernel_rfl)) (by kernel_rfl) (by kernel_rfl) ?_
  intro w4 H4; clear H3
  refine s_nil ?_
  show WP _ _ _ _ _ _
  refine g_reg0 [0, 1, 2] (by kernel_rfl) ?_
  refine s_val (some 6) (.int .i64 0) (fun w => by kernel_rfl) (by kernel_rfl) ?_
  refine s_val (some 7) (.int .i64 1) (fun w => by kernel_rfl) (by kernel_rfl) ?_
  refine s_val (some 3) (.int .i64 1) (fun w => by kernel_rfl) (by kernel_rfl) ?_
  refine s_nil ?_
  show WPL _ _ _ _ _ _
  refine g_next ?_
  refine g_seq (by kernel_rfl) ?_
  refine g_sreg [0, 1] (by kernel_rfl) (by kernel_rfl) ?_
  refine s_val (some 4) (.int .i64 1) (fun w => by kernel_rfl) (by kernel_rfl) ?_
  refine s_val (some 5) (.bool true) (fun w => by kernel_rfl) (by kernel_rfl) ?_
  refine s_nil ?_
  refine g_cond_t (by kernel_rfl) (by kernel_rfl) ?_
  refine g_skip (by kernel_rfl) ?_
  show WP _ _ _ _ _ _
  refine g_seq (by kernel_rfl) ?_
  refine g_block 1 (by kernel_rfl) ?_
  refine g_reg0 [0, 1, 2, 3] (by kernel_rfl) ?_
  refine s_load H4 (some 8) 26 (.tmp 1) 1 b1 (Value.cells (svn (mS1 s))) 26 (0, 0) (by kernel_rfl) (by kernel_rfl) (by kernel_rfl) (by kernel_rfl) (by kernel_rfl) ?_
  refine s_val (some 9) (.int .i64 1) (fun w => by kernel_rfl) (by kernel_rfl) ?_
  refine s_call H4 (some 10) 15 #[svn (mS1 s), .int .i64 1] (svn (mS2 s)) (by have h := roundR_fn (mS1 s) 1 (by omega); rw [show lastB 1 7 = (32898 : BitVec 64) from last_mark ⟨1, by decide⟩] at h; exact h) (fun w => by kernel_rfl) (by kernel_rfl) ?_
  intro w5 H5; clear H4
  refine s_store H5 1 [(b2, Obj.cells Z25 26 (0, 0)), (b1, Obj.cells (Value.cells (svn (mS2 s))) 26 (0, 0))] 26 (.tmp 1) (.tmp 10) b1 (0) (Value.cells (svn (mS1 s))) (Value.cells (svn (mS2 s))) 26 (svn (mS2 s)) (by kernel_rfl) (by kernel_rfl) (by kernel_rfl) (by kernel_rfl) (by kernel_rfl) (by kernel_rfl) (of_decide_eq_true (by kernel_rfl)) (by kernel_rfl) (by kernel_rfl) ?_
  intro w6 H6; clear H5
  refine s_nil ?_
  show WP _ _ _ _ _ _
  refine g_reg0 [0, 1, 2] (by kernel_rfl) ?_
  refine s_val (some 6) (.int .i64 1) (fun w => by kernel_rfl) (by kernel_rfl) ?_
  refine s_val (some 7) (.int .i64 2) (fun w => by kernel_rfl) (by kernel_rfl) ?_
  refine s_val (some 3) (.int .i64 2) (fun w => by kernel_rfl) (by kernel_rfl) ?_
  refine s_nil ?_
  show WPL _ _ _ _ _ _
  refine g_next ?_
  refine g_seq (by kernel_rfl) ?_
  refine g_sreg [0, 1] (by kernel_rfl) (by kernel_rfl) ?_
  refine s_val (some 4) (.int .i64 2) (fun w => by kernel_rfl) (by kernel_rfl) ?_
  refine s_val (some 5) (.bool true) (fun w => by kernel_rfl) (by kernel_rfl) ?_
  refine s_nil ?_
  refine g_cond_t (by kernel_rfl) (by kernel_rfl) ?_
  refine g_skip (by kernel_rfl) ?_
  show WP _ _ _ _ _ _
  refine g_seq (by kernel_rfl) ?_
  refine g_block 1 (by kernel_rfl) ?_
  refine g_reg0 [0, 1, 2, 3] (by kernel_rfl) ?_
  refine s_load H6 (some 8) 26 (.tmp 1) 1 b1 (Value.cells (svn (mS2 s))) 26 (0, 0) (by kernel_rfl) (by kernel_rfl) (by kernel_rfl) (by kernel_rfl) (by kernel_rfl) ?_
  refine s_val (some 9) (.int .i64 2) (fun w => by kernel_rfl) (by kernel_rfl) ?_
  refine s_call H6 (some 10) 15 #[svn (mS2 s), .int .i64 2] (svn (mS3 s)) (by have h := roundR_fn (mS2 s) 2 (by omega); rw [show lastB 2 7 = (9223372036854808714 : BitVec 64) from last_mark ⟨2, by decide⟩] at h; exact h) (fun w => by kernel_rfl) (by kernel_rfl) ?_
  intro w7 H7; clear H6
  refine s_store H7 1 [(b2, Obj.cells Z25 26 (0, 0)), (b1, Obj.cells (Value.cells (svn (mS3 s))) 26 (0, 0))] 26 (.tmp 1) (.tmp 10) b1 (0) (Value.cells (svn (mS2 s))) (Value.cells (svn (mS3 s))) 26 (svn (mS3 s)) (by kernel_rfl) (by kernel_rfl) (by kernel_rfl) (by kernel_rfl) (by kernel_rfl) (by kernel_rfl) (of_decide_eq_true (by kernel_rfl)) (by kernel_rfl) (by kernel_rfl) ?_
  intro w8 H8; clear H7
  refine s_nil ?_
  show WP _ _ _ _ _ _
  refine g_reg0 [0, 1, 2] (by kernel_rfl) ?_
  refine s_val (some 6) (.int .i64 2) (fun w => by kernel_rfl) (by kernel_rfl) ?_
  refine s_val (some 7) (.int .i64 3) (fun w => by kernel_rfl) (by kernel_rfl) ?_
  refine s_val (some 3) (.int .i64 3) (fun w => by kernel_rfl) (by kernel_rfl) ?_
  refine s_nil ?_
  show WPL _ _ _ _ _ _
  refine g_next ?_
  refine g_seq (by kernel_rfl) ?_
  refine g_sreg [0, 1] (by kernel_rfl) (by kernel_rfl) ?_
  refine s_val (some 4) (.int .i64 3) (fun w => by kernel_rfl) (by kernel_rfl) ?_
  refine s_val (some 5) (.bool true) (fun w => by kernel_rfl) (by kernel_rfl) ?_
  refine s_nil ?_
  refine g_cond_t (by kernel_rfl) (by kernel_rfl) ?_
  refine g_skip (by kernel_rfl) ?_
  show WP _ _ _ _ _ _
  refine g_seq (by kernel_rfl) ?_
  refine g_block 1 (by kernel_rfl) ?_
  refine g_reg0 [0, 1, 2, 3] (by kernel_rfl) ?_
  refine s_load H8 (some 8) 26 (.tmp 1) 1 b1 (Value.cells (svn (mS3 s))) 26 (0, 0) (by kernel_rfl) (by kernel_rfl) (by kernel_rfl) (by kernel_rfl) (by kernel_rfl) ?_
  refine s_val (some 9) (.int .i64 3) (fun w => by kernel_rfl) (by kernel_rfl) ?_
  refine s_call H8 (some 10) 15 #[svn (mS3 s), .int .i64 3] (svn (mS4 s)) (by have h := roundR_fn (mS3 s) 3 (by omega); rw [show lastB 3 7 = (9223372039002292224 : BitVec 64) from last_mark ⟨3, by decide⟩] at h; exact h) (fun w => by kernel_rfl) (by kernel_rfl) ?_
  intro w9 H9; clear H8
  refine s_store H9 1 [(b2, Obj.cells Z25 26 (0, 0)), (b1, Obj.cells (Value.cells (svn (mS4 s))) 26 (0, 0))] 26 (.tmp 1) (.tmp 10) b1 (0) (Value.cells (svn (mS3 s))) (Value.cells (svn (mS4 s))) 26 (svn (mS4 s)) (by kernel_rfl) (by kernel_rfl) (by kernel_rfl) (by kernel_rfl) (by kernel_rfl) (by kernel_rfl) (of_decide_eq_true (by kernel_rfl)) (by kernel_rfl) (by kernel_rfl) ?_
  intro w10 H10; clear H9
  refine s_nil ?_
  show WP _ _ _ _ _ _
  refine g_reg0 [0, 1, 2] (by kernel_rfl) ?_
  refine s_val (some 6) (.int .i64 3) (fun w => by kernel_rfl) (by kernel_rfl) ?_
  refine s_val (some 7) (.int .i64 4) (fun w => by kernel_rfl) (by kernel_rfl) ?_
  refine s_val (some 3) (.int .i64 4) (fun w => by kernel_rfl) (by kernel_rfl) ?_
  refine s_nil ?_
  show WPL _ _ _ _ _ _
  refine g_next ?_
  refine g_seq (by kernel_rfl) ?_
  refine g_sreg [0, 1] (by kernel_rfl) (by kernel_rfl) ?_
  refine s_val (some 4) (.int .i64 4) (fun w => by kernel_rfl) (by kernel_rfl) ?_
  refine s_val (some 5) (.bool true) (fun w => by kernel_rfl) (by kernel_rfl) ?_
  refine s_nil ?_
  refine g_cond_t (by kernel_rfl) (by kernel_rfl) ?_
  refine g_skip (by kernel_rfl) ?_
  show WP _ _ _ _ _ _
  refine g_seq (by kernel_rfl) ?_
  refine g_block 1 (by kernel_rfl) ?_
  refine g_reg0 [0, 1, 2, 3] (by kernel_rfl) ?_
  refine s_load H10 (some 8) 26 (.tmp 1) 1 b1 (Value.cells (svn (mS4 s))) 26 (0, 0) (by kernel_rfl) (by kernel_rfl) (by kernel_rfl) (by kernel_rfl) (by kernel_rfl) ?_
  refine s_val (some 9) (.int .i64 4) (fun w => by kernel_rfl) (by kernel_rfl) ?_
  refine s_call H10 (some 10) 15 #[svn (mS4 s), .int .i64 4] (svn (mS5 s)) (by have h := roundR_fn (mS4 s) 4 (by omega); rw [show lastB 4 7 = (32907 : BitVec 64) from last_mark ⟨4, by decide⟩] at h; exact h) (fun w => by kernel_rfl) (by kernel_rfl) ?_
  intro w11 H11; clear H10
  refine s_store H11 1 [(b2, Obj.cells Z25 26 (0, 0)), (b1, Obj.cells (Value.cells (svn (mS5 s))) 26 (0, 0))] 26 (.tmp 1) (.tmp 10) b1 (0) (Value.cells (svn (mS4 s))) (Value.cells (svn (mS5 s))) 26 (svn (mS5 s)) (by kernel_rfl) (by kernel_rfl) (by kernel_rfl) (by kernel_rfl) (by kernel_rfl) (by kernel_rfl) (of_decide_eq_true (by kernel_rfl)) (by kernel_rfl) (by kernel_rfl) ?_
  intro w12 H12; clear H11
  refine s_nil ?_
  show WP _ _ _ _ _ _
  refine g_reg0 [0, 1, 2] (by kernel_rfl) ?_
  refine s_val (some 6) (.int .i64 4) (fun w => by kernel_rfl) (by kernel_rfl) ?_
  refine s_val (some 7) (.int .i64 5) (fun w => by kernel_rfl) (by kernel_rfl) ?_
  refine s_val (some 3) (.int .i64 5) (fun w => by kernel_rfl) (by kernel_rfl) ?_
  refine s_nil ?_
  show WPL _ _ _ _ _ _
  refine g_next ?_
  refine g_seq (by kernel_rfl) ?_
  refine g_sreg [0, 1] (by kernel_rfl) (by kernel_rfl) ?_
  refine s_val (some 4) (.int .i64 5) (fun w => by kernel_rfl) (by kernel_rfl) ?_
  refine s_val (some 5) (.bool true) (fun w => by kernel_rfl) (by kernel_rfl) ?_
  refine s_nil ?_
  refine g_cond_t (by kernel_rfl) (by kernel_rfl) ?_
  refine g_skip (by kernel_rfl) ?_
  show WP _ _ _ _ _ _
  refine g_seq (by kernel_rfl) ?_
  refine g_block 1 (by kernel_rfl) ?_
  refine g_reg0 [0, 1, 2, 3] (by kernel_rfl) ?_
  refine s_load H12 (some 8) 26 (.tmp 1) 1 b1 (Value.cells (svn (mS5 s))) 26 (0, 0) (by kernel_rfl) (by kernel_rfl) (by kernel_rfl) (by kernel_rfl) (by kernel_rfl) ?_
  refine s_val (some 9) (.int .i64 5) (fun w => by kernel_rfl) (by kernel_rfl) ?_
  refine s_call H12 (some 10) 15 #[svn (mS5 s), .int .i64 5] (svn (mS6 s)) (by have h := roundR_fn (mS5 s) 5 (by omega); rw [show lastB 5 7 = (2147483649 : BitVec 64) from last_mark ⟨5, by decide⟩] at h; exact h) (fun w => by kernel_rfl) (by kernel_rfl) ?_
  intro w13 H13; clear H12
  refine s_store H13 1 [(b2, Obj.cells Z25 26 (0, 0)), (b1, Obj.cells (Value.cells (svn (mS6 s))) 26 (0, 0))] 26 (.tmp 1) (.tmp 10) b1 (0) (Value.cells (svn (mS5 s))) (Value.cells (svn (mS6 s))) 26 (svn (mS6 s)) (by kernel_rfl) (by kernel_rfl) (by kernel_rfl) (by kernel_rfl) (by kernel_rfl) (by kernel_rfl) (of_decide_eq_true (by kernel_rfl)) (by kernel_rfl) (by kernel_rfl) ?_
  intro w14 H14; clear H13
  refine s_nil ?_
  show WP _ _ _ _ _ _
  refine g_reg0 [0, 1, 2] (by kernel_rfl) ?_
  refine s_val (some 6) (.int .i64 5) (fun w => by kernel_rfl) (by kernel_rfl) ?_
  refine s_val (some 7) (.int .i64 6) (fun w => by kernel_rfl) (by kernel_rfl) ?_
  refine s_val (some 3) (.int .i64 6) (fun w => by kernel_rfl) (by kernel_rfl) ?_
  refine s_nil ?_
  show WPL _ _ _ _ _ _
  refine g_next ?_
  refine g_seq (by kernel_rfl) ?_
  refine g_sreg [0, 1] (by kernel_rfl) (by kernel_rfl) ?_
  refine s_val (some 4) (.int .i64 6) (fun w => by kernel_rfl) (by kernel_rfl) ?_
  refine s_val (some 5) (.bool true) (fun w => by kernel_rfl) (by kernel_rfl) ?_
  refine s_nil ?_
  refine g_cond_t (by kernel_rfl) (by kernel_rfl) ?_
  refine g_skip (by kernel_rfl) ?_
  show WP _ _ _ _ _ _
  refine g_seq (by kernel_rfl) ?_
  refine g_block 1 (by kernel_rfl) ?_
  refine g_reg0 [0, 1, 2, 3] (by kernel_rfl) ?_
  refine s_load H14 (some 8) 26 (.tmp 1) 1 b1 (Value.cells (svn (mS6 s))) 26 (0, 0) (by kernel_rfl) (by kernel_rfl) (by kernel_rfl) (by kernel_rfl) (by kernel_rfl) ?_
  refine s_val (some 9) (.int .i64 6) (fun w => by kernel_rfl) (by kernel_rfl) ?_
  refine s_call H14 (some 10) 15 #[svn (mS6 s), .int .i64 6] (svn (mS7 s)) (by have h := roundR_fn (mS6 s) 6 (by omega); rw [show lastB 6 7 = (9223372039002292353 : BitVec 64) from last_mark ⟨6, by decide⟩] at h; exact h) (fun w => by kernel_rfl) (by kernel_rfl) ?_
  intro w15 H15; clear H14
  refine s_store H15 1 [(b2, Obj.cells Z25 26 (0, 0)), (b1, Obj.cells (Value.cells (svn (mS7 s))) 26 (0, 0))] 26 (.tmp 1) (.tmp 10) b1 (0) (Value.cells (svn (mS6 s))) (Value.cells (svn (mS7 s))) 26 (svn (mS7 s)) (by kernel_rfl) (by kernel_rfl) (by kernel_rfl) (by kernel_rfl) (by kernel_rfl) (by kernel_rfl) (of_decide_eq_true (by kernel_rfl)) (by kernel_rfl) (by kernel_rfl) ?_
  intro w16 H16; clear H15
  refine s_nil ?_
  show WP _ _ _ _ _ _
  refine g_reg0 [0, 1, 2] (by kernel_rfl) ?_
  refine s_val (some 6) (.int .i64 6) (fun w => by kernel_rfl) (by kernel_rfl) ?_
  refine s_val (some 7) (.int .i64 7) (fun w => by kernel_rfl) (by kernel_rfl) ?_
  refine s_val (some 3) (.int .i64 7) (fun w => by kernel_rfl) (by kernel_rfl) ?_
  refine s_nil ?_
  show WPL _ _ _ _ _ _
  refine g_next ?_
  refine g_seq (by kernel_rfl) ?_
  refine g_sreg [0, 1] (by kernel_rfl) (by kernel_rfl) ?_
  refine s_val (some 4) (.int .i64 7) (fun w => by kernel_rfl) (by kernel_rfl) ?_
  refine s_val (some 5) (.bool true) (fun w => by kernel_rfl) (by kernel_rfl) ?_
  refine s_nil ?_
  refine g_cond_t (by kernel_rfl) (by kernel_rfl) ?_
  refine g_skip (by kernel_rfl) ?_
  show WP _ _ _ _ _ _
  refine g_seq (by kernel_rfl) ?_
  refine g_block 1 (by kernel_rfl) ?_
  refine g_reg0 [0, 1, 2, 3] (by kernel_rfl) ?_
  refine s_load H16 (some 8) 26 (.tmp 1) 1 b1 (Value.cells (svn (mS7 s))) 26 (0, 0) (by kernel_rfl) (by kernel_rfl) (by kernel_rfl) (by kernel_rfl) (by kernel_rfl) ?_
  refine s_val (some 9) (.int .i64 7) (fun w => by kernel_rfl) (by kernel_rfl) ?_
  refine s_call H16 (some 10) 15 #[svn (mS7 s), .int .i64 7] (svn (mS8 s)) (by have h := roundR_fn (mS7 s) 7 (by omega); rw [show lastB 7 7 = (9223372036854808585 : BitVec 64) from last_mark ⟨7, by decide⟩] at h; exact h) (fun w => by kernel_rfl) (by kernel_rfl) ?_
  intro w17 H17; clear H16
  refine s_store H17 1 [(b2, Obj.cells Z25 26 (0, 0)), (b1, Obj.cells (Value.cells (svn (mS8 s))) 26 (0, 0))] 26 (.tmp 1) (.tmp 10) b1 (0) (Value.cells (svn (mS7 s))) (Value.cells (svn (mS8 s))) 26 (svn (mS8 s)) (by kernel_rfl) (by kernel_rfl) (by kernel_rfl) (by kernel_rfl) (by kernel_rfl) (by kernel_rfl) (of_decide_eq_true (by kernel_rfl)) (by kernel_rfl) (by kernel_rfl) ?_
  intro w18 H18; clear H17
  refine s_nil ?_
  show WP _ _ _ _ _ _
  refine g_reg0 [0, 1, 2] (by kernel_rfl) ?_
  refine s_val (some 6) (.int .i64 7) (fun w => by kernel_rfl) (by kernel_rfl) ?_
  refine s_val (some 7) (.int .i64 8) (fun w => by kernel_rfl) (by kernel_rfl) ?_
  refine s_val (some 3) (.int .i64 8) (fun w => by kernel_rfl) (by kernel_rfl) ?_
  refine s_nil ?_
  show WPL _ _ _ _ _ _
  refine g_next ?_
  refine g_seq (by kernel_rfl) ?_
  refine g_sreg [0, 1] (by kernel_rfl) (by kernel_rfl) ?_
  refine s_val (some 4) (.int .i64 8) (fun w => by kernel_rfl) (by kernel_rfl) ?_
  refine s_val (some 5) (.bool true) (fun w => by kernel_rfl) (by kernel_rfl) ?_
  refine s_nil ?_
  refine g_cond_t (by kernel_rfl) (by kernel_rfl) ?_
  refine g_skip (by kernel_rfl) ?_
  show WP _ _ _ _ _ _
  refine g_seq (by kernel_rfl) ?_
  refine g_block 1 (by kernel_rfl) ?_
  refine g_reg0 [0, 1, 2, 3] (by kernel_rfl) ?_
  refine s_load H18 (some 8) 26 (.tmp 1) 1 b1 (Value.cells (svn (mS8 s))) 26 (0, 0) (by kernel_rfl) (by kernel_rfl) (by kernel_rfl) (by kernel_rfl) (by kernel_rfl) ?_
  refine s_val (some 9) (.int .i64 8) (fun w => by kernel_rfl) (by kernel_rfl) ?_
  refine s_call H18 (some 10) 15 #[svn (mS8 s), .int .i64 8] (svn (mS9 s)) (by have h := roundR_fn (mS8 s) 8 (by omega); rw [show lastB 8 7 = (138 : BitVec 64) from last_mark ⟨8, by decide⟩] at h; exact h) (fun w => by kernel_rfl) (by kernel_rfl) ?_
  intro w19 H19; clear H18
  refine s_store H19 1 [(b2, Obj.cells Z25 26 (0, 0)), (b1, Obj.cells (Value.cells (svn (mS9 s))) 26 (0, 0))] 26 (.tmp 1) (.tmp 10) b1 (0) (Value.cells (svn (mS8 s))) (Value.cells (svn (mS9 s))) 26 (svn (mS9 s)) (by kernel_rfl) (by kernel_rfl) (by kernel_rfl) (by kernel_rfl) (by kernel_rfl) (by kernel_rfl) (of_decide_eq_true (by kernel_rfl)) (by kernel_rfl) (by kernel_rfl) ?_
  intro w20 H20; clear H19
  refine s_nil ?_
  show WP _ _ _ _ _ _
  refine g_reg0 [0, 1, 2] (by kernel_rfl) ?_
  refine s_val (some 6) (.int .i64 8) (fun w => by kernel_rfl) (by kernel_rfl) ?_
  refine s_val (some 7) (.int .i64 9) (fun w => by kernel_rfl) (by kernel_rfl) ?_
  refine s_val (some 3) (.int .i64 9) (fun w => by kernel_rfl) (by kernel_rfl) ?_
  refine s_nil ?_
  show WPL _ _ _ _ _ _
  refine g_next ?_
  refine g_seq (by kernel_rfl) ?_
  refine g_sreg [0, 1] (by kernel_rfl) (by kernel_rfl) ?_
  refine s_val (some 4) (.int .i64 9) (fun w => by kernel_rfl) (by kernel_rfl) ?_
  refine s_val (some 5) (.bool true) (fun w => by kernel_rfl) (by kernel_rfl) ?_
  refine s_nil ?_
  refine g_cond_t (by kernel_rfl) (by kernel_rfl) ?_
  refine g_skip (by kernel_rfl) ?_
  show WP _ _ _ _ _ _
  refine g_seq (by kernel_rfl) ?_
  refine g_block 1 (by kernel_rfl) ?_
  refine g_reg0 [0, 1, 2, 3] (by kernel_rfl) ?_
  refine s_load H20 (some 8) 26 (.tmp 1) 1 b1 (Value.cells (svn (mS9 s))) 26 (0, 0) (by kernel_rfl) (by kernel_rfl) (by kernel_rfl) (by kernel_rfl) (by kernel_rfl) ?_
  refine s_val (some 9) (.int .i64 9) (fun w => by kernel_rfl) (by kernel_rfl) ?_
  refine s_call H20 (some 10) 15 #[svn (mS9 s), .int .i64 9] (svn (mS10 s)) (by have h := roundR_fn (mS9 s) 9 (by omega); rw [show lastB 9 7 = (136 : BitVec 64) from last_mark ⟨9, by decide⟩] at h; exact h) (fun w => by kernel_rfl) (by kernel_rfl) ?_
  intro w21 H21; clear H20
  refine s_store H21 1 [(b2, Obj.cells Z25 26 (0, 0)), (b1, Obj.cells (Value.cells (svn (mS10 s))) 26 (0, 0))] 26 (.tmp 1) (.tmp 10) b1 (0) (Value.cells (svn (mS9 s))) (Value.cells (svn (mS10 s))) 26 (svn (mS10 s)) (by kernel_rfl) (by kernel_rfl) (by kernel_rfl) (by kernel_rfl) (by kernel_rfl) (by kernel_rfl) (of_decide_eq_true (by kernel_rfl)) (by kernel_rfl) (by kernel_rfl) ?_
  intro w22 H22; clear H21
  refine s_nil ?_
  show WP _ _ _ _ _ _
  refine g_reg0 [0, 1, 2] (by kernel_rfl) ?_
  refine s_val (some 6) (.int .i64 9) (fun w => by kernel_rfl) (by kernel_rfl) ?_
  refine s_val (some 7) (.int .i64 10) (fun w => by kernel_rfl) (by kernel_rfl) ?_
  refine s_val (some 3) (.int .i64 10) (fun w => by kernel_rfl) (by kernel_rfl) ?_
  refine s_nil ?_
  show WPL _ _ _ _ _ _
  refine g_next ?_
  refine g_seq (by kernel_rfl) ?_
  refine g_sreg [0, 1] (by kernel_rfl) (by kernel_rfl) ?_
  refine s_val (some 4) (.int .i64 10) (fun w => by kernel_rfl) (by kernel_rfl) ?_
  refine s_val (some 5) (.bool true) (fun w => by kernel_rfl) (by kernel_rfl) ?_
  refine s_nil ?_
  refine g_cond_t (by kernel_rfl) (by kernel_rfl) ?_
  refine g_skip (by kernel_rfl) ?_
  show WP _ _ _ _ _ _
  refine g_seq (by kernel_rfl) ?_
  refine g_block 1 (by kernel_rfl) ?_
  refine g_reg0 [0, 1, 2, 3] (by kernel_rfl) ?_
  refine s_load H22 (some 8) 26 (.tmp 1) 1 b1 (Value.cells (svn (mS10 s))) 26 (0, 0) (by kernel_rfl) (by kernel_rfl) (by kernel_rfl) (by kernel_rfl) (by kernel_rfl) ?_
  refine s_val (some 9) (.int .i64 10) (fun w => by kernel_rfl) (by kernel_rfl) ?_
  refine s_call H22 (some 10) 15 #[svn (mS10 s), .int .i64 10] (svn (mS11 s)) (by have h := roundR_fn (mS10 s) 10 (by omega); rw [show lastB 10 7 = (2147516425 : BitVec 64) from last_mark ⟨10, by decide⟩] at h; exact h) (fun w => by kernel_rfl) (by kernel_rfl) ?_
  intro w23 H23; clear H22
  refine s_store H23 1 [(b2, Obj.cells Z25 26 (0, 0)), (b1, Obj.cells (Value.cells (svn (mS11 s))) 26 (0, 0))] 26 (.tmp 1) (.tmp 10) b1 (0) (Value.cells (svn (mS10 s))) (Value.cells (svn (mS11 s))) 26 (svn (mS11 s)) (by kernel_rfl) (by kernel_rfl) (by kernel_rfl) (by kernel_rfl) (by kernel_rfl) (by kernel_rfl) (of_decide_eq_true (by kernel_rfl)) (by kernel_rfl) (by kernel_rfl) ?_
  intro w24 H24; clear H23
  refine s_nil ?_
  show WP _ _ _ _ _ _
  refine g_reg0 [0, 1, 2] (by kernel_rfl) ?_
  refine s_val (some 6) (.int .i64 10) (fun w => by kernel_rfl) (by kernel_rfl) ?_
  refine s_val (some 7) (.int .i64 11) (fun w => by kernel_rfl) (by kernel_rfl) ?_
  refine s_val (some 3) (.int .i64 11) (fun w => by kernel_rfl) (by kernel_rfl) ?_
  refine s_nil ?_
  show WPL _ _ _ _ _ _
  refine g_next ?_
  refine g_seq (by kernel_rfl) ?_
  refine g_sreg [0, 1] (by kernel_rfl) (by kernel_rfl) ?_
  refine s_val (some 4) (.int .i64 11) (fun w => by kernel_rfl) (by kernel_rfl) ?_
  refine s_val (some 5) (.bool true) (fun w => by kernel_rfl) (by kernel_rfl) ?_
  refine s_nil ?_
  refine g_cond_t (by kernel_rfl) (by kernel_rfl) ?_
  refine g_skip (by kernel_rfl) ?_
  show WP _ _ _ _ _ _
  refine g_seq (by kernel_rfl) ?_
  refine g_block 1 (by kernel_rfl) ?_
  refine g_reg0 [0, 1, 2, 3] (by kernel_rfl) ?_
  refine s_load H24 (some 8) 26 (.tmp 1) 1 b1 (Value.cells (svn (mS11 s))) 26 (0, 0) (by kernel_rfl) (by kernel_rfl) (by kernel_rfl) (by kernel_rfl) (by kernel_rfl) ?_
  refine s_val (some 9) (.int .i64 11) (fun w => by kernel_rfl) (by kernel_rfl) ?_
  refine s_call H24 (some 10) 15 #[svn (mS11 s), .int .i64 11] (svn (mS12 s)) (by have h := roundR_fn (mS11 s) 11 (by omega); rw [show lastB 11 7 = (2147483658 : BitVec 64) from last_mark ⟨11, by decide⟩] at h; exact h) (fun w => by kernel_rfl) (by kernel_rfl) ?_
  intro w25 H25; clear H24
  refine s_store H25 1 [(b2, Obj.cells Z25 26 (0, 0)), (b1, Obj.cells (Value.cells (svn (mS12 s))) 26 (0, 0))] 26 (.tmp 1) (.tmp 10) b1 (0) (Value.cells (svn (mS11 s))) (Value.cells (svn (mS12 s))) 26 (svn (mS12 s)) (by kernel_rfl) (by kernel_rfl) (by kernel_rfl) (by kernel_rfl) (by kernel_rfl) (by kernel_rfl) (of_decide_eq_true (by kernel_rfl)) (by kernel_rfl) (by kernel_rfl) ?_
  intro w26 H26; clear H25
  refine s_nil ?_
  show WP _ _ _ _ _ _
  refine g_reg0 [0, 1, 2] (by kernel_rfl) ?_
  refine s_val (some 6) (.int .i64 11) (fun w => by kernel_rfl) (by kernel_rfl) ?_
  refine s_val (some 7) (.int .i64 12) (fun w => by kernel_rfl) (by kernel_rfl) ?_
  refine s_val (some 3) (.int .i64 12) (fun w => by kernel_rfl) (by kernel_rfl) ?_
  refine s_nil ?_
  show WPL _ _ _ _ _ _
  refine g_next ?_
  refine g_seq (by kernel_rfl) ?_
  refine g_sreg [0, 1] (by kernel_rfl) (by kernel_rfl) ?_
  refine s_val (some 4) (.int .i64 12) (fun w => by kernel_rfl) (by kernel_rfl) ?_
  refine s_val (some 5) (.bool true) (fun w => by kernel_rfl) (by kernel_rfl) ?_
  refine s_nil ?_
  refine g_cond_t (by kernel_rfl) (by kernel_rfl) ?_
  refine g_skip (by kernel_rfl) ?_
  show WP _ _ _ _ _ _
  refine g_seq (by kernel_rfl) ?_
  refine g_block 1 (by kernel_rfl) ?_
  refine g_reg0 [0, 1, 2, 3] (by kernel_rfl) ?_
  refine s_load H26 (some 8) 26 (.tmp 1) 1 b1 (Value.cells (svn (mS12 s))) 26 (0, 0) (by kernel_rfl) (by kernel_rfl) (by kernel_rfl) (by kernel_rfl) (by kernel_rfl) ?_
  refine s_val (some 9) (.int .i64 12) (fun w => by kernel_rfl) (by kernel_rfl) ?_
  refine s_call H26 (some 10) 15 #[svn (mS12 s), .int .i64 12] (svn (mS13 s)) (by have h := roundR_fn (mS12 s) 12 (by omega); rw [show lastB 12 7 = (2147516555 : BitVec 64) from last_mark ⟨12, by decide⟩] at h; exact h) (fun w => by kernel_rfl) (by kernel_rfl) ?_
  intro w27 H27; clear H26
  refine s_store H27 1 [(b2, Obj.cells Z25 26 (0, 0)), (b1, Obj.cells (Value.cells (svn (mS13 s))) 26 (0, 0))] 26 (.tmp 1) (.tmp 10) b1 (0) (Value.cells (svn (mS12 s))) (Value.cells (svn (mS13 s))) 26 (svn (mS13 s)) (by kernel_rfl) (by kernel_rfl) (by kernel_rfl) (by kernel_rfl) (by kernel_rfl) (by kernel_rfl) (of_decide_eq_true (by kernel_rfl)) (by kernel_rfl) (by kernel_rfl) ?_
  intro w28 H28; clear H27
  refine s_nil ?_
  show WP _ _ _ _ _ _
  refine g_reg0 [0, 1, 2] (by kernel_rfl) ?_
  refine s_val (some 6) (.int .i64 12) (fun w => by kernel_rfl) (by kernel_rfl) ?_
  refine s_val (some 7) (.int .i64 13) (fun w => by kernel_rfl) (by kernel_rfl) ?_
  refine s_val (some 3) (.int .i64 13) (fun w => by kernel_rfl) (by kernel_rfl) ?_
  refine s_nil ?_
  show WPL _ _ _ _ _ _
  refine g_next ?_
  refine g_seq (by kernel_rfl) ?_
  refine g_sreg [0, 1] (by kernel_rfl) (by kernel_rfl) ?_
  refine s_val (some 4) (.int .i64 13) (fun w => by kernel_rfl) (by kernel_rfl) ?_
  refine s_val (some 5) (.bool true) (fun w => by kernel_rfl) (by kernel_rfl) ?_
  refine s_nil ?_
  refine g_cond_t (by kernel_rfl) (by kernel_rfl) ?_
  refine g_skip (by kernel_rfl) ?_
  show WP _ _ _ _ _ _
  refine g_seq (by kernel_rfl) ?_
  refine g_block 1 (by kernel_rfl) ?_
  refine g_reg0 [0, 1, 2, 3] (by kernel_rfl) ?_
  refine s_load H28 (some 8) 26 (.tmp 1) 1 b1 (Value.cells (svn (mS13 s))) 26 (0, 0) (by kernel_rfl) (by kernel_rfl) (by kernel_rfl) (by kernel_rfl) (by kernel_rfl) ?_
  refine s_val (some 9) (.int .i64 13) (fun w => by kernel_rfl) (by kernel_rfl) ?_
  refine s_call H28 (some 10) 15 #[svn (mS13 s), .int .i64 13] (svn (mS14 s)) (by have h := roundR_fn (mS13 s) 13 (by omega); rw [show lastB 13 7 = (9223372036854775947 : BitVec 64) from last_mark ⟨13, by decide⟩] at h; exact h) (fun w => by kernel_rfl) (by kernel_rfl) ?_
  intro w29 H29; clear H28
  refine s_store H29 1 [(b2, Obj.cells Z25 26 (0, 0)), (b1, Obj.cells (Value.cells (svn (mS14 s))) 26 (0, 0))] 26 (.tmp 1) (.tmp 10) b1 (0) (Value.cells (svn (mS13 s))) (Value.cells (svn (mS14 s))) 26 (svn (mS14 s)) (by kernel_rfl) (by kernel_rfl) (by kernel_rfl) (by kernel_rfl) (by kernel_rfl) (by kernel_rfl) (of_decide_eq_true (by kernel_rfl)) (by kernel_rfl) (by kernel_rfl) ?_
  intro w30 H30; clear H29
  refine s_nil ?_
  show WP _ _ _ _ _ _
  refine g_reg0 [0, 1, 2] (by kernel_rfl) ?_
  refine s_val (some 6) (.int .i64 13) (fun w => by kernel_rfl) (by kernel_rfl) ?_
  refine s_val (some 7) (.int .i64 14) (fun w => by kernel_rfl) (by kernel_rfl) ?_
  refine s_val (some 3) (.int .i64 14) (fun w => by kernel_rfl) (by kernel_rfl) ?_
  refine s_nil ?_
  show WPL _ _ _ _ _ _
  refine g_next ?_
  refine g_seq (by kernel_rfl) ?_
  refine g_sreg [0, 1] (by kernel_rfl) (by kernel_rfl) ?_
  refine s_val (some 4) (.int .i64 14) (fun w => by kernel_rfl) (by kernel_rfl) ?_
  refine s_val (some 5) (.bool true) (fun w => by kernel_rfl) (by kernel_rfl) ?_
  refine s_nil ?_
  refine g_cond_t (by kernel_rfl) (by kernel_rfl) ?_
  refine g_skip (by kernel_rfl) ?_
  show WP _ _ _ _ _ _
  refine g_seq (by kernel_rfl) ?_
  refine g_block 1 (by kernel_rfl) ?_
  refine g_reg0 [0, 1, 2, 3] (by kernel_rfl) ?_
  refine s_load H30 (some 8) 26 (.tmp 1) 1 b1 (Value.cells (svn (mS14 s))) 26 (0, 0) (by kernel_rfl) (by kernel_rfl) (by kernel_rfl) (by kernel_rfl) (by kernel_rfl) ?_
  refine s_val (some 9) (.int .i64 14) (fun w => by kernel_rfl) (by kernel_rfl) ?_
  refine s_call H30 (some 10) 15 #[svn (mS14 s), .int .i64 14] (svn (mS15 s)) (by have h := roundR_fn (mS14 s) 14 (by omega); rw [show lastB 14 7 = (9223372036854808713 : BitVec 64) from last_mark ⟨14, by decide⟩] at h; exact h) (fun w => by kernel_rfl) (by kernel_rfl) ?_
  intro w31 H31; clear H30
  refine s_store H31 1 [(b2, Obj.cells Z25 26 (0, 0)), (b1, Obj.cells (Value.cells (svn (mS15 s))) 26 (0, 0))] 26 (.tmp 1) (.tmp 10) b1 (0) (Value.cells (svn (mS14 s))) (Value.cells (svn (mS15 s))) 26 (svn (mS15 s)) (by kernel_rfl) (by kernel_rfl) (by kernel_rfl) (by kernel_rfl) (by kernel_rfl) (by kernel_rfl) (of_decide_eq_true (by kernel_rfl)) (by kernel_rfl) (by kernel_rfl) ?_
  intro w32 H32; clear H31
  refine s_nil ?_
  show WP _ _ _ _ _ _
  refine g_reg0 [0, 1, 2] (by kernel_rfl) ?_
  refine s_val (some 6) (.int .i64 14) (fun w => by kernel_rfl) (by kernel_rfl) ?_
  refine s_val (some 7) (.int .i64 15) (fun w => by kernel_rfl) (by kernel_rfl) ?_
  refine s_val (some 3) (.int .i64 15) (fun w => by kernel_rfl) (by kernel_rfl) ?_
  refine s_nil ?_
  show WPL _ _ _ _ _ _
  refine g_next ?_
  refine g_seq (by kernel_rfl) ?_
  refine g_sreg [0, 1] (by kernel_rfl) (by kernel_rfl) ?_
  refine s_val (some 4) (.int .i64 15) (fun w => by kernel_rfl) (by kernel_rfl) ?_
  refine s_val (some 5) (.bool true) (fun w => by kernel_rfl) (by kernel_rfl) ?_
  refine s_nil ?_
  refine g_cond_t (by kernel_rfl) (by kernel_rfl) ?_
  refine g_skip (by kernel_rfl) ?_
  show WP _ _ _ _ _ _
  refine g_seq (by kernel_rfl) ?_
  refine g_block 1 (by kernel_rfl) ?_
  refine g_reg0 [0, 1, 2, 3] (by kernel_rfl) ?_
  refine s_load H32 (some 8) 26 (.tmp 1) 1 b1 (Value.cells (svn (mS15 s))) 26 (0, 0) (by kernel_rfl) (by kernel_rfl) (by kernel_rfl) (by kernel_rfl) (by kernel_rfl) ?_
  refine s_val (some 9) (.int .i64 15) (fun w => by kernel_rfl) (by kernel_rfl) ?_
  refine s_call H32 (some 10) 15 #[svn (mS15 s), .int .i64 15] (svn (mS16 s)) (by have h := roundR_fn (mS15 s) 15 (by omega); rw [show lastB 15 7 = (9223372036854808579 : BitVec 64) from last_mark ⟨15, by decide⟩] at h; exact h) (fun w => by kernel_rfl) (by kernel_rfl) ?_
  intro w33 H33; clear H32
  refine s_store H33 1 [(b2, Obj.cells Z25 26 (0, 0)), (b1, Obj.cells (Value.cells (svn (mS16 s))) 26 (0, 0))] 26 (.tmp 1) (.tmp 10) b1 (0) (Value.cells (svn (mS15 s))) (Value.cells (svn (mS16 s))) 26 (svn (mS16 s)) (by kernel_rfl) (by kernel_rfl) (by kernel_rfl) (by kernel_rfl) (by kernel_rfl) (by kernel_rfl) (of_decide_eq_true (by kernel_rfl)) (by kernel_rfl) (by kernel_rfl) ?_
  intro w34 H34; clear H33
  refine s_nil ?_
  show WP _ _ _ _ _ _
  refine g_reg0 [0, 1, 2] (by kernel_rfl) ?_
  refine s_val (some 6) (.int .i64 15) (fun w => by kernel_rfl) (by kernel_rfl) ?_
  refine s_val (some 7) (.int .i64 16) (fun w => by kernel_rfl) (by kernel_rfl) ?_
  refine s_val (some 3) (.int .i64 16) (fun w => by kernel_rfl) (by kernel_rfl) ?_
  refine s_nil ?_
  show WPL _ _ _ _ _ _
  refine g_next ?_
  refine g_seq (by kernel_rfl) ?_
  refine g_sreg [0, 1] (by kernel_rfl) (by kernel_rfl) ?_
  refine s_val (some 4) (.int .i64 16) (fun w => by kernel_rfl) (by kernel_rfl) ?_
  refine s_val (some 5) (.bool true) (fun w => by kernel_rfl) (by kernel_rfl) ?_
  refine s_nil ?_
  refine g_cond_t (by kernel_rfl) (by kernel_rfl) ?_
  refine g_skip (by kernel_rfl) ?_
  show WP _ _ _ _ _ _
  refine g_seq (by kernel_rfl) ?_
  refine g_block 1 (by kernel_rfl) ?_
  refine g_reg0 [0, 1, 2, 3] (by kernel_rfl) ?_
  refine s_load H34 (some 8) 26 (.tmp 1) 1 b1 (Value.cells (svn (mS16 s))) 26 (0, 0) (by kernel_rfl) (by kernel_rfl) (by kernel_rfl) (by kernel_rfl) (by kernel_rfl) ?_
  refine s_val (some 9) (.int .i64 16) (fun w => by kernel_rfl) (by kernel_rfl) ?_
  refine s_call H34 (some 10) 15 #[svn (mS16 s), .int .i64 16] (svn (mS17 s)) (by have h := roundR_fn (mS16 s) 16 (by omega); rw [show lastB 16 7 = (9223372036854808578 : BitVec 64) from last_mark ⟨16, by decide⟩] at h; exact h) (fun w => by kernel_rfl) (by kernel_rfl) ?_
  intro w35 H35; clear H34
  refine s_store H35 1 [(b2, Obj.cells Z25 26 (0, 0)), (b1, Obj.cells (Value.cells (svn (mS17 s))) 26 (0, 0))] 26 (.tmp 1) (.tmp 10) b1 (0) (Value.cells (svn (mS16 s))) (Value.cells (svn (mS17 s))) 26 (svn (mS17 s)) (by kernel_rfl) (by kernel_rfl) (by kernel_rfl) (by kernel_rfl) (by kernel_rfl) (by kernel_rfl) (of_decide_eq_true (by kernel_rfl)) (by kernel_rfl) (by kernel_rfl) ?_
  intro w36 H36; clear H35
  refine s_nil ?_
  show WP _ _ _ _ _ _
  refine g_reg0 [0, 1, 2] (by kernel_rfl) ?_
  refine s_val (some 6) (.int .i64 16) (fun w => by kernel_rfl) (by kernel_rfl) ?_
  refine s_val (some 7) (.int .i64 17) (fun w => by kernel_rfl) (by kernel_rfl) ?_
  refine s_val (some 3) (.int .i64 17) (fun w => by kernel_rfl) (by kernel_rfl) ?_
  refine s_nil ?_
  show WPL _ _ _ _ _ _
  refine g_next ?_
  refine g_seq (by kernel_rfl) ?_
  refine g_sreg [0, 1] (by kernel_rfl) (by kernel_rfl) ?_
  refine s_val (some 4) (.int .i64 17) (fun w => by kernel_rfl) (by kernel_rfl) ?_
  refine s_val (some 5) (.bool true) (fun w => by kernel_rfl) (by kernel_rfl) ?_
  refine s_nil ?_
  refine g_cond_t (by kernel_rfl) (by kernel_rfl) ?_
  refine g_skip (by kernel_rfl) ?_
  show WP _ _ _ _ _ _
  refine g_seq (by kernel_rfl) ?_
  refine g_block 1 (by kernel_rfl) ?_
  refine g_reg0 [0, 1, 2, 3] (by kernel_rfl) ?_
  refine s_load H36 (some 8) 26 (.tmp 1) 1 b1 (Value.cells (svn (mS17 s))) 26 (0, 0) (by kernel_rfl) (by kernel_rfl) (by kernel_rfl) (by kernel_rfl) (by kernel_rfl) ?_
  refine s_val (some 9) (.int .i64 17) (fun w => by kernel_rfl) (by kernel_rfl) ?_
  refine s_call H36 (some 10) 15 #[svn (mS17 s), .int .i64 17] (svn (mS18 s)) (by have h := roundR_fn (mS17 s) 17 (by omega); rw [show lastB 17 7 = (9223372036854775936 : BitVec 64) from last_mark ⟨17, by decide⟩] at h; exact h) (fun w => by kernel_rfl) (by kernel_rfl) ?_
  intro w37 H37; clear H36
  refine s_store H37 1 [(b2, Obj.cells Z25 26 (0, 0)), (b1, Obj.cells (Value.cells (svn (mS18 s))) 26 (0, 0))] 26 (.tmp 1) (.tmp 10) b1 (0) (Value.cells (svn (mS17 s))) (Value.cells (svn (mS18 s))) 26 (svn (mS18 s)) (by kernel_rfl) (by kernel_rfl) (by kernel_rfl) (by kernel_rfl) (by kernel_rfl) (by kernel_rfl) (of_decide_eq_true (by kernel_rfl)) (by kernel_rfl) (by kernel_rfl) ?_
  intro w38 H38; clear H37
  refine s_nil ?_
  show WP _ _ _ _ _ _
  refine g_reg0 [0, 1, 2] (by kernel_rfl) ?_
  refine s_val (some 6) (.int .i64 17) (fun w => by kernel_rfl) (by kernel_rfl) ?_
  refine s_val (some 7) (.int .i64 18) (fun w => by kernel_rfl) (by kernel_rfl) ?_
  refine s_val (some 3) (.int .i64 18) (fun w => by kernel_rfl) (by kernel_rfl) ?_
  refine s_nil ?_
  show WPL _ _ _ _ _ _
  refine g_next ?_
  refine g_seq (by kernel_rfl) ?_
  refine g_sreg [0, 1] (by kernel_rfl) (by kernel_rfl) ?_
  refine s_val (some 4) (.int .i64 18) (fun w => by kernel_rfl) (by kernel_rfl) ?_
  refine s_val (some 5) (.bool true) (fun w => by kernel_rfl) (by kernel_rfl) ?_
  refine s_nil ?_
  refine g_cond_t (by kernel_rfl) (by kernel_rfl) ?_
  refine g_skip (by kernel_rfl) ?_
  show WP _ _ _ _ _ _
  refine g_seq (by kernel_rfl) ?_
  refine g_block 1 (by kernel_rfl) ?_
  refine g_reg0 [0, 1, 2, 3] (by kernel_rfl) ?_
  refine s_load H38 (some 8) 26 (.tmp 1) 1 b1 (Value.cells (svn (mS18 s))) 26 (0, 0) (by kernel_rfl) (by kernel_rfl) (by kernel_rfl) (by kernel_rfl) (by kernel_rfl) ?_
  refine s_val (some 9) (.int .i64 18) (fun w => by kernel_rfl) (by kernel_rfl) ?_
  refine s_call H38 (some 10) 15 #[svn (mS18 s), .int .i64 18] (svn (mS19 s)) (by have h := roundR_fn (mS18 s) 18 (by omega); rw [show lastB 18 7 = (32778 : BitVec 64) from last_mark ⟨18, by decide⟩] at h; exact h) (fun w => by kernel_rfl) (by kernel_rfl) ?_
  intro w39 H39; clear H38
  refine s_store H39 1 [(b2, Obj.cells Z25 26 (0, 0)), (b1, Obj.cells (Value.cells (svn (mS19 s))) 26 (0, 0))] 26 (.tmp 1) (.tmp 10) b1 (0) (Value.cells (svn (mS18 s))) (Value.cells (svn (mS19 s))) 26 (svn (mS19 s)) (by kernel_rfl) (by kernel_rfl) (by kernel_rfl) (by kernel_rfl) (by kernel_rfl) (by kernel_rfl) (of_decide_eq_true (by kernel_rfl)) (by kernel_rfl) (by kernel_rfl) ?_
  intro w40 H40; clear H39
  refine s_nil ?_
  show WP _ _ _ _ _ _
  refine g_reg0 [0, 1, 2] (by kernel_rfl) ?_
  refine s_val (some 6) (.int .i64 18) (fun w => by kernel_rfl) (by kernel_rfl) ?_
  refine s_val (some 7) (.int .i64 19) (fun w => by kernel_rfl) (by kernel_rfl) ?_
  refine s_val (some 3) (.int .i64 19) (fun w => by kernel_rfl) (by kernel_rfl) ?_
  refine s_nil ?_
  show WPL _ _ _ _ _ _
  refine g_next ?_
  refine g_seq (by kernel_rfl) ?_
  refine g_sreg [0, 1] (by kernel_rfl) (by kernel_rfl) ?_
  refine s_val (some 4) (.int .i64 19) (fun w => by kernel_rfl) (by kernel_rfl) ?_
  refine s_val (some 5) (.bool true) (fun w => by kernel_rfl) (by kernel_rfl) ?_
  refine s_nil ?_
  refine g_cond_t (by kernel_rfl) (by kernel_rfl) ?_
  refine g_skip (by kernel_rfl) ?_
  show WP _ _ _ _ _ _
  refine g_seq (by kernel_rfl) ?_
  refine g_block 1 (by kernel_rfl) ?_
  refine g_reg0 [0, 1, 2, 3] (by kernel_rfl) ?_
  refine s_load H40 (some 8) 26 (.tmp 1) 1 b1 (Value.cells (svn (mS19 s))) 26 (0, 0) (by kernel_rfl) (by kernel_rfl) (by kernel_rfl) (by kernel_rfl) (by kernel_rfl) ?_
  refine s_val (some 9) (.int .i64 19) (fun w => by kernel_rfl) (by kernel_rfl) ?_
  refine s_call H40 (some 10) 15 #[svn (mS19 s), .int .i64 19] (svn (mS20 s)) (by have h := roundR_fn (mS19 s) 19 (by omega); rw [show lastB 19 7 = (9223372039002259466 : BitVec 64) from last_mark ⟨19, by decide⟩] at h; exact h) (fun w => by kernel_rfl) (by kernel_rfl) ?_
  intro w41 H41; clear H40
  refine s_store H41 1 [(b2, Obj.cells Z25 26 (0, 0)), (b1, Obj.cells (Value.cells (svn (mS20 s))) 26 (0, 0))] 26 (.tmp 1) (.tmp 10) b1 (0) (Value.cells (svn (mS19 s))) (Value.cells (svn (mS20 s))) 26 (svn (mS20 s)) (by kernel_rfl) (by kernel_rfl) (by kernel_rfl) (by kernel_rfl) (by kernel_rfl) (by kernel_rfl) (of_decide_eq_true (by kernel_rfl)) (by kernel_rfl) (by kernel_rfl) ?_
  intro w42 H42; clear H41
  refine s_nil ?_
  show WP _ _ _ _ _ _
  refine g_reg0 [0, 1, 2] (by kernel_rfl) ?_
  refine s_val (some 6) (.int .i64 19) (fun w => by kernel_rfl) (by kernel_rfl) ?_
  refine s_val (some 7) (.int .i64 20) (fun w => by kernel_rfl) (by kernel_rfl) ?_
  refine s_val (some 3) (.int .i64 20) (fun w => by kernel_rfl) (by kernel_rfl) ?_
  refine s_nil ?_
  show WPL _ _ _ _ _ _
  refine g_next ?_
  refine g_seq (by kernel_rfl) ?_
  refine g_sreg [0, 1] (by kernel_rfl) (by kernel_rfl) ?_
  refine s_val (some 4) (.int .i64 20) (fun w => by kernel_rfl) (by kernel_rfl) ?_
  refine s_val (some 5) (.bool true) (fun w => by kernel_rfl) (by kernel_rfl) ?_
  refine s_nil ?_
  refine g_cond_t (by kernel_rfl) (by kernel_rfl) ?_
  refine g_skip (by kernel_rfl) ?_
  show WP _ _ _ _ _ _
  refine g_seq (by kernel_rfl) ?_
  refine g_block 1 (by kernel_rfl) ?_
  refine g_reg0 [0, 1, 2, 3] (by kernel_rfl) ?_
  refine s_load H42 (some 8) 26 (.tmp 1) 1 b1 (Value.cells (svn (mS20 s))) 26 (0, 0) (by kernel_rfl) (by kernel_rfl) (by kernel_rfl) (by kernel_rfl) (by kernel_rfl) ?_
  refine s_val (some 9) (.int .i64 20) (fun w => by kernel_rfl) (by kernel_rfl) ?_
  refine s_call H42 (some 10) 15 #[svn (mS20 s), .int .i64 20] (svn (mS21 s)) (by have h := roundR_fn (mS20 s) 20 (by omega); rw [show lastB 20 7 = (9223372039002292353 : BitVec 64) from last_mark ⟨20, by decide⟩] at h; exact h) (fun w => by kernel_rfl) (by kernel_rfl) ?_
  intro w43 H43; clear H42
  refine s_store H43 1 [(b2, Obj.cells Z25 26 (0, 0)), (b1, Obj.cells (Value.cells (svn (mS21 s))) 26 (0, 0))] 26 (.tmp 1) (.tmp 10) b1 (0) (Value.cells (svn (mS20 s))) (Value.cells (svn (mS21 s))) 26 (svn (mS21 s)) (by kernel_rfl) (by kernel_rfl) (by kernel_rfl) (by kernel_rfl) (by kernel_rfl) (by kernel_rfl) (of_decide_eq_true (by kernel_rfl)) (by kernel_rfl) (by kernel_rfl) ?_
  intro w44 H44; clear H43
  refine s_nil ?_
  show WP _ _ _ _ _ _
  refine g_reg0 [0, 1, 2] (by kernel_rfl) ?_
  refine s_val (some 6) (.int .i64 20) (fun w => by kernel_rfl) (by kernel_rfl) ?_
  refine s_val (some 7) (.int .i64 21) (fun w => by kernel_rfl) (by kernel_rfl) ?_
  refine s_val (some 3) (.int .i64 21) (fun w => by kernel_rfl) (by kernel_rfl) ?_
  refine s_nil ?_
  show WPL _ _ _ _ _ _
  refine g_next ?_
  refine g_seq (by kernel_rfl) ?_
  refine g_sreg [0, 1] (by kernel_rfl) (by kernel_rfl) ?_
  refine s_val (some 4) (.int .i64 21) (fun w => by kernel_rfl) (by kernel_rfl) ?_
  refine s_val (some 5) (.bool true) (fun w => by kernel_rfl) (by kernel_rfl) ?_
  refine s_nil ?_
  refine g_cond_t (by kernel_rfl) (by kernel_rfl) ?_
  refine g_skip (by kernel_rfl) ?_
  show WP _ _ _ _ _ _
  refine g_seq (by kernel_rfl) ?_
  refine g_block 1 (by kernel_rfl) ?_
  refine g_reg0 [0, 1, 2, 3] (by kernel_rfl) ?_
  refine s_load H44 (some 8) 26 (.tmp 1) 1 b1 (Value.cells (svn (mS21 s))) 26 (0, 0) (by kernel_rfl) (by kernel_rfl) (by kernel_rfl) (by kernel_rfl) (by kernel_rfl) ?_
  refine s_val (some 9) (.int .i64 21) (fun w => by kernel_rfl) (by kernel_rfl) ?_
  refine s_call H44 (some 10) 15 #[svn (mS21 s), .int .i64 21] (svn (mS22 s)) (by have h := roundR_fn (mS21 s) 21 (by omega); rw [show lastB 21 7 = (9223372036854808704 : BitVec 64) from last_mark ⟨21, by decide⟩] at h; exact h) (fun w => by kernel_rfl) (by kernel_rfl) ?_
  intro w45 H45; clear H44
  refine s_store H45 1 [(b2, Obj.cells Z25 26 (0, 0)), (b1, Obj.cells (Value.cells (svn (mS22 s))) 26 (0, 0))] 26 (.tmp 1) (.tmp 10) b1 (0) (Value.cells (svn (mS21 s))) (Value.cells (svn (mS22 s))) 26 (svn (mS22 s)) (by kernel_rfl) (by kernel_rfl) (by kernel_rfl) (by kernel_rfl) (by kernel_rfl) (by kernel_rfl) (of_decide_eq_true (by kernel_rfl)) (by kernel_rfl) (by kernel_rfl) ?_
  intro w46 H46; clear H45
  refine s_nil ?_
  show WP _ _ _ _ _ _
  refine g_reg0 [0, 1, 2] (by kernel_rfl) ?_
  refine s_val (some 6) (.int .i64 21) (fun w => by kernel_rfl) (by kernel_rfl) ?_
  refine s_val (some 7) (.int .i64 22) (fun w => by kernel_rfl) (by kernel_rfl) ?_
  refine s_val (some 3) (.int .i64 22) (fun w => by kernel_rfl) (by kernel_rfl) ?_
  refine s_nil ?_
  show WPL _ _ _ _ _ _
  refine g_next ?_
  refine g_seq (by kernel_rfl) ?_
  refine g_sreg [0, 1] (by kernel_rfl) (by kernel_rfl) ?_
  refine s_val (some 4) (.int .i64 22) (fun w => by kernel_rfl) (by kernel_rfl) ?_
  refine s_val (some 5) (.bool true) (fun w => by kernel_rfl) (by kernel_rfl) ?_
  refine s_nil ?_
  refine g_cond_t (by kernel_rfl) (by kernel_rfl) ?_
  refine g_skip (by kernel_rfl) ?_
  show WP _ _ _ _ _ _
  refine g_seq (by kernel_rfl) ?_
  refine g_block 1 (by kernel_rfl) ?_
  refine g_reg0 [0, 1, 2, 3] (by kernel_rfl) ?_
  refine s_load H46 (some 8) 26 (.tmp 1) 1 b1 (Value.cells (svn (mS22 s))) 26 (0, 0) (by kernel_rfl) (by kernel_rfl) (by kernel_rfl) (by kernel_rfl) (by kernel_rfl) ?_
  refine s_val (some 9) (.int .i64 22) (fun w => by kernel_rfl) (by kernel_rfl) ?_
  refine s_call H46 (some 10) 15 #[svn (mS22 s), .int .i64 22] (svn (mS23 s)) (by have h := roundR_fn (mS22 s) 22 (by omega); rw [show lastB 22 7 = (2147483649 : BitVec 64) from last_mark ⟨22, by decide⟩] at h; exact h) (fun w => by kernel_rfl) (by kernel_rfl) ?_
  intro w47 H47; clear H46
  refine s_store H47 1 [(b2, Obj.cells Z25 26 (0, 0)), (b1, Obj.cells (Value.cells (svn (mS23 s))) 26 (0, 0))] 26 (.tmp 1) (.tmp 10) b1 (0) (Value.cells (svn (mS22 s))) (Value.cells (svn (mS23 s))) 26 (svn (mS23 s)) (by kernel_rfl) (by kernel_rfl) (by kernel_rfl) (by kernel_rfl) (by kernel_rfl) (by kernel_rfl) (of_decide_eq_true (by kernel_rfl)) (by kernel_rfl) (by kernel_rfl) ?_
  intro w48 H48; clear H47
  refine s_nil ?_
  show WP _ _ _ _ _ _
  refine g_reg0 [0, 1, 2] (by kernel_rfl) ?_
  refine s_val (some 6) (.int .i64 22) (fun w => by kernel_rfl) (by kernel_rfl) ?_
  refine s_val (some 7) (.int .i64 23) (fun w => by kernel_rfl) (by kernel_rfl) ?_
  refine s_val (some 3) (.int .i64 23) (fun w => by kernel_rfl) (by kernel_rfl) ?_
  refine s_nil ?_
  show WPL _ _ _ _ _ _
  refine g_next ?_
  refine g_seq (by kernel_rfl) ?_
  refine g_sreg [0, 1] (by kernel_rfl) (by kernel_rfl) ?_
  refine s_val (some 4) (.int .i64 23) (fun w => by kernel_rfl) (by kernel_rfl) ?_
  refine s_val (some 5) (.bool true) (fun w => by kernel_rfl) (by kernel_rfl) ?_
  refine s_nil ?_
  refine g_cond_t (by kernel_rfl) (by kernel_rfl) ?_
  refine g_skip (by kernel_rfl) ?_
  show WP _ _ _ _ _ _
  refine g_seq (by kernel_rfl) ?_
  refine g_block 1 (by kernel_rfl) ?_
  refine g_reg0 [0, 1, 2, 3] (by kernel_rfl) ?_
  refine s_load H48 (some 8) 26 (.tmp 1) 1 b1 (Value.cells (svn (mS23 s))) 26 (0, 0) (by kernel_rfl) (by kernel_rfl) (by kernel_rfl) (by kernel_rfl) (by kernel_rfl) ?_
  refine s_val (some 9) (.int .i64 23) (fun w => by kernel_rfl) (by kernel_rfl) ?_
  refine s_call H48 (some 10) 15 #[svn (mS23 s), .int .i64 23] (svn (mS24 s)) (by have h := roundR_fn (mS23 s) 23 (by omega); rw [show lastB 23 7 = (9223372039002292232 : BitVec 64) from last_mark ⟨23, by decide⟩] at h; exact h) (fun w => by kernel_rfl) (by kernel_rfl) ?_
  intro w49 H49; clear H48
  refine s_store H49 1 [(b2, Obj.cells Z25 26 (0, 0)), (b1, Obj.cells (Value.cells (svn (mS24 s))) 26 (0, 0))] 26 (.tmp 1) (.tmp 10) b1 (0) (Value.cells (svn (mS23 s))) (Value.cells (svn (mS24 s))) 26 (svn (mS24 s)) (by kernel_rfl) (by kernel_rfl) (by kernel_rfl) (by kernel_rfl) (by kernel_rfl) (by kernel_rfl) (of_decide_eq_true (by kernel_rfl)) (by kernel_rfl) (by kernel_rfl) ?_
  intro w50 H50; clear H49
  refine s_nil ?_
  show WP _ _ _ _ _ _
  refine g_reg0 [0, 1, 2] (by kernel_rfl) ?_
  refine s_val (some 6) (.int .i64 23) (fun w => by kernel_rfl) (by kernel_rfl) ?_
  refine s_val (some 7) (.int .i64 24) (fun w => by kernel_rfl) (by kernel_rfl) ?_
  refine s_val (some 3) (.int .i64 24) (fun w => by kernel_rfl) (by kernel_rfl) ?_
  refine s_nil ?_
  show WPL _ _ _ _ _ _
  refine g_next ?_
  refine g_seq (by kernel_rfl) ?_
  refine g_sreg [0, 1] (by kernel_rfl) (by kernel_rfl) ?_
  refine s_val (some 4) (.int .i64 24) (fun w => by kernel_rfl) (by kernel_rfl) ?_
  refine s_val (some 5) (.bool false) (fun w => by kernel_rfl) (by kernel_rfl) ?_
  refine s_nil ?_
  refine g_cond_f (by kernel_rfl) (by kernel_rfl) ?_
  refine g_exit 0 (by kernel_rfl) ?_
  show WP _ _ _ _ _ _
  refine g_sreg [0, 1] (by kernel_rfl) (by kernel_rfl) ?_
  refine s_load H50 (some 11) 26 (.tmp 1) 1 b1 (Value.cells (svn (mS24 s))) 26 (0, 0) (by kernel_rfl) (by kernel_rfl) (by kernel_rfl) (by kernel_rfl) (by kernel_rfl) ?_
  refine s_store H50 0 [(b2, Obj.cells (Value.cells (svn (mS24 s))) 26 (0, 0)), (b1, Obj.cells (Value.cells (svn (mS24 s))) 26 (0, 0))] 26 (.tmp 2) (.tmp 11) b2 (0) Z25 (Value.cells (svn (mS24 s))) 26 (svn (mS24 s)) (by kernel_rfl) (by kernel_rfl) (by kernel_rfl) (by kernel_rfl) (by kernel_rfl) (by kernel_rfl) (of_decide_eq_true (by kernel_rfl)) (by kernel_rfl) (by kernel_rfl) ?_
  intro w51 H51; clear H50
  refine s_nil ?_
  refine g_ret (by kernel_rfl) ?_
  show ∃ vs, Res _ _ _ _ vs ∧ _
  refine ⟨[svn (mS24 s)], (.agg (b := b2) (Value.cells (svn (mS24 s))) 26 (0, 0) (by kernel_rfl) (H51.get 0 (by kernel_rfl)) (by kernel_rfl) .nil), ?_, H51.below⟩
  rfl
end Go.Proofs.YtddhadddpllbcaaDoor
