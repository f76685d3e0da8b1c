/-
  The law FieldTurns.
-/
import Derived.Test.YtiiichlmmngbbaaFermat
namespace Go.Proofs.Ytiiichlmmngbbaa
open Go Go.RowKit
set_option linter.unusedVariables false
set_option maxRecDepth 100000 in
theorem turnsNo (A : Nat) (hA : A < big) (n : Int) (h0 : n ≠ 0) (h1 : n ≠ 1) : Fn Try.prog 12 #[uv A, .int .i64 n] (.bool true) := by
  refine Fn.intro (c := codeOf Try.f12) [.tmp 4] 116 Try.func12 (by kernel_rfl) (by kernel_rfl) (by kernel_rfl) fun w => ?_
  have H0 := St.start w
  refine g_sreg [0, 1] (by kernel_rfl) (by kernel_rfl) ?_
  refine s_box H0 (some 2) 24 (.tmp 0) (uv A) (by kernel_rfl) (by kernel_rfl) (by kernel_rfl) ?_
  intro b1 w1 H1; clear H0
  refine s_val (some 4) (.bool false) (fun w => by kernel_rfl) (by kernel_rfl) ?_
  refine s_nil ?_
  refine g_sreg [0, 1, 2, 3, 4, 5, 6, 7, 8] (by kernel_rfl) (by kernel_rfl) ?_
  refine s_load H1 (some 16) 24 (.tmp 2) 0 b1 (Value.cells (uv A)) 24 (0, 0) (by kernel_rfl) (by kernel_rfl) (by kernel_rfl) (by kernel_rfl) (by kernel_rfl) ?_
  refine s_val (some 17) (.int .i64 n) (fun w => by kernel_rfl) (by kernel_rfl) ?_
  refine s_call H1 (some 18) 50 #[uv A, .int .i64 n] (.tuple #[.agg #[.int .u64 0, .int .u64 0, .int .u64 0, .int .u64 0], .int .i64 1]) (invNo_fn A hA n h0 h1) (fun w => by kernel_rfl) (by kernel_rfl) ?_
  intro w2 H2; clear H1
  refine s_val (some 15) (.tuple #[.agg #[.int .u64 0, .int .u64 0, .int .u64 0, .int .u64 0], .int .i64 1]) (fun w => by kernel_rfl) (by kernel_rfl) ?_
  refine s_val (some 19) (.agg #[.int .u64 0, .int .u64 0, .int .u64 0, .int .u64 0]) (fun w => by kernel_rfl) (by kernel_rfl) ?_
  refine s_val (some 20) (.int .i64 1) (fun w => by kernel_rfl) (by kernel_rfl) ?_
  refine s_alloc H2 (some 5) 24 (.agg #[.int .u64 0, .int .u64 0, .int .u64 0, .int .u64 0]) (by kernel_rfl) (by kernel_rfl) (by kernel_rfl) ?_
  intro b2 w3 H3; clear H2
  refine s_store H3 0 [(b2, Obj.cells #[.int .u64 0, .int .u64 0, .int .u64 0, .int .u64 0] 24 (0, 0)), (b1, Obj.cells (Value.cells (uv A)) 24 (0, 0))] 24 (.tmp 5) (.tmp 19) b2 0 #[.int .u64 0, .int .u64 0, .int .u64 0, .int .u64 0] #[.int .u64 0, .int .u64 0, .int .u64 0, .int .u64 0] 24 (.agg #[.int .u64 0, .int .u64 0, .int .u64 0, .int .u64 0]) (by kernel_rfl) (by kernel_rfl) (by kernel_rfl) (by kernel_rfl) (by kernel_rfl) (by kernel_rfl) (of_decide_eq_true (by kernel_rfl)) (by kernel_rfl) (by kernel_rfl) ?_
  intro w4 H4; clear H3
  refine s_val (some 6) (.int .i64 1) (fun w => by kernel_rfl) (by kernel_rfl) ?_
  refine s_nil ?_
  refine g_seq (by kernel_rfl) ?_
  refine g_sreg [0, 1, 2, 3, 4, 5] (by kernel_rfl) (by kernel_rfl) ?_
  refine s_val (some 21) (.int .i64 n) (fun w => by kernel_rfl) (by kernel_rfl) ?_
  refine s_valE (some 22) (.bool (!(n == 0))) (.bool true) (fun w => by kernel_rfl) (bool_eq (by rw [beq_eq_false_iff_ne.2 h0]; rfl)) (by kernel_rfl) ?_
  refine s_val (some 23) (.bool true) (fun w => by kernel_rfl) (by kernel_rfl) ?_
  refine s_val (some 24) (.int .i64 n) (fun w => by kernel_rfl) (by kernel_rfl) ?_
  refine s_valE (some 25) (.bool (!(n == 1))) (.bool true) (fun w => by kernel_rfl) (bool_eq (by rw [beq_eq_false_iff_ne.2 h1]; rfl)) (by kernel_rfl) ?_
  refine s_val (some 26) (.bool true) (fun w => by kernel_rfl) (by kernel_rfl) ?_
  refine s_nil ?_
  refine g_cond_t (by kernel_rfl) (by kernel_rfl) ?_
  refine g_sreg [0, 1, 2, 3, 4, 5, 6, 7, 8, 9, 10] (by kernel_rfl) (by kernel_rfl) ?_
  refine s_call H4 (some 27) 43 #[] (.bool true) alive02_fn (fun w => by kernel_rfl) (by kernel_rfl) ?_
  intro w5 H5; clear H4
  refine s_val (some 28) (.bool true) (fun w => by kernel_rfl) (by kernel_rfl) ?_
  refine s_val (some 29) (.int .i64 1) (fun w => by kernel_rfl) (by kernel_rfl) ?_
  refine s_val (some 30) (.bool true) (fun w => by kernel_rfl) (by kernel_rfl) ?_
  refine s_val (some 31) (.bool true) (fun w => by kernel_rfl) (by kernel_rfl) ?_
  refine s_val (some 32) (.bool true) (fun w => by kernel_rfl) (by kernel_rfl) ?_
  refine s_load H5 (some 33) 24 (.tmp 5) 0 b2 #[.int .u64 0, .int .u64 0, .int .u64 0, .int .u64 0] 24 (0, 0) (by kernel_rfl) (by kernel_rfl) (by kernel_rfl) (by kernel_rfl) (by kernel_rfl) ?_
  refine s_val (some 34) (.agg #[.int .u64 0, .int .u64 0, .int .u64 0, .int .u64 0]) (fun w => by kernel_rfl) (by kernel_rfl) ?_
  refine s_opE (some 35) _ (.bool (decide (0 = 0))) (.bool true) (by kernel_rfl) (fun o w ho => eqU_run (x := (.tmp 33)) (y := (.tmp 34)) 0 0 (by unfold big; omega) (by unfold big; omega) w ho (by kernel_rfl) (by kernel_rfl)) (by rw [decide_eq_true rfl] <;> rfl) (by kernel_rfl) ?_
  refine s_val (some 36) (.bool true) (fun w => by kernel_rfl) (by kernel_rfl) ?_
  refine s_val (some 4) (.bool true) (fun w => by kernel_rfl) (by kernel_rfl) ?_
  refine s_nil ?_
  refine g_ret (by kernel_rfl) ?_
  show ∃ vs, Res _ _ _ _ vs ∧ _
  refine ⟨[.bool true], (.tmp (.bool true) (by kernel_rfl) .nil), ?_, H5.below⟩
  rfl

set_option maxRecDepth 100000 in
theorem turnsZero0 (A : Nat) (hA : A < big) (hz : (rs A 0 PR) = 0) : Fn Try.prog 12 #[uv A, .int .i64 0] (.bool true) := by
  refine Fn.intro (c := codeOf Try.f12) [.tmp 4] 116 Try.func12 (by kernel_rfl) (by kernel_rfl) (by kernel_rfl) fun w => ?_
  have H0 := St.start w
  refine g_sreg [0, 1] (by kernel_rfl) (by kernel_rfl) ?_
  refine s_box H0 (some 2) 24 (.tmp 0) (uv A) (by kernel_rfl) (by kernel_rfl) (by kernel_rfl) ?_
  intro b1 w1 H1; clear H0
  refine s_val (some 4) (.bool false) (fun w => by kernel_rfl) (by kernel_rfl) ?_
  refine s_nil ?_
  refine g_sreg [0, 1, 2, 3, 4, 5, 6, 7, 8] (by kernel_rfl) (by kernel_rfl) ?_
  refine s_load H1 (some 16) 24 (.tmp 2) 0 b1 (Value.cells (uv A)) 24 (0, 0) (by kernel_rfl) (by kernel_rfl) (by kernel_rfl) (by kernel_rfl) (by kernel_rfl) ?_
  refine s_val (some 17) (.int .i64 0) (fun w => by kernel_rfl) (by kernel_rfl) ?_
  refine s_call H1 (some 18) 50 #[uv A, .int .i64 0] (.tuple #[.agg #[.int .u64 0, .int .u64 0, .int .u64 0, .int .u64 0], .int .i64 6]) (invZero0_fn A hA hz) (fun w => by kernel_rfl) (by kernel_rfl) ?_
  intro w2 H2; clear H1
  refine s_val (some 15) (.tuple #[.agg #[.int .u64 0, .int .u64 0, .int .u64 0, .int .u64 0], .int .i64 6]) (fun w => by kernel_rfl) (by kernel_rfl) ?_
  refine s_val (some 19) (.agg #[.int .u64 0, .int .u64 0, .int .u64 0, .int .u64 0]) (fun w => by kernel_rfl) (by kernel_rfl) ?_
  refine s_val (some 20) (.int .i64 6) (fun w => by kernel_rfl) (by kernel_rfl) ?_
  refine s_alloc H2 (some 5) 24 (.agg #[.int .u64 0, .int .u64 0, .int .u64 0, .int .u64 0]) (by kernel_rfl) (by kernel_rfl) (by kernel_rfl) ?_
  intro b2 w3 H3; clear H2
  refine s_store H3 0 [(b2, Obj.cells #[.int .u64 0, .int .u64 0, .int .u64 0, .int .u64 0] 24 (0, 0)), (b1, Obj.cells (Value.cells (uv A)) 24 (0, 0))] 24 (.tmp 5) (.tmp 19) b2 0 #[.int .u64 0, .int .u64 0, .int .u64 0, .int .u64 0] #[.int .u64 0, .int .u64 0, .int .u64 0, .int .u64 0] 24 (.agg #[.int .u64 0, .int .u64 0, .int .u64 0, .int .u64 0]) (by kernel_rfl) (by kernel_rfl) (by kernel_rfl) (by kernel_rfl) (by kernel_rfl) (by kernel_rfl) (of_decide_eq_true (by kernel_rfl)) (by kernel_rfl) (by kernel_rfl) ?_
  intro w4 H4; clear H3
  refine s_val (some 6) (.int .i64 6) (fun w => by kernel_rfl) (by kernel_rfl) ?_
  refine s_nil ?_
  refine g_seq (by kernel_rfl) ?_
  refine g_sreg [0, 1, 2, 3, 4, 5] (by kernel_rfl) (by kernel_rfl) ?_
  refine s_val (some 21) (.int .i64 0) (fun w => by kernel_rfl) (by kernel_rfl) ?_
  refine s_val (some 22) (.bool false) (fun w => by kernel_rfl) (by kernel_rfl) ?_
  refine s_val (some 23) (.bool false) (fun w => by kernel_rfl) (by kernel_rfl) ?_
  refine s_not (some 24) (by kernel_rfl) (by kernel_rfl) ?_
  refine s_not (some 25) (by kernel_rfl) (by kernel_rfl) ?_
  refine s_val (some 26) (.bool false) (fun w => by kernel_rfl) (by kernel_rfl) ?_
  refine s_nil ?_
  refine g_cond_f (by kernel_rfl) (by kernel_rfl) ?_
  refine g_skip (by kernel_rfl) ?_
  show WP _ _ _ _ _ _
  refine g_sreg [0, 1, 2, 3, 4, 5, 6, 7, 8, 9] (by kernel_rfl) (by kernel_rfl) ?_
  refine s_load H4 (some 38) 24 (.tmp 2) 1 b1 (Value.cells (uv A)) 24 (0, 0) (by kernel_rfl) (by kernel_rfl) (by kernel_rfl) (by kernel_rfl) (by kernel_rfl) ?_
  refine s_val (some 39) (.agg #[.int .u64 0, .int .u64 0, .int .u64 0, .int .u64 0]) (fun w => by kernel_rfl) (by kernel_rfl) ?_
  refine s_val (some 40) (.int .i64 0) (fun w => by kernel_rfl) (by kernel_rfl) ?_
  refine s_call H4 (some 41) 42 #[uv A, .agg #[.int .u64 0, .int .u64 0, .int .u64 0, .int .u64 0], .int .i64 0] (.tuple #[uv (rs A 0 PR), .int .i64 0]) (reduce0_fn A 0 hA (by unfold big; omega)) (fun w => by kernel_rfl) (by kernel_rfl) ?_
  intro w5 H5; clear H4
  refine s_val (some 37) (.tuple #[uv (rs A 0 PR), .int .i64 0]) (fun w => by kernel_rfl) (by kernel_rfl) ?_
  refine s_val (some 42) (uv (rs A 0 PR)) (fun w => by kernel_rfl) (by kernel_rfl) ?_
  refine s_val (some 43) (.int .i64 0) (fun w => by kernel_rfl) (by kernel_rfl) ?_
  refine s_alloc H5 (some 7) 24 (.agg #[.int .u64 0, .int .u64 0, .int .u64 0, .int .u64 0]) (by kernel_rfl) (by kernel_rfl) (by kernel_rfl) ?_
  intro b3 w6 H6; clear H5
  refine s_store H6 0 [(b3, Obj.cells (Value.cells (uv (rs A 0 PR))) 24 (0, 0)), (b2, Obj.cells #[.int .u64 0, .int .u64 0, .int .u64 0, .int .u64 0] 24 (0, 0)), (b1, Obj.cells (Value.cells (uv A)) 24 (0, 0))] 24 (.tmp 7) (.tmp 42) b3 0 #[.int .u64 0, .int .u64 0, .int .u64 0, .int .u64 0] (Value.cells (uv (rs A 0 PR))) 24 (uv (rs A 0 PR)) (by kernel_rfl) (by kernel_rfl) (by kernel_rfl) (by kernel_rfl) (by kernel_rfl) (by kernel_rfl) (of_decide_eq_true (by kernel_rfl)) (by kernel_rfl) (by kernel_rfl) ?_
  intro w7 H7; clear H6
  refine s_val (some 8) (.int .i64 0) (fun w => by kernel_rfl) (by kernel_rfl) ?_
  refine s_nil ?_
  refine g_seq (by kernel_rfl) ?_
  refine g_sreg [0, 1, 2] (by kernel_rfl) (by kernel_rfl) ?_
  refine s_load H7 (some 44) 24 (.tmp 7) 0 b3 (Value.cells (uv (rs A 0 PR))) 24 (0, 0) (by kernel_rfl) (by kernel_rfl) (by kernel_rfl) (by kernel_rfl) (by kernel_rfl) ?_
  refine s_val (some 45) (.agg #[.int .u64 0, .int .u64 0, .int .u64 0, .int .u64 0]) (fun w => by kernel_rfl) (by kernel_rfl) ?_
  refine s_opE (some 46) _ (.bool (decide ((rs A 0 PR) = 0))) (.bool true) (by kernel_rfl) (fun o w ho => eqU_run (x := (.tmp 44)) (y := (.tmp 45)) (rs A 0 PR) 0 (rs_lt pr_ok) (by unfold big; omega) w ho (by kernel_rfl) (by kernel_rfl)) (by rw [decide_eq_true hz] <;> rfl) (by kernel_rfl) ?_
  refine s_nil ?_
  refine g_cond_t (by kernel_rfl) (by kernel_rfl) ?_
  refine g_sreg [0, 1, 2, 3, 4, 5, 6, 7, 8, 9, 10] (by kernel_rfl) (by kernel_rfl) ?_
  refine s_call H7 (some 47) 43 #[] (.bool true) alive02_fn (fun w => by kernel_rfl) (by kernel_rfl) ?_
  intro w8 H8; clear H7
  refine s_val (some 48) (.bool true) (fun w => by kernel_rfl) (by kernel_rfl) ?_
  refine s_val (some 49) (.int .i64 6) (fun w => by kernel_rfl) (by kernel_rfl) ?_
  refine s_val (some 50) (.bool true) (fun w => by kernel_rfl) (by kernel_rfl) ?_
  refine s_val (some 51) (.bool true) (fun w => by kernel_rfl) (by kernel_rfl) ?_
  refine s_val (some 52) (.bool true) (fun w => by kernel_rfl) (by kernel_rfl) ?_
  refine s_load H8 (some 53) 24 (.tmp 5) 1 b2 #[.int .u64 0, .int .u64 0, .int .u64 0, .int .u64 0] 24 (0, 0) (by kernel_rfl) (by kernel_rfl) (by kernel_rfl) (by kernel_rfl) (by kernel_rfl) ?_
  refine s_load H8 (some 54) 24 (.tmp 7) 0 b3 (Value.cells (uv (rs A 0 PR))) 24 (0, 0) (by kernel_rfl) (by kernel_rfl) (by kernel_rfl) (by kernel_rfl) (by kernel_rfl) ?_
  refine s_opE (some 55) _ (.bool (decide (0 = (rs A 0 PR)))) (.bool true) (by kernel_rfl) (fun o w ho => eqU_run (x := (.tmp 53)) (y := (.tmp 54)) 0 (rs A 0 PR) (by unfold big; omega) (rs_lt pr_ok) w ho (by kernel_rfl) (by kernel_rfl)) (by rw [decide_eq_true (Eq.symm hz)] <;> rfl) (by kernel_rfl) ?_
  refine s_val (some 56) (.bool true) (fun w => by kernel_rfl) (by kernel_rfl) ?_
  refine s_val (some 4) (.bool true) (fun w => by kernel_rfl) (by kernel_rfl) ?_
  refine s_nil ?_
  refine g_ret (by kernel_rfl) ?_
  show ∃ vs, Res _ _ _ _ vs ∧ _
  refine ⟨[.bool true], (.tmp (.bool true) (by kernel_rfl) .nil), ?_, H8.below⟩
  rfl

set_option maxRecDepth 100000 in
theorem turns0 (A : Nat) (hA : A < big) (hz : (rs A 0 PR) ≠ 0) : Fn Try.prog 12 #[uv A, .int .i64 0] (.bool true) := by
  refine Fn.intro (c := codeOf Try.f12) [.tmp 4] 116 Try.func12 (by kernel_rfl) (by kernel_rfl) (by kernel_rfl) fun w => ?_
  have H0 := St.start w
  refine g_sreg [0, 1] (by kernel_rfl) (by kernel_rfl) ?_
  refine s_box H0 (some 2) 24 (.tmp 0) (uv A) (by kernel_rfl) (by kernel_rfl) (by kernel_rfl) ?_
  intro b1 w1 H1; clear H0
  refine s_val (some 4) (.bool false) (fun w => by kernel_rfl) (by kernel_rfl) ?_
  refine s_nil ?_
  refine g_sreg [0, 1, 2, 3, 4, 5, 6, 7, 8] (by kernel_rfl) (by kernel_rfl) ?_
  refine s_load H1 (some 16) 24 (.tmp 2) 0 b1 (Value.cells (uv A)) 24 (0, 0) (by kernel_rfl) (by kernel_rfl) (by kernel_rfl) (by kernel_rfl) (by kernel_rfl) ?_
  refine s_val (some 17) (.int .i64 0) (fun w => by kernel_rfl) (by kernel_rfl) ?_
  refine s_call H1 (some 18) 50 #[uv A, .int .i64 0] (.tuple #[uv (finv A PR), .int .i64 0]) (inv0_fn A hA hz) (fun w => by kernel_rfl) (by kernel_rfl) ?_
  intro w2 H2; clear H1
  refine s_val (some 15) (.tuple #[uv (finv A PR), .int .i64 0]) (fun w => by kernel_rfl) (by kernel_rfl) ?_
  refine s_val (some 19) (uv (finv A PR)) (fun w => by kernel_rfl) (by kernel_rfl) ?_
  refine s_val (some 20) (.int .i64 0) (fun w => by kernel_rfl) (by kernel_rfl) ?_
  refine s_alloc H2 (some 5) 24 (.agg #[.int .u64 0, .int .u64 0, .int .u64 0, .int .u64 0]) (by kernel_rfl) (by kernel_rfl) (by kernel_rfl) ?_
  intro b2 w3 H3; clear H2
  refine s_store H3 0 [(b2, Obj.cells (Value.cells (uv (finv A PR))) 24 (0, 0)), (b1, Obj.cells (Value.cells (uv A)) 24 (0, 0))] 24 (.tmp 5) (.tmp 19) b2 0 #[.int .u64 0, .int .u64 0, .int .u64 0, .int .u64 0] (Value.cells (uv (finv A PR))) 24 (uv (finv A PR)) (by kernel_rfl) (by kernel_rfl) (by kernel_rfl) (by kernel_rfl) (by kernel_rfl) (by kernel_rfl) (of_decide_eq_true (by kernel_rfl)) (by kernel_rfl) (by kernel_rfl) ?_
  intro w4 H4; clear H3
  refine s_val (some 6) (.int .i64 0) (fun w => by kernel_rfl) (by kernel_rfl) ?_
  refine s_nil ?_
  refine g_seq (by kernel_rfl) ?_
  refine g_sreg [0, 1, 2, 3, 4, 5] (by kernel_rfl) (by kernel_rfl) ?_
  refine s_val (some 21) (.int .i64 0) (fun w => by kernel_rfl) (by kernel_rfl) ?_
  refine s_val (some 22) (.bool false) (fun w => by kernel_rfl) (by kernel_rfl) ?_
  refine s_val (some 23) (.bool false) (fun w => by kernel_rfl) (by kernel_rfl) ?_
  refine s_not (some 24) (by kernel_rfl) (by kernel_rfl) ?_
  refine s_not (some 25) (by kernel_rfl) (by kernel_rfl) ?_
  refine s_val (some 26) (.bool false) (fun w => by kernel_rfl) (by kernel_rfl) ?_
  refine s_nil ?_
  refine g_cond_f (by kernel_rfl) (by kernel_rfl) ?_
  refine g_skip (by kernel_rfl) ?_
  show WP _ _ _ _ _ _
  refine g_sreg [0, 1, 2, 3, 4, 5, 6, 7, 8, 9] (by kernel_rfl) (by kernel_rfl) ?_
  refine s_load H4 (some 38) 24 (.tmp 2) 1 b1 (Value.cells (uv A)) 24 (0, 0) (by kernel_rfl) (by kernel_rfl) (by kernel_rfl) (by kernel_rfl) (by kernel_rfl) ?_
  refine s_val (some 39) (.agg #[.int .u64 0, .int .u64 0, .int .u64 0, .int .u64 0]) (fun w => by kernel_rfl) (by kernel_rfl) ?_
  refine s_val (some 40) (.int .i64 0) (fun w => by kernel_rfl) (by kernel_rfl) ?_
  refine s_call H4 (some 41) 42 #[uv A, .agg #[.int .u64 0, .int .u64 0, .int .u64 0, .int .u64 0], .int .i64 0] (.tuple #[uv (rs A 0 PR), .int .i64 0]) (reduce0_fn A 0 hA (by unfold big; omega)) (fun w => by kernel_rfl) (by kernel_rfl) ?_
  intro w5 H5; clear H4
  refine s_val (some 37) (.tuple #[uv (rs A 0 PR), .int .i64 0]) (fun w => by kernel_rfl) (by kernel_rfl) ?_
  refine s_val (some 42) (uv (rs A 0 PR)) (fun w => by kernel_rfl) (by kernel_rfl) ?_
  refine s_val (some 43) (.int .i64 0) (fun w => by kernel_rfl) (by kernel_rfl) ?_
  refine s_alloc H5 (some 7) 24 (.agg #[.int .u64 0, .int .u64 0, .int .u64 0, .int .u64 0]) (by kernel_rfl) (by kernel_rfl) (by kernel_rfl) ?_
  intro b3 w6 H6; clear H5
  refine s_store H6 0 [(b3, Obj.cells (Value.cells (uv (rs A 0 PR))) 24 (0, 0)), (b2, Obj.cells (Value.cells (uv (finv A PR))) 24 (0, 0)), (b1, Obj.cells (Value.cells (uv A)) 24 (0, 0))] 24 (.tmp 7) (.tmp 42) b3 0 #[.int .u64 0, .int .u64 0, .int .u64 0, .int .u64 0] (Value.cells (uv (rs A 0 PR))) 24 (uv (rs A 0 PR)) (by kernel_rfl) (by kernel_rfl) (by kernel_rfl) (by kernel_rfl) (by kernel_rfl) (by kernel_rfl) (of_decide_eq_true (by kernel_rfl)) (by kernel_rfl) (by kernel_rfl) ?_
  intro w7 H7; clear H6
  refine s_val (some 8) (.int .i64 0) (fun w => by kernel_rfl) (by kernel_rfl) ?_
  refine s_nil ?_
  refine g_seq (by kernel_rfl) ?_
  refine g_sreg [0, 1, 2] (by kernel_rfl) (by kernel_rfl) ?_
  refine s_load H7 (some 44) 24 (.tmp 7) 0 b3 (Value.cells (uv (rs A 0 PR))) 24 (0, 0) (by kernel_rfl) (by kernel_rfl) (by kernel_rfl) (by kernel_rfl) (by kernel_rfl) ?_
  refine s_val (some 45) (.agg #[.int .u64 0, .int .u64 0, .int .u64 0, .int .u64 0]) (fun w => by kernel_rfl) (by kernel_rfl) ?_
  refine s_opE (some 46) _ (.bool (decide ((rs A 0 PR) = 0))) (.bool false) (by kernel_rfl) (fun o w ho => eqU_run (x := (.tmp 44)) (y := (.tmp 45)) (rs A 0 PR) 0 (rs_lt pr_ok) (by unfold big; omega) w ho (by kernel_rfl) (by kernel_rfl)) (by rw [decide_eq_false hz] <;> rfl) (by kernel_rfl) ?_
  refine s_nil ?_
  refine g_cond_f (by kernel_rfl) (by kernel_rfl) ?_
  refine g_skip (by kernel_rfl) ?_
  show WP _ _ _ _ _ _
  refine g_sreg [0, 1, 2, 3, 4, 5, 6, 7, 8, 9] (by kernel_rfl) (by kernel_rfl) ?_
  refine s_load H7 (some 58) 24 (.tmp 2) 2 b1 (Value.cells (uv A)) 24 (0, 0) (by kernel_rfl) (by kernel_rfl) (by kernel_rfl) (by kernel_rfl) (by kernel_rfl) ?_
  refine s_load H7 (some 59) 24 (.tmp 5) 1 b2 (Value.cells (uv (finv A PR))) 24 (0, 0) (by kernel_rfl) (by kernel_rfl) (by kernel_rfl) (by kernel_rfl) (by kernel_rfl) ?_
  refine s_val (some 60) (.int .i64 0) (fun w => by kernel_rfl) (by kernel_rfl) ?_
  refine s_call H7 (some 61) 41 #[uv A, uv (finv A PR), .int .i64 0] (.tuple #[uv (fMul A (finv A PR) PR), .int .i64 0]) (fmul0_fn A (finv A PR) hA (fpw_lt pr_ok)) (fun w => by kernel_rfl) (by kernel_rfl) ?_
  intro w8 H8; clear H7
  refine s_val (some 57) (.tuple #[uv (fMul A (finv A PR) PR), .int .i64 0]) (fun w => by kernel_rfl) (by kernel_rfl) ?_
  refine s_val (some 62) (uv (fMul A (finv A PR) PR)) (fun w => by kernel_rfl) (by kernel_rfl) ?_
  refine s_val (some 63) (.int .i64 0) (fun w => by kernel_rfl) (by kernel_rfl) ?_
  refine s_alloc H8 (some 9) 24 (.agg #[.int .u64 0, .int .u64 0, .int .u64 0, .int .u64 0]) (by kernel_rfl) (by kernel_rfl) (by kernel_rfl) ?_
  intro b4 w9 H9; clear H8
  refine s_store H9 0 [(b4, Obj.cells (Value.cells (uv (fMul A (finv A PR) PR))) 24 (0, 0)), (b3, Obj.cells (Value.cells (uv (rs A 0 PR))) 24 (0, 0)), (b2, Obj.cells (Value.cells (uv (finv A PR))) 24 (0, 0)), (b1, Obj.cells (Value.cells (uv A)) 24 (0, 0))] 24 (.tmp 9) (.tmp 62) b4 0 #[.int .u64 0, .int .u64 0, .int .u64 0, .int .u64 0] (Value.cells (uv (fMul A (finv A PR) PR))) 24 (uv (fMul A (finv A PR) PR)) (by kernel_rfl) (by kernel_rfl) (by kernel_rfl) (by kernel_rfl) (by kernel_rfl) (by kernel_rfl) (of_decide_eq_true (by kernel_rfl)) (by kernel_rfl) (by kernel_rfl) ?_
  intro w10 H10; clear H9
  refine s_val (some 10) (.int .i64 0) (fun w => by kernel_rfl) (by kernel_rfl) ?_
  refine s_nil ?_
  refine g_sreg [0, 1, 2, 3, 4, 5, 6, 7, 8] (by kernel_rfl) (by kernel_rfl) ?_
  refine s_load H10 (some 65) 24 (.tmp 5) 2 b2 (Value.cells (uv (finv A PR))) 24 (0, 0) (by kernel_rfl) (by kernel_rfl) (by kernel_rfl) (by kernel_rfl) (by kernel_rfl) ?_
  refine s_val (some 66) (.int .i64 0) (fun w => by kernel_rfl) (by kernel_rfl) ?_
  refine s_call H10 (some 67) 50 #[uv (finv A PR), .int .i64 0] (.tuple #[uv (finv (finv A PR) PR), .int .i64 0]) (inv0_fn (finv A PR) (fpw_lt pr_ok) (inv_nz pr_ok pr_prime hz)) (fun w => by kernel_rfl) (by kernel_rfl) ?_
  intro w11 H11; clear H10
  refine s_val (some 64) (.tuple #[uv (finv (finv A PR) PR), .int .i64 0]) (fun w => by kernel_rfl) (by kernel_rfl) ?_
  refine s_val (some 68) (uv (finv (finv A PR) PR)) (fun w => by kernel_rfl) (by kernel_rfl) ?_
  refine s_val (some 69) (.int .i64 0) (fun w => by kernel_rfl) (by kernel_rfl) ?_
  refine s_alloc H11 (some 11) 24 (.agg #[.int .u64 0, .int .u64 0, .int .u64 0, .int .u64 0]) (by kernel_rfl) (by kernel_rfl) (by kernel_rfl) ?_
  intro b5 w12 H12; clear H11
  refine s_store H12 0 [(b5, Obj.cells (Value.cells (uv (finv (finv A PR) PR))) 24 (0, 0)), (b4, Obj.cells (Value.cells (uv (fMul A (finv A PR) PR))) 24 (0, 0)), (b3, Obj.cells (Value.cells (uv (rs A 0 PR))) 24 (0, 0)), (b2, Obj.cells (Value.cells (uv (finv A PR))) 24 (0, 0)), (b1, Obj.cells (Value.cells (uv A)) 24 (0, 0))] 24 (.tmp 11) (.tmp 68) b5 0 #[.int .u64 0, .int .u64 0, .int .u64 0, .int .u64 0] (Value.cells (uv (finv (finv A PR) PR))) 24 (uv (finv (finv A PR) PR)) (by kernel_rfl) (by kernel_rfl) (by kernel_rfl) (by kernel_rfl) (by kernel_rfl) (by kernel_rfl) (of_decide_eq_true (by kernel_rfl)) (by kernel_rfl) (by kernel_rfl) ?_
  intro w13 H13; clear H12
  refine s_val (some 12) (.int .i64 0) (fun w => by kernel_rfl) (by kernel_rfl) ?_
  refine s_nil ?_
  refine g_sreg [0, 1, 2, 3, 4, 5, 6, 7] (by kernel_rfl) (by kernel_rfl) ?_
  refine s_val (some 71) (.int .i64 0) (fun w => by kernel_rfl) (by kernel_rfl) ?_
  refine s_call H13 (some 72) 38 #[.int .i64 0] (.tuple #[uv PR, .int .i64 0]) prime0_fn (fun w => by kernel_rfl) (by kernel_rfl) ?_
  intro w14 H14; clear H13
  refine s_val (some 70) (.tuple #[uv PR, .int .i64 0]) (fun w => by kernel_rfl) (by kernel_rfl) ?_
  refine s_val (some 73) (uv PR) (fun w => by kernel_rfl) (by kernel_rfl) ?_
  refine s_val (some 74) (.int .i64 0) (fun w => by kernel_rfl) (by kernel_rfl) ?_
  refine s_alloc H14 (some 13) 24 (.agg #[.int .u64 0, .int .u64 0, .int .u64 0, .int .u64 0]) (by kernel_rfl) (by kernel_rfl) (by kernel_rfl) ?_
  intro b6 w15 H15; clear H14
  refine s_store H15 0 [(b6, Obj.cells (Value.cells (uv PR)) 24 (0, 0)), (b5, Obj.cells (Value.cells (uv (finv (finv A PR) PR))) 24 (0, 0)), (b4, Obj.cells (Value.cells (uv (fMul A (finv A PR) PR))) 24 (0, 0)), (b3, Obj.cells (Value.cells (uv (rs A 0 PR))) 24 (0, 0)), (b2, Obj.cells (Value.cells (uv (finv A PR))) 24 (0, 0)), (b1, Obj.cells (Value.cells (uv A)) 24 (0, 0))] 24 (.tmp 13) (.tmp 73) b6 0 #[.int .u64 0, .int .u64 0, .int .u64 0, .int .u64 0] (Value.cells (uv PR)) 24 (uv PR) (by kernel_rfl) (by kernel_rfl) (by kernel_rfl) (by kernel_rfl) (by kernel_rfl) (by kernel_rfl) (of_decide_eq_true (by kernel_rfl)) (by kernel_rfl) (by kernel_rfl) ?_
  intro w16 H16; clear H15
  refine s_val (some 14) (.int .i64 0) (fun w => by kernel_rfl) (by kernel_rfl) ?_
  refine s_nil ?_
  refine g_sreg [0, 1, 2, 3, 4, 5, 6, 7, 8, 9, 10, 11, 12, 13, 14, 15, 16, 17, 18, 19, 20, 21, 22, 23, 24, 25, 26, 27, 28, 29, 30, 31, 32, 33, 34, 35, 36, 37, 38, 39, 40, 41] (by kernel_rfl) (by kernel_rfl) ?_
  refine s_call H16 (some 75) 43 #[] (.bool true) alive02_fn (fun w => by kernel_rfl) (by kernel_rfl) ?_
  intro w17 H17; clear H16
  refine s_val (some 76) (.bool true) (fun w => by kernel_rfl) (by kernel_rfl) ?_
  refine s_val (some 77) (.int .i64 0) (fun w => by kernel_rfl) (by kernel_rfl) ?_
  refine s_val (some 78) (.bool true) (fun w => by kernel_rfl) (by kernel_rfl) ?_
  refine s_val (some 79) (.bool true) (fun w => by kernel_rfl) (by kernel_rfl) ?_
  refine s_val (some 80) (.bool true) (fun w => by kernel_rfl) (by kernel_rfl) ?_
  refine s_val (some 81) (.int .i64 0) (fun w => by kernel_rfl) (by kernel_rfl) ?_
  refine s_val (some 82) (.int .i64 0) (fun w => by kernel_rfl) (by kernel_rfl) ?_
  refine s_val (some 83) (.bool true) (fun w => by kernel_rfl) (by kernel_rfl) ?_
  refine s_val (some 84) (.bool true) (fun w => by kernel_rfl) (by kernel_rfl) ?_
  refine s_val (some 85) (.bool true) (fun w => by kernel_rfl) (by kernel_rfl) ?_
  refine s_val (some 86) (.int .i64 0) (fun w => by kernel_rfl) (by kernel_rfl) ?_
  refine s_val (some 87) (.int .i64 0) (fun w => by kernel_rfl) (by kernel_rfl) ?_
  refine s_val (some 88) (.bool true) (fun w => by kernel_rfl) (by kernel_rfl) ?_
  refine s_val (some 89) (.bool true) (fun w => by kernel_rfl) (by kernel_rfl) ?_
  refine s_val (some 90) (.bool true) (fun w => by kernel_rfl) (by kernel_rfl) ?_
  refine s_val (some 91) (.int .i64 0) (fun w => by kernel_rfl) (by kernel_rfl) ?_
  refine s_val (some 92) (.int .i64 0) (fun w => by kernel_rfl) (by kernel_rfl) ?_
  refine s_val (some 93) (.bool true) (fun w => by kernel_rfl) (by kernel_rfl) ?_
  refine s_val (some 94) (.bool true) (fun w => by kernel_rfl) (by kernel_rfl) ?_
  refine s_val (some 95) (.bool true) (fun w => by kernel_rfl) (by kernel_rfl) ?_
  refine s_val (some 96) (.int .i64 0) (fun w => by kernel_rfl) (by kernel_rfl) ?_
  refine s_val (some 97) (.int .i64 0) (fun w => by kernel_rfl) (by kernel_rfl) ?_
  refine s_val (some 98) (.bool true) (fun w => by kernel_rfl) (by kernel_rfl) ?_
  refine s_val (some 99) (.bool true) (fun w => by kernel_rfl) (by kernel_rfl) ?_
  refine s_val (some 100) (.bool true) (fun w => by kernel_rfl) (by kernel_rfl) ?_
  refine s_load H17 (some 101) 24 (.tmp 9) 2 b4 (Value.cells (uv (fMul A (finv A PR) PR))) 24 (0, 0) (by kernel_rfl) (by kernel_rfl) (by kernel_rfl) (by kernel_rfl) (by kernel_rfl) ?_
  refine s_val (some 102) (.agg #[.int .u64 1, .int .u64 0, .int .u64 0, .int .u64 0]) (fun w => by kernel_rfl) (by kernel_rfl) ?_
  refine s_opE (some 103) _ (.bool (decide ((fMul A (finv A PR) PR) = 1))) (.bool true) (by kernel_rfl) (fun o w ho => eqU_run (x := (.tmp 101)) (y := (.tmp 102)) (fMul A (finv A PR) PR) 1 (fMul_lt pr_ok) (by unfold big; omega) w ho (by kernel_rfl) (by kernel_rfl)) (by rw [decide_eq_true (inv_one pr_ok pr_prime hz)] <;> rfl) (by kernel_rfl) ?_
  refine s_val (some 104) (.bool true) (fun w => by kernel_rfl) (by kernel_rfl) ?_
  refine s_val (some 105) (.bool true) (fun w => by kernel_rfl) (by kernel_rfl) ?_
  refine s_load H17 (some 106) 24 (.tmp 11) 1 b5 (Value.cells (uv (finv (finv A PR) PR))) 24 (0, 0) (by kernel_rfl) (by kernel_rfl) (by kernel_rfl) (by kernel_rfl) (by kernel_rfl) ?_
  refine s_load H17 (some 107) 24 (.tmp 7) 3 b3 (Value.cells (uv (rs A 0 PR))) 24 (0, 0) (by kernel_rfl) (by kernel_rfl) (by kernel_rfl) (by kernel_rfl) (by kernel_rfl) ?_
  refine s_opE (some 108) _ (.bool (decide ((finv (finv A PR) PR) = (rs A 0 PR)))) (.bool true) (by kernel_rfl) (fun o w ho => eqU_run (x := (.tmp 106)) (y := (.tmp 107)) (finv (finv A PR) PR) (rs A 0 PR) (fpw_lt pr_ok) (rs_lt pr_ok) w ho (by kernel_rfl) (by kernel_rfl)) (by rw [decide_eq_true (inv_back pr_ok pr_prime hz)] <;> rfl) (by kernel_rfl) ?_
  refine s_val (some 109) (.bool true) (fun w => by kernel_rfl) (by kernel_rfl) ?_
  refine s_val (some 110) (.bool true) (fun w => by kernel_rfl) (by kernel_rfl) ?_
  refine s_load H17 (some 111) 24 (.tmp 5) 4 b2 (Value.cells (uv (finv A PR))) 24 (0, 0) (by kernel_rfl) (by kernel_rfl) (by kernel_rfl) (by kernel_rfl) (by kernel_rfl) ?_
  refine s_load H17 (some 112) 24 (.tmp 13) 0 b6 (Value.cells (uv PR)) 24 (0, 0) (by kernel_rfl) (by kernel_rfl) (by kernel_rfl) (by kernel_rfl) (by kernel_rfl) ?_
  refine s_call H17 (some 113) 25 #[uv (finv A PR), uv PR] (.int .i64 (cm (finv A PR) PR)) (cmp_fn (finv A PR) PR (fpw_lt pr_ok) pr_ok.1) (fun w => by kernel_rfl) (by kernel_rfl) ?_
  intro w18 H18; clear H17
  refine s_valE (some 114) (.bool (decide (cm (finv A PR) PR < 0))) (.bool true) (fun w => by kernel_rfl) (bool_eq (decide_eq_true (show _ from (cm_lt (inv_lt pr_ok A))))) (by kernel_rfl) ?_
  refine s_val (some 115) (.bool true) (fun w => by kernel_rfl) (by kernel_rfl) ?_
  refine s_val (some 4) (.bool true) (fun w => by kernel_rfl) (by kernel_rfl) ?_
  refine s_nil ?_
  refine g_ret (by kernel_rfl) ?_
  show ∃ vs, Res _ _ _ _ vs ∧ _
  refine ⟨[.bool true], (.tmp (.bool true) (by kernel_rfl) .nil), ?_, H18.below⟩
  rfl

set_option maxRecDepth 100000 in
theorem turnsZero1 (A : Nat) (hA : A < big) (hz : (rs A 0 NR) = 0) : Fn Try.prog 12 #[uv A, .int .i64 1] (.bool true) := by
  refine Fn.intro (c := codeOf Try.f12) [.tmp 4] 116 Try.func12 (by kernel_rfl) (by kernel_rfl) (by kernel_rfl) fun w => ?_
  have H0 := St.start w
  refine g_sreg [0, 1] (by kernel_rfl) (by kernel_rfl) ?_
  refine s_box H0 (some 2) 24 (.tmp 0) (uv A) (by kernel_rfl) (by kernel_rfl) (by kernel_rfl) ?_
  intro b1 w1 H1; clear H0
  refine s_val (some 4) (.bool false) (fun w => by kernel_rfl) (by kernel_rfl) ?_
  refine s_nil ?_
  refine g_sreg [0, 1, 2, 3, 4, 5, 6, 7, 8] (by kernel_rfl) (by kernel_rfl) ?_
  refine s_load H1 (some 16) 24 (.tmp 2) 0 b1 (Value.cells (uv A)) 24 (0, 0) (by kernel_rfl) (by kernel_rfl) (by kernel_rfl) (by kernel_rfl) (by kernel_rfl) ?_
  refine s_val (some 17) (.int .i64 1) (fun w => by kernel_rfl) (by kernel_rfl) ?_
  refine s_call H1 (some 18) 50 #[uv A, .int .i64 1] (.tuple #[.agg #[.int .u64 0, .int .u64 0, .int .u64 0, .int .u64 0], .int .i64 6]) (invZero1_fn A hA hz) (fun w => by kernel_rfl) (by kernel_rfl) ?_
  intro w2 H2; clear H1
  refine s_val (some 15) (.tuple #[.agg #[.int .u64 0, .int .u64 0, .int .u64 0, .int .u64 0], .int .i64 6]) (fun w => by kernel_rfl) (by kernel_rfl) ?_
  refine s_val (some 19) (.agg #[.int .u64 0, .int .u64 0, .int .u64 0, .int .u64 0]) (fun w => by kernel_rfl) (by kernel_rfl) ?_
  refine s_val (some 20) (.int .i64 6) (fun w => by kernel_rfl) (by kernel_rfl) ?_
  refine s_alloc H2 (some 5) 24 (.agg #[.int .u64 0, .int .u64 0, .int .u64 0, .int .u64 0]) (by kernel_rfl) (by kernel_rfl) (by kernel_rfl) ?_
  intro b2 w3 H3; clear H2
  refine s_store H3 0 [(b2, Obj.cells #[.int .u64 0, .int .u64 0, .int .u64 0, .int .u64 0] 24 (0, 0)), (b1, Obj.cells (Value.cells (uv A)) 24 (0, 0))] 24 (.tmp 5) (.tmp 19) b2 0 #[.int .u64 0, .int .u64 0, .int .u64 0, .int .u64 0] #[.int .u64 0, .int .u64 0, .int .u64 0, .int .u64 0] 24 (.agg #[.int .u64 0, .int .u64 0, .int .u64 0, .int .u64 0]) (by kernel_rfl) (by kernel_rfl) (by kernel_rfl) (by kernel_rfl) (by kernel_rfl) (by kernel_rfl) (of_decide_eq_true (by kernel_rfl)) (by kernel_rfl) (by kernel_rfl) ?_
  intro w4 H4; clear H3
  refine s_val (some 6) (.int .i64 6) (fun w => by kernel_rfl) (by kernel_rfl) ?_
  refine s_nil ?_
  refine g_seq (by kernel_rfl) ?_
  refine g_sreg [0, 1, 2, 3, 4, 5] (by kernel_rfl) (by kernel_rfl) ?_
  refine s_val (some 21) (.int .i64 1) (fun w => by kernel_rfl) (by kernel_rfl) ?_
  refine s_val (some 22) (.bool true) (fun w => by kernel_rfl) (by kernel_rfl) ?_
  refine s_val (some 23) (.bool true) (fun w => by kernel_rfl) (by kernel_rfl) ?_
  refine s_val (some 24) (.int .i64 1) (fun w => by kernel_rfl) (by kernel_rfl) ?_
  refine s_val (some 25) (.bool false) (fun w => by kernel_rfl) (by kernel_rfl) ?_
  refine s_val (some 26) (.bool false) (fun w => by kernel_rfl) (by kernel_rfl) ?_
  refine s_nil ?_
  refine g_cond_f (by kernel_rfl) (by kernel_rfl) ?_
  refine g_skip (by kernel_rfl) ?_
  show WP _ _ _ _ _ _
  refine g_sreg [0, 1, 2, 3, 4, 5, 6, 7, 8, 9] (by kernel_rfl) (by kernel_rfl) ?_
  refine s_load H4 (some 38) 24 (.tmp 2) 1 b1 (Value.cells (uv A)) 24 (0, 0) (by kernel_rfl) (by kernel_rfl) (by kernel_rfl) (by kernel_rfl) (by kernel_rfl) ?_
  refine s_val (some 39) (.agg #[.int .u64 0, .int .u64 0, .int .u64 0, .int .u64 0]) (fun w => by kernel_rfl) (by kernel_rfl) ?_
  refine s_val (some 40) (.int .i64 1) (fun w => by kernel_rfl) (by kernel_rfl) ?_
  refine s_call H4 (some 41) 42 #[uv A, .agg #[.int .u64 0, .int .u64 0, .int .u64 0, .int .u64 0], .int .i64 1] (.tuple #[uv (rs A 0 NR), .int .i64 0]) (reduce1_fn A 0 hA (by unfold big; omega)) (fun w => by kernel_rfl) (by kernel_rfl) ?_
  intro w5 H5; clear H4
  refine s_val (some 37) (.tuple #[uv (rs A 0 NR), .int .i64 0]) (fun w => by kernel_rfl) (by kernel_rfl) ?_
  refine s_val (some 42) (uv (rs A 0 NR)) (fun w => by kernel_rfl) (by kernel_rfl) ?_
  refine s_val (some 43) (.int .i64 0) (fun w => by kernel_rfl) (by kernel_rfl) ?_
  refine s_alloc H5 (some 7) 24 (.agg #[.int .u64 0, .int .u64 0, .int .u64 0, .int .u64 0]) (by kernel_rfl) (by kernel_rfl) (by kernel_rfl) ?_
  intro b3 w6 H6; clear H5
  refine s_store H6 0 [(b3, Obj.cells (Value.cells (uv (rs A 0 NR))) 24 (0, 0)), (b2, Obj.cells #[.int .u64 0, .int .u64 0, .int .u64 0, .int .u64 0] 24 (0, 0)), (b1, Obj.cells (Value.cells (uv A)) 24 (0, 0))] 24 (.tmp 7) (.tmp 42) b3 0 #[.int .u64 0, .int .u64 0, .int .u64 0, .int .u64 0] (Value.cells (uv (rs A 0 NR))) 24 (uv (rs A 0 NR)) (by kernel_rfl) (by kernel_rfl) (by kernel_rfl) (by kernel_rfl) (by kernel_rfl) (by kernel_rfl) (of_decide_eq_true (by kernel_rfl)) (by kernel_rfl) (by kernel_rfl) ?_
  intro w7 H7; clear H6
  refine s_val (some 8) (.int .i64 0) (fun w => by kernel_rfl) (by kernel_rfl) ?_
  refine s_nil ?_
  refine g_seq (by kernel_rfl) ?_
  refine g_sreg [0, 1, 2] (by kernel_rfl) (by kernel_rfl) ?_
  refine s_load H7 (some 44) 24 (.tmp 7) 0 b3 (Value.cells (uv (rs A 0 NR))) 24 (0, 0) (by kernel_rfl) (by kernel_rfl) (by kernel_rfl) (by kernel_rfl) (by kernel_rfl) ?_
  refine s_val (some 45) (.agg #[.int .u64 0, .int .u64 0, .int .u64 0, .int .u64 0]) (fun w => by kernel_rfl) (by kernel_rfl) ?_
  refine s_opE (some 46) _ (.bool (decide ((rs A 0 NR) = 0))) (.bool true) (by kernel_rfl) (fun o w ho => eqU_run (x := (.tmp 44)) (y := (.tmp 45)) (rs A 0 NR) 0 (rs_lt nr_ok) (by unfold big; omega) w ho (by kernel_rfl) (by kernel_rfl)) (by rw [decide_eq_true hz] <;> rfl) (by kernel_rfl) ?_
  refine s_nil ?_
  refine g_cond_t (by kernel_rfl) (by kernel_rfl) ?_
  refine g_sreg [0, 1, 2, 3, 4, 5, 6, 7, 8, 9, 10] (by kernel_rfl) (by kernel_rfl) ?_
  refine s_call H7 (some 47) 43 #[] (.bool true) alive02_fn (fun w => by kernel_rfl) (by kernel_rfl) ?_
  intro w8 H8; clear H7
  refine s_val (some 48) (.bool true) (fun w => by kernel_rfl) (by kernel_rfl) ?_
  refine s_val (some 49) (.int .i64 6) (fun w => by kernel_rfl) (by kernel_rfl) ?_
  refine s_val (some 50) (.bool true) (fun w => by kernel_rfl) (by kernel_rfl) ?_
  refine s_val (some 51) (.bool true) (fun w => by kernel_rfl) (by kernel_rfl) ?_
  refine s_val (some 52) (.bool true) (fun w => by kernel_rfl) (by kernel_rfl) ?_
  refine s_load H8 (some 53) 24 (.tmp 5) 1 b2 #[.int .u64 0, .int .u64 0, .int .u64 0, .int .u64 0] 24 (0, 0) (by kernel_rfl) (by kernel_rfl) (by kernel_rfl) (by kernel_rfl) (by kernel_rfl) ?_
  refine s_load H8 (some 54) 24 (.tmp 7) 0 b3 (Value.cells (uv (rs A 0 NR))) 24 (0, 0) (by kernel_rfl) (by kernel_rfl) (by kernel_rfl) (by kernel_rfl) (by kernel_rfl) ?_
  refine s_opE (some 55) _ (.bool (decide (0 = (rs A 0 NR)))) (.bool true) (by kernel_rfl) (fun o w ho => eqU_run (x := (.tmp 53)) (y := (.tmp 54)) 0 (rs A 0 NR) (by unfold big; omega) (rs_lt nr_ok) w ho (by kernel_rfl) (by kernel_rfl)) (by rw [decide_eq_true (Eq.symm hz)] <;> rfl) (by kernel_rfl) ?_
  refine s_val (some 56) (.bool true) (fun w => by kernel_rfl) (by kernel_rfl) ?_
  refine s_val (some 4) (.bool true) (fun w => by kernel_rfl) (by kernel_rfl) ?_
  refine s_nil ?_
  refine g_ret (by kernel_rfl) ?_
  show ∃ vs, Res _ _ _ _ vs ∧ _
  refine ⟨[.bool true], (.tmp (.bool true) (by kernel_rfl) .nil), ?_, H8.below⟩
  rfl

set_option maxRecDepth 100000 in
theorem turns1 (A : Nat) (hA : A < big) (hz : (rs A 0 NR) ≠ 0) : Fn Try.prog 12 #[uv A, .int .i64 1] (.bool true) := by
  refine Fn.intro (c := codeOf Try.f12) [.tmp 4] 116 Try.func12 (by kernel_rfl) (by kernel_rfl) (by kernel_rfl) fun w => ?_
  have H0 := St.start w
  refine g_sreg [0, 1] (by kernel_rfl) (by kernel_rfl) ?_
  refine s_box H0 (some 2) 24 (.tmp 0) (uv A) (by kernel_rfl) (by kernel_rfl) (by kernel_rfl) ?_
  intro b1 w1 H1; clear H0
  refine s_val (some 4) (.bool false) (fun w => by kernel_rfl) (by kernel_rfl) ?_
  refine s_nil ?_
  refine g_sreg [0, 1, 2, 3, 4, 5, 6, 7, 8] (by kernel_rfl) (by kernel_rfl) ?_
  refine s_load H1 (some 16) 24 (.tmp 2) 0 b1 (Value.cells (uv A)) 24 (0, 0) (by kernel_rfl) (by kernel_rfl) (by kernel_rfl) (by kernel_rfl) (by kernel_rfl) ?_
  refine s_val (some 17) (.int .i64 1) (fun w => by kernel_rfl) (by kernel_rfl) ?_
  refine s_call H1 (some 18) 50 #[uv A, .int .i64 1] (.tuple #[uv (finv A NR), .int .i64 0]) (inv1_fn A hA hz) (fun w => by kernel_rfl) (by kernel_rfl) ?_
  intro w2 H2; clear H1
  refine s_val (some 15) (.tuple #[uv (finv A NR), .int .i64 0]) (fun w => by kernel_rfl) (by kernel_rfl) ?_
  refine s_val (some 19) (uv (finv A NR)) (fun w => by kernel_rfl) (by kernel_rfl) ?_
  refine s_val (some 20) (.int .i64 0) (fun w => by kernel_rfl) (by kernel_rfl) ?_
  refine s_alloc H2 (some 5) 24 (.agg #[.int .u64 0, .int .u64 0, .int .u64 0, .int .u64 0]) (by kernel_rfl) (by kernel_rfl) (by kernel_rfl) ?_
  intro b2 w3 H3; clear H2
  refine s_store H3 0 [(b2, Obj.cells (Value.cells (uv (finv A NR))) 24 (0, 0)), (b1, Obj.cells (Value.cells (uv A)) 24 (0, 0))] 24 (.tmp 5) (.tmp 19) b2 0 #[.int .u64 0, .int .u64 0, .int .u64 0, .int .u64 0] (Value.cells (uv (finv A NR))) 24 (uv (finv A NR)) (by kernel_rfl) (by kernel_rfl) (by kernel_rfl) (by kernel_rfl) (by kernel_rfl) (by kernel_rfl) (of_decide_eq_true (by kernel_rfl)) (by kernel_rfl) (by kernel_rfl) ?_
  intro w4 H4; clear H3
  refine s_val (some 6) (.int .i64 0) (fun w => by kernel_rfl) (by kernel_rfl) ?_
  refine s_nil ?_
  refine g_seq (by kernel_rfl) ?_
  refine g_sreg [0, 1, 2, 3, 4, 5] (by kernel_rfl) (by kernel_rfl) ?_
  refine s_val (some 21) (.int .i64 1) (fun w => by kernel_rfl) (by kernel_rfl) ?_
  refine s_val (some 22) (.bool true) (fun w => by kernel_rfl) (by kernel_rfl) ?_
  refine s_val (some 23) (.bool true) (fun w => by kernel_rfl) (by kernel_rfl) ?_
  refine s_val (some 24) (.int .i64 1) (fun w => by kernel_rfl) (by kernel_rfl) ?_
  refine s_val (some 25) (.bool false) (fun w => by kernel_rfl) (by kernel_rfl) ?_
  refine s_val (some 26) (.bool false) (fun w => by kernel_rfl) (by kernel_rfl) ?_
  refine s_nil ?_
  refine g_cond_f (by kernel_rfl) (by kernel_rfl) ?_
  refine g_skip (by kernel_rfl) ?_
  show WP _ _ _ _ _ _
  refine g_sreg [0, 1, 2, 3, 4, 5, 6, 7, 8, 9] (by kernel_rfl) (by kernel_rfl) ?_
  refine s_load H4 (some 38) 24 (.tmp 2) 1 b1 (Value.cells (uv A)) 24 (0, 0) (by kernel_rfl) (by kernel_rfl) (by kernel_rfl) (by kernel_rfl) (by kernel_rfl) ?_
  refine s_val (some 39) (.agg #[.int .u64 0, .int .u64 0, .int .u64 0, .int .u64 0]) (fun w => by kernel_rfl) (by kernel_rfl) ?_
  refine s_val (some 40) (.int .i64 1) (fun w => by kernel_rfl) (by kernel_rfl) ?_
  refine s_call H4 (some 41) 42 #[uv A, .agg #[.int .u64 0, .int .u64 0, .int .u64 0, .int .u64 0], .int .i64 1] (.tuple #[uv (rs A 0 NR), .int .i64 0]) (reduce1_fn A 0 hA (by unfold big; omega)) (fun w => by kernel_rfl) (by kernel_rfl) ?_
  intro w5 H5; clear H4
  refine s_val (some 37) (.tuple #[uv (rs A 0 NR), .int .i64 0]) (fun w => by kernel_rfl) (by kernel_rfl) ?_
  refine s_val (some 42) (uv (rs A 0 NR)) (fun w => by kernel_rfl) (by kernel_rfl) ?_
  refine s_val (some 43) (.int .i64 0) (fun w => by kernel_rfl) (by kernel_rfl) ?_
  refine s_alloc H5 (some 7) 24 (.agg #[.int .u64 0, .int .u64 0, .int .u64 0, .int .u64 0]) (by kernel_rfl) (by kernel_rfl) (by kernel_rfl) ?_
  intro b3 w6 H6; clear H5
  refine s_store H6 0 [(b3, Obj.cells (Value.cells (uv (rs A 0 NR))) 24 (0, 0)), (b2, Obj.cells (Value.cells (uv (finv A NR))) 24 (0, 0)), (b1, Obj.cells (Value.cells (uv A)) 24 (0, 0))] 24 (.tmp 7) (.tmp 42) b3 0 #[.int .u64 0, .int .u64 0, .int .u64 0, .int .u64 0] (Value.cells (uv (rs A 0 NR))) 24 (uv (rs A 0 NR)) (by kernel_rfl) (by kernel_rfl) (by kernel_rfl) (by kernel_rfl) (by kernel_rfl) (by kernel_rfl) (of_decide_eq_true (by kernel_rfl)) (by kernel_rfl) (by kernel_rfl) ?_
  intro w7 H7; clear H6
  refine s_val (some 8) (.int .i64 0) (fun w => by kernel_rfl) (by kernel_rfl) ?_
  refine s_nil ?_
  refine g_seq (by kernel_rfl) ?_
  refine g_sreg [0, 1, 2] (by kernel_rfl) (by kernel_rfl) ?_
  refine s_load H7 (some 44) 24 (.tmp 7) 0 b3 (Value.cells (uv (rs A 0 NR))) 24 (0, 0) (by kernel_rfl) (by kernel_rfl) (by kernel_rfl) (by kernel_rfl) (by kernel_rfl) ?_
  refine s_val (some 45) (.agg #[.int .u64 0, .int .u64 0, .int .u64 0, .int .u64 0]) (fun w => by kernel_rfl) (by kernel_rfl) ?_
  refine s_opE (some 46) _ (.bool (decide ((rs A 0 NR) = 0))) (.bool false) (by kernel_rfl) (fun o w ho => eqU_run (x := (.tmp 44)) (y := (.tmp 45)) (rs A 0 NR) 0 (rs_lt nr_ok) (by unfold big; omega) w ho (by kernel_rfl) (by kernel_rfl)) (by rw [decide_eq_false hz] <;> rfl) (by kernel_rfl) ?_
  refine s_nil ?_
  refine g_cond_f (by kernel_rfl) (by kernel_rfl) ?_
  refine g_skip (by kernel_rfl) ?_
  show WP _ _ _ _ _ _
  refine g_sreg [0, 1, 2, 3, 4, 5, 6, 7, 8, 9] (by kernel_rfl) (by kernel_rfl) ?_
  refine s_load H7 (some 58) 24 (.tmp 2) 2 b1 (Value.cells (uv A)) 24 (0, 0) (by kernel_rfl) (by kernel_rfl) (by kernel_rfl) (by kernel_rfl) (by kernel_rfl) ?_
  refine s_load H7 (some 59) 24 (.tmp 5) 1 b2 (Value.cells (uv (finv A NR))) 24 (0, 0) (by kernel_rfl) (by kernel_rfl) (by kernel_rfl) (by kernel_rfl) (by kernel_rfl) ?_
  refine s_val (some 60) (.int .i64 1) (fun w => by kernel_rfl) (by kernel_rfl) ?_
  refine s_call H7 (some 61) 41 #[uv A, uv (finv A NR), .int .i64 1] (.tuple #[uv (fMul A (finv A NR) NR), .int .i64 0]) (fmul1_fn A (finv A NR) hA (fpw_lt nr_ok)) (fun w => by kernel_rfl) (by kernel_rfl) ?_
  intro w8 H8; clear H7
  refine s_val (some 57) (.tuple #[uv (fMul A (finv A NR) NR), .int .i64 0]) (fun w => by kernel_rfl) (by kernel_rfl) ?_
  refine s_val (some 62) (uv (fMul A (finv A NR) NR)) (fun w => by kernel_rfl) (by kernel_rfl) ?_
  refine s_val (some 63) (.int .i64 0) (fun w => by kernel_rfl) (by kernel_rfl) ?_
  refine s_alloc H8 (some 9) 24 (.agg #[.int .u64 0, .int .u64 0, .int .u64 0, .int .u64 0]) (by kernel_rfl) (by kernel_rfl) (by kernel_rfl) ?_
  intro b4 w9 H9; clear H8
  refine s_store H9 0 [(b4, Obj.cells (Value.cells (uv (fMul A (finv A NR) NR))) 24 (0, 0)), (b3, Obj.cells (Value.cells (uv (rs A 0 NR))) 24 (0, 0)), (b2, Obj.cells (Value.cells (uv (finv A NR))) 24 (0, 0)), (b1, Obj.cells (Value.cells (uv A)) 24 (0, 0))] 24 (.tmp 9) (.tmp 62) b4 0 #[.int .u64 0, .int .u64 0, .int .u64 0, .int .u64 0] (Value.cells (uv (fMul A (finv A NR) NR))) 24 (uv (fMul A (finv A NR) NR)) (by kernel_rfl) (by kernel_rfl) (by kernel_rfl) (by kernel_rfl) (by kernel_rfl) (by kernel_rfl) (of_decide_eq_true (by kernel_rfl)) (by kernel_rfl) (by kernel_rfl) ?_
  intro w10 H10; clear H9
  refine s_val (some 10) (.int .i64 0) (fun w => by kernel_rfl) (by kernel_rfl) ?_
  refine s_nil ?_
  refine g_sreg [0, 1, 2, 3, 4, 5, 6, 7, 8] (by kernel_rfl) (by kernel_rfl) ?_
  refine s_load H10 (some 65) 24 (.tmp 5) 2 b2 (Value.cells (uv (finv A NR))) 24 (0, 0) (by kernel_rfl) (by kernel_rfl) (by kernel_rfl) (by kernel_rfl) (by kernel_rfl) ?_
  refine s_val (some 66) (.int .i64 1) (fun w => by kernel_rfl) (by kernel_rfl) ?_
  refine s_call H10 (some 67) 50 #[uv (finv A NR), .int .i64 1] (.tuple #[uv (finv (finv A NR) NR), .int .i64 0]) (inv1_fn (finv A NR) (fpw_lt nr_ok) (inv_nz nr_ok nr_prime hz)) (fun w => by kernel_rfl) (by kernel_rfl) ?_
  intro w11 H11; clear H10
  refine s_val (some 64) (.tuple #[uv (finv (finv A NR) NR), .int .i64 0]) (fun w => by kernel_rfl) (by kernel_rfl) ?_
  refine s_val (some 68) (uv (finv (finv A NR) NR)) (fun w => by kernel_rfl) (by kernel_rfl) ?_
  refine s_val (some 69) (.int .i64 0) (fun w => by kernel_rfl) (by kernel_rfl) ?_
  refine s_alloc H11 (some 11) 24 (.agg #[.int .u64 0, .int .u64 0, .int .u64 0, .int .u64 0]) (by kernel_rfl) (by kernel_rfl) (by kernel_rfl) ?_
  intro b5 w12 H12; clear H11
  refine s_store H12 0 [(b5, Obj.cells (Value.cells (uv (finv (finv A NR) NR))) 24 (0, 0)), (b4, Obj.cells (Value.cells (uv (fMul A (finv A NR) NR))) 24 (0, 0)), (b3, Obj.cells (Value.cells (uv (rs A 0 NR))) 24 (0, 0)), (b2, Obj.cells (Value.cells (uv (finv A NR))) 24 (0, 0)), (b1, Obj.cells (Value.cells (uv A)) 24 (0, 0))] 24 (.tmp 11) (.tmp 68) b5 0 #[.int .u64 0, .int .u64 0, .int .u64 0, .int .u64 0] (Value.cells (uv (finv (finv A NR) NR))) 24 (uv (finv (finv A NR) NR)) (by kernel_rfl) (by kernel_rfl) (by kernel_rfl) (by kernel_rfl) (by kernel_rfl) (by kernel_rfl) (of_decide_eq_true (by kernel_rfl)) (by kernel_rfl) (by kernel_rfl) ?_
  intro w13 H13; clear H12
  refine s_val (some 12) (.int .i64 0) (fun w => by kernel_rfl) (by kernel_rfl) ?_
  refine s_nil ?_
  refine g_sreg [0, 1, 2, 3, 4, 5, 6, 7] (by kernel_rfl) (by kernel_rfl) ?_
  refine s_val (some 71) (.int .i64 1) (fun w => by kernel_rfl) (by kernel_rfl) ?_
  refine s_call H13 (some 72) 38 #[.int .i64 1] (.tuple #[uv NR, .int .i64 0]) prime1_fn (fun w => by kernel_rfl) (by kernel_rfl) ?_
  intro w14 H14; clear H13
  refine s_val (some 70) (.tuple #[uv NR, .int .i64 0]) (fun w => by kernel_rfl) (by kernel_rfl) ?_
  refine s_val (some 73) (uv NR) (fun w => by kernel_rfl) (by kernel_rfl) ?_
  refine s_val (some 74) (.int .i64 0) (fun w => by kernel_rfl) (by kernel_rfl) ?_
  refine s_alloc H14 (some 13) 24 (.agg #[.int .u64 0, .int .u64 0, .int .u64 0, .int .u64 0]) (by kernel_rfl) (by kernel_rfl) (by kernel_rfl) ?_
  intro b6 w15 H15; clear H14
  refine s_store H15 0 [(b6, Obj.cells (Value.cells (uv NR)) 24 (0, 0)), (b5, Obj.cells (Value.cells (uv (finv (finv A NR) NR))) 24 (0, 0)), (b4, Obj.cells (Value.cells (uv (fMul A (finv A NR) NR))) 24 (0, 0)), (b3, Obj.cells (Value.cells (uv (rs A 0 NR))) 24 (0, 0)), (b2, Obj.cells (Value.cells (uv (finv A NR))) 24 (0, 0)), (b1, Obj.cells (Value.cells (uv A)) 24 (0, 0))] 24 (.tmp 13) (.tmp 73) b6 0 #[.int .u64 0, .int .u64 0, .int .u64 0, .int .u64 0] (Value.cells (uv NR)) 24 (uv NR) (by kernel_rfl) (by kernel_rfl) (by kernel_rfl) (by kernel_rfl) (by kernel_rfl) (by kernel_rfl) (of_decide_eq_true (by kernel_rfl)) (by kernel_rfl) (by kernel_rfl) ?_
  intro w16 H16; clear H15
  refine s_val (some 14) (.int .i64 0) (fun w => by kernel_rfl) (by kernel_rfl) ?_
  refine s_nil ?_
  refine g_sreg [0, 1, 2, 3, 4, 5, 6, 7, 8, 9, 10, 11, 12, 13, 14, 15, 16, 17, 18, 19, 20, 21, 22, 23, 24, 25, 26, 27, 28, 29, 30, 31, 32, 33, 34, 35, 36, 37, 38, 39, 40, 41] (by kernel_rfl) (by kernel_rfl) ?_
  refine s_call H16 (some 75) 43 #[] (.bool true) alive02_fn (fun w => by kernel_rfl) (by kernel_rfl) ?_
  intro w17 H17; clear H16
  refine s_val (some 76) (.bool true) (fun w => by kernel_rfl) (by kernel_rfl) ?_
  refine s_val (some 77) (.int .i64 0) (fun w => by kernel_rfl) (by kernel_rfl) ?_
  refine s_val (some 78) (.bool true) (fun w => by kernel_rfl) (by kernel_rfl) ?_
  refine s_val (some 79) (.bool true) (fun w => by kernel_rfl) (by kernel_rfl) ?_
  refine s_val (some 80) (.bool true) (fun w => by kernel_rfl) (by kernel_rfl) ?_
  refine s_val (some 81) (.int .i64 0) (fun w => by kernel_rfl) (by kernel_rfl) ?_
  refine s_val (some 82) (.int .i64 0) (fun w => by kernel_rfl) (by kernel_rfl) ?_
  refine s_val (some 83) (.bool true) (fun w => by kernel_rfl) (by kernel_rfl) ?_
  refine s_val (some 84) (.bool true) (fun w => by kernel_rfl) (by kernel_rfl) ?_
  refine s_val (some 85) (.bool true) (fun w => by kernel_rfl) (by kernel_rfl) ?_
  refine s_val (some 86) (.int .i64 0) (fun w => by kernel_rfl) (by kernel_rfl) ?_
  refine s_val (some 87) (.int .i64 0) (fun w => by kernel_rfl) (by kernel_rfl) ?_
  refine s_val (some 88) (.bool true) (fun w => by kernel_rfl) (by kernel_rfl) ?_
  refine s_val (some 89) (.bool true) (fun w => by kernel_rfl) (by kernel_rfl) ?_
  refine s_val (some 90) (.bool true) (fun w => by kernel_rfl) (by kernel_rfl) ?_
  refine s_val (some 91) (.int .i64 0) (fun w => by kernel_rfl) (by kernel_rfl) ?_
  refine s_val (some 92) (.int .i64 0) (fun w => by kernel_rfl) (by kernel_rfl) ?_
  refine s_val (some 93) (.bool true) (fun w => by kernel_rfl) (by kernel_rfl) ?_
  refine s_val (some 94) (.bool true) (fun w => by kernel_rfl) (by kernel_rfl) ?_
  refine s_val (some 95) (.bool true) (fun w => by kernel_rfl) (by kernel_rfl) ?_
  refine s_val (some 96) (.int .i64 0) (fun w => by kernel_rfl) (by kernel_rfl) ?_
  refine s_val (some 97) (.int .i64 0) (fun w => by kernel_rfl) (by kernel_rfl) ?_
  refine s_val (some 98) (.bool true) (fun w => by kernel_rfl) (by kernel_rfl) ?_
  refine s_val (some 99) (.bool true) (fun w => by kernel_rfl) (by kernel_rfl) ?_
  refine s_val (some 100) (.bool true) (fun w => by kernel_rfl) (by kernel_rfl) ?_
  refine s_load H17 (some 101) 24 (.tmp 9) 2 b4 (Value.cells (uv (fMul A (finv A NR) NR))) 24 (0, 0) (by kernel_rfl) (by kernel_rfl) (by kernel_rfl) (by kernel_rfl) (by kernel_rfl) ?_
  refine s_val (some 102) (.agg #[.int .u64 1, .int .u64 0, .int .u64 0, .int .u64 0]) (fun w => by kernel_rfl) (by kernel_rfl) ?_
  refine s_opE (some 103) _ (.bool (decide ((fMul A (finv A NR) NR) = 1))) (.bool true) (by kernel_rfl) (fun o w ho => eqU_run (x := (.tmp 101)) (y := (.tmp 102)) (fMul A (finv A NR) NR) 1 (fMul_lt nr_ok) (by unfold big; omega) w ho (by kernel_rfl) (by kernel_rfl)) (by rw [decide_eq_true (inv_one nr_ok nr_prime hz)] <;> rfl) (by kernel_rfl) ?_
  refine s_val (some 104) (.bool true) (fun w => by kernel_rfl) (by kernel_rfl) ?_
  refine s_val (some 105) (.bool true) (fun w => by kernel_rfl) (by kernel_rfl) ?_
  refine s_load H17 (some 106) 24 (.tmp 11) 1 b5 (Value.cells (uv (finv (finv A NR) NR))) 24 (0, 0) (by kernel_rfl) (by kernel_rfl) (by kernel_rfl) (by kernel_rfl) (by kernel_rfl) ?_
  refine s_load H17 (some 107) 24 (.tmp 7) 3 b3 (Value.cells (uv (rs A 0 NR))) 24 (0, 0) (by kernel_rfl) (by kernel_rfl) (by kernel_rfl) (by kernel_rfl) (by kernel_rfl) ?_
  refine s_opE (some 108) _ (.bool (decide ((finv (finv A NR) NR) = (rs A 0 NR)))) (.bool true) (by kernel_rfl) (fun o w ho => eqU_run (x := (.tmp 106)) (y := (.tmp 107)) (finv (finv A NR) NR) (rs A 0 NR) (fpw_lt nr_ok) (rs_lt nr_ok) w ho (by kernel_rfl) (by kernel_rfl)) (by rw [decide_eq_true (inv_back nr_ok nr_prime hz)] <;> rfl) (by kernel_rfl) ?_
  refine s_val (some 109) (.bool true) (fun w => by kernel_rfl) (by kernel_rfl) ?_
  refine s_val (some 110) (.bool true) (fun w => by kernel_rfl) (by kernel_rfl) ?_
  refine s_load H17 (some 111) 24 (.tmp 5) 4 b2 (Value.cells (uv (finv A NR))) 24 (0, 0) (by kernel_rfl) (by kernel_rfl) (by kernel_rfl) (by kernel_rfl) (by kernel_rfl) ?_
  refine s_load H17 (some 112) 24 (.tmp 13) 0 b6 (Value.cells (uv NR)) 24 (0, 0) (by kernel_rfl) (by kernel_rfl) (by kernel_rfl) (by kernel_rfl) (by kernel_rfl) ?_
  refine s_call H17 (some 113) 25 #[uv (finv A NR), uv NR] (.int .i64 (cm (finv A NR) NR)) (cmp_fn (finv A NR) NR (fpw_lt nr_ok) nr_ok.1) (fun w => by kernel_rfl) (by kernel_rfl) ?_
  intro w18 H18; clear H17
  refine s_valE (some 114) (.bool (decide (cm (finv A NR) NR < 0))) (.bool true) (fun w => by kernel_rfl) (bool_eq (decide_eq_true (show _ from (cm_lt (inv_lt nr_ok A))))) (by kernel_rfl) ?_
  refine s_val (some 115) (.bool true) (fun w => by kernel_rfl) (by kernel_rfl) ?_
  refine s_val (some 4) (.bool true) (fun w => by kernel_rfl) (by kernel_rfl) ?_
  refine s_nil ?_
  refine g_ret (by kernel_rfl) ?_
  show ∃ vs, Res _ _ _ _ vs ∧ _
  refine ⟨[.bool true], (.tmp (.bool true) (by kernel_rfl) .nil), ?_, H18.below⟩
  rfl

theorem turns_walk (A : Nat) (hA : A < big) (n : Int) {p : Prop} (_ : p) (w : World) : Calls Try.prog 12 #[uv A, .int .i64 n] w fun e w' => e = .returned (.bool true) ∧ Below w.heap.size w w' := by
  by_cases h0 : n = 0
  · subst h0
    by_cases hz : rs A 0 PR = 0
    · exact turnsZero0 A hA hz w
    · exact turns0 A hA hz w
  · by_cases h1 : n = 1
    · subst h1
      by_cases hz : rs A 0 NR = 0
      · exact turnsZero1 A hA hz w
      · exact turns1 A hA hz w
    · exact turnsNo A hA n h0 h1 w

end Go.Proofs.Ytiiichlmmngbbaa
