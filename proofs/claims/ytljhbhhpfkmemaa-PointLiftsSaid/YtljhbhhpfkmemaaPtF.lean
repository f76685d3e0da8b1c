/-
  Package point: Lift.
-/
import Derived.Test.YtljhbhhpfkmemaaPtV
import Derived.Test.YtljhbhhpfkmemaaPtS
namespace Go.Proofs.Ytljhbhhpfkmemaa
open Go Go.RowKit
set_option linter.unusedVariables false
set_option maxRecDepth 100000 in
set_option maxHeartbeats 2000000 in
theorem liftArg_fn (x : Nat) (hx : x < big) (h : ¬ x < PR) (b : Bool) : Fn Try.prog 25 #[uv x, .bool b] (.tuple #[pv (Ec.Pd.mk 0 0 false), .int .i64 1]) := by
  refine Fn.intro (c := codeOf Try.f25) [.cell 4 26, .tmp 5] 28 Try.func25 kr kr kr fun w => ?_
  have H0 := St.start w
  refine g_sreg [0, 1, 2] kr kr ?_
  refine s_box H0 (some 2) 24 (.tmp 0) (uv x) kr kr kr ?_
  intro b1 w1 H1; clear H0
  refine s_alloc H1 (some 4) 26 (.agg Z9) kr kr kr ?_
  intro b2 w2 H2; clear H1
  refine s_val (some 5) (.int .i64 0) (fun w => kr) kr ?_
  refine s_nil ?_
  refine g_seq kr ?_
  refine g_sreg [0, 1, 2] kr kr ?_
  refine s_load H2 (some 8) 24 (.tmp 2) 1 b1 (Value.cells (uv x)) 24 (0, 0) kr kr kr kr kr ?_
  refine s_call H2 (some 9) 30 #[uv x] (.bool false) (red_no x hx h) (fun w => kr) kr ?_
  intro w3 H3; clear H2
  refine s_val (some 10) (.bool true) (fun w => kr) kr ?_
  refine s_nil ?_
  refine g_cond_t kr kr ?_
  refine g_sreg [0, 1, 2] kr kr ?_
  refine s_val (some 11) (pv (Ec.Pd.mk 0 0 false)) (fun w => kr) kr ?_
  refine s_store H3 0 [(b2, Oc (pv (Ec.Pd.mk 0 0 false)) 26), (b1, Oc (uv x) 24)] 26 (.tmp 4) (.tmp 11) b2 (0) Z9 (Value.cells (pv (Ec.Pd.mk 0 0 false))) 26 (pv (Ec.Pd.mk 0 0 false)) kr kr kr kr kr kr (of_decide_eq_true kr) kr kr ?_
  intro w4 H4; clear H3
  refine s_val (some 5) (.int .i64 1) (fun w => kr) kr ?_
  refine s_nil ?_
  refine g_ret kr ?_
  show ∃ vs, Res _ _ _ _ vs ∧ _
  refine ⟨[pv (Ec.Pd.mk 0 0 false), .int .i64 1], (.agg (b := b2) (Value.cells (pv (Ec.Pd.mk 0 0 false))) 26 (0, 0) kr (H4.get 0 kr) kr (.tmp (.int .i64 1) kr .nil)), ?_, H4.below⟩
  kernel_rfl

set_option maxRecDepth 100000 in
set_option maxHeartbeats 2000000 in
theorem liftNo_fn (x : Nat) (hx : x < big) (h : x < PR) (hs : (fMul (fpw (Ec.sqN x) QR PR) (fpw (Ec.sqN x) QR PR) PR) ≠ (rs (Ec.sqN x) 0 PR)) (b : Bool) : Fn Try.prog 25 #[uv x, .bool b] (.tuple #[pv (Ec.Pd.mk 0 0 false), .int .i64 6]) := by
  refine Fn.intro (c := codeOf Try.f25) [.cell 4 26, .tmp 5] 28 Try.func25 kr kr kr fun w => ?_
  have H0 := St.start w
  refine g_sreg [0, 1, 2] kr kr ?_
  refine s_box H0 (some 2) 24 (.tmp 0) (uv x) kr kr kr ?_
  intro b1 w1 H1; clear H0
  refine s_alloc H1 (some 4) 26 (.agg Z9) kr kr kr ?_
  intro b2 w2 H2; clear H1
  refine s_val (some 5) (.int .i64 0) (fun w => kr) kr ?_
  refine s_nil ?_
  refine g_seq kr ?_
  refine g_sreg [0, 1, 2] kr kr ?_
  refine s_load H2 (some 8) 24 (.tmp 2) 1 b1 (Value.cells (uv x)) 24 (0, 0) kr kr kr kr kr ?_
  refine s_call H2 (some 9) 30 #[uv x] (.bool true) (red_yes x hx h) (fun w => kr) kr ?_
  intro w3 H3; clear H2
  refine s_val (some 10) (.bool false) (fun w => kr) kr ?_
  refine s_nil ?_
  refine g_cond_f kr kr ?_
  refine g_skip kr ?_
  show WP _ _ _ _ _ _
  refine g_sreg [0, 1, 2, 3, 4, 5, 6, 7, 8] kr kr ?_
  refine s_load H3 (some 13) 24 (.tmp 2) 1 b1 (Value.cells (uv x)) 24 (0, 0) kr kr kr kr kr ?_
  refine s_call H3 (some 14) 32 #[uv x] (uv (Ec.sqN x)) (square_fn x hx) (fun w => kr) kr ?_
  intro w4 H4; clear H3
  refine s_call H4 (some 15) 45 #[uv (Ec.sqN x)] (.tuple #[.agg Z4, .int .i64 6]) (rootNo_fn (Ec.sqN x) (Ec.P_big (Ec.sqN_lt _)) hs) (fun w => kr) kr ?_
  intro w5 H5; clear H4
  refine s_val (some 12) (.tuple #[.agg Z4, .int .i64 6]) (fun w => kr) kr ?_
  refine s_val (some 16) (.agg Z4) (fun w => kr) kr ?_
  refine s_val (some 17) (.int .i64 6) (fun w => kr) kr ?_
  refine s_alloc H5 (some 6) 24 (.agg Z4) kr kr kr ?_
  intro b3 w6 H6; clear H5
  refine s_store H6 0 [(b3, Od Z4 24), (b2, Od Z9 26), (b1, Oc (uv x) 24)] 24 (.tmp 6) (.tmp 16) b3 (0) Z4 Z4 24 (.agg Z4) kr kr kr kr kr kr (of_decide_eq_true kr) kr kr ?_
  intro w7 H7; clear H6
  refine s_val (some 7) (.int .i64 6) (fun w => kr) kr ?_
  refine s_nil ?_
  refine g_seq kr ?_
  refine g_sreg [0, 1] kr kr ?_
  refine s_val (some 18) (.int .i64 6) (fun w => kr) kr ?_
  refine s_val (some 19) (.bool true) (fun w => kr) kr ?_
  refine s_nil ?_
  refine g_cond_t kr kr ?_
  refine g_sreg [0, 1, 2] kr kr ?_
  refine s_val (some 20) (pv (Ec.Pd.mk 0 0 false)) (fun w => kr) kr ?_
  refine s_store H7 1 [(b3, Od Z4 24), (b2, Oc (pv (Ec.Pd.mk 0 0 false)) 26), (b1, Oc (uv x) 24)] 26 (.tmp 4) (.tmp 20) b2 (0) Z9 (Value.cells (pv (Ec.Pd.mk 0 0 false))) 26 (pv (Ec.Pd.mk 0 0 false)) kr kr kr kr kr kr (of_decide_eq_true kr) kr kr ?_
  intro w8 H8; clear H7
  refine s_val (some 5) (.int .i64 6) (fun w => kr) kr ?_
  refine s_nil ?_
  refine g_ret kr ?_
  show ∃ vs, Res _ _ _ _ vs ∧ _
  refine ⟨[pv (Ec.Pd.mk 0 0 false), .int .i64 6], (.agg (b := b2) (Value.cells (pv (Ec.Pd.mk 0 0 false))) 26 (0, 0) kr (H8.get 1 kr) kr (.tmp (.int .i64 6) kr .nil)), ?_, H8.below⟩
  kernel_rfl

set_option maxRecDepth 100000 in
set_option maxHeartbeats 2000000 in
theorem lift1_fn (x : Nat) (hx : x < big) (h : x < PR) (hs : (fMul (fpw (Ec.sqN x) QR PR) (fpw (Ec.sqN x) QR PR) PR) = (rs (Ec.sqN x) 0 PR)) : Fn Try.prog 25 #[uv x, .bool true] (.tuple #[pv (Ec.Pd.mk x (fSub 0 (rt (Ec.sqN x)) PR) false), .int .i64 0]) := by
  refine Fn.intro (c := codeOf Try.f25) [.cell 4 26, .tmp 5] 28 Try.func25 kr kr kr fun w => ?_
  have H0 := St.start w
  refine g_sreg [0, 1, 2] kr kr ?_
  refine s_box H0 (some 2) 24 (.tmp 0) (uv x) kr kr kr ?_
  intro b1 w1 H1; clear H0
  refine s_alloc H1 (some 4) 26 (.agg Z9) kr kr kr ?_
  intro b2 w2 H2; clear H1
  refine s_val (some 5) (.int .i64 0) (fun w => kr) kr ?_
  refine s_nil ?_
  refine g_seq kr ?_
  refine g_sreg [0, 1, 2] kr kr ?_
  refine s_load H2 (some 8) 24 (.tmp 2) 1 b1 (Value.cells (uv x)) 24 (0, 0) kr kr kr kr kr ?_
  refine s_call H2 (some 9) 30 #[uv x] (.bool true) (red_yes x hx h) (fun w => kr) kr ?_
  intro w3 H3; clear H2
  refine s_val (some 10) (.bool false) (fun w => kr) kr ?_
  refine s_nil ?_
  refine g_cond_f kr kr ?_
  refine g_skip kr ?_
  show WP _ _ _ _ _ _
  refine g_sreg [0, 1, 2, 3, 4, 5, 6, 7, 8] kr kr ?_
  refine s_load H3 (some 13) 24 (.tmp 2) 1 b1 (Value.cells (uv x)) 24 (0, 0) kr kr kr kr kr ?_
  refine s_call H3 (some 14) 32 #[uv x] (uv (Ec.sqN x)) (square_fn x hx) (fun w => kr) kr ?_
  intro w4 H4; clear H3
  refine s_call H4 (some 15) 45 #[uv (Ec.sqN x)] (.tuple #[uv (rt (Ec.sqN x)), .int .i64 0]) (root_fn (Ec.sqN x) (Ec.P_big (Ec.sqN_lt _)) hs) (fun w => kr) kr ?_
  intro w5 H5; clear H4
  refine s_val (some 12) (.tuple #[uv (rt (Ec.sqN x)), .int .i64 0]) (fun w => kr) kr ?_
  refine s_val (some 16) (uv (rt (Ec.sqN x))) (fun w => kr) kr ?_
  refine s_val (some 17) (.int .i64 0) (fun w => kr) kr ?_
  refine s_alloc H5 (some 6) 24 (.agg Z4) kr kr kr ?_
  intro b3 w6 H6; clear H5
  refine s_store H6 0 [(b3, Oc (uv (rt (Ec.sqN x))) 24), (b2, Od Z9 26), (b1, Oc (uv x) 24)] 24 (.tmp 6) (.tmp 16) b3 (0) Z4 (Value.cells (uv (rt (Ec.sqN x)))) 24 (uv (rt (Ec.sqN x))) kr kr kr kr kr kr (of_decide_eq_true kr) kr kr ?_
  intro w7 H7; clear H6
  refine s_val (some 7) (.int .i64 0) (fun w => kr) kr ?_
  refine s_nil ?_
  refine g_seq kr ?_
  refine g_sreg [0, 1] kr kr ?_
  refine s_val (some 18) (.int .i64 0) (fun w => kr) kr ?_
  refine s_val (some 19) (.bool false) (fun w => kr) kr ?_
  refine s_nil ?_
  refine g_cond_f kr kr ?_
  refine g_skip kr ?_
  show WP _ _ _ _ _ _
  refine g_seq kr ?_
  refine g_sreg [0] kr kr ?_
  refine s_val (some 21) (.bool true) (fun w => kr) kr ?_
  refine s_nil ?_
  refine g_cond_t kr kr ?_
  refine g_reg0 [0, 1, 2, 3] kr ?_
  refine s_val (some 22) (.agg Z4) (fun w => kr) kr ?_
  refine s_load H7 (some 23) 24 (.tmp 6) 0 b3 (Value.cells (uv (rt (Ec.sqN x)))) 24 (0, 0) kr kr kr kr kr ?_
  refine s_call H7 (some 24) 38 #[.agg Z4, uv (rt (Ec.sqN x))] (uv (fSub 0 (rt (Ec.sqN x)) PR)) (pless_fn 0 (rt (Ec.sqN x)) (by unfold big; omega) (rt_lt _)) (fun w => kr) kr ?_
  intro w8 H8; clear H7
  refine s_store H8 0 [(b3, Oc (uv (fSub 0 (rt (Ec.sqN x)) PR)) 24), (b2, Od Z9 26), (b1, Oc (uv x) 24)] 24 (.tmp 6) (.tmp 24) b3 (0) (Value.cells (uv (rt (Ec.sqN x)))) (Value.cells (uv (fSub 0 (rt (Ec.sqN x)) PR))) 24 (uv (fSub 0 (rt (Ec.sqN x)) PR)) kr kr kr kr kr kr (of_decide_eq_true kr) kr kr ?_
  intro w9 H9; clear H8
  refine s_nil ?_
  show WP _ _ _ _ _ _
  refine g_sreg [0, 1, 2, 3, 4] kr kr ?_
  refine s_load H9 (some 25) 24 (.tmp 2) 2 b1 (Value.cells (uv x)) 24 (0, 0) kr kr kr kr kr ?_
  refine s_load H9 (some 26) 24 (.tmp 6) 0 b3 (Value.cells (uv (fSub 0 (rt (Ec.sqN x)) PR))) 24 (0, 0) kr kr kr kr kr ?_
  refine s_val (some 27) (pv (Ec.Pd.mk x (fSub 0 (rt (Ec.sqN x)) PR) false)) (fun w => kr) kr ?_
  refine s_store H9 1 [(b3, Oc (uv (fSub 0 (rt (Ec.sqN x)) PR)) 24), (b2, Oc (pv (Ec.Pd.mk x (fSub 0 (rt (Ec.sqN x)) PR) false)) 26), (b1, Oc (uv x) 24)] 26 (.tmp 4) (.tmp 27) b2 (0) Z9 (Value.cells (pv (Ec.Pd.mk x (fSub 0 (rt (Ec.sqN x)) PR) false))) 26 (pv (Ec.Pd.mk x (fSub 0 (rt (Ec.sqN x)) PR) false)) kr kr kr kr kr kr (of_decide_eq_true kr) kr kr ?_
  intro w10 H10; clear H9
  refine s_val (some 5) (.int .i64 0) (fun w => kr) kr ?_
  refine s_nil ?_
  refine g_ret kr ?_
  show ∃ vs, Res _ _ _ _ vs ∧ _
  refine ⟨[pv (Ec.Pd.mk x (fSub 0 (rt (Ec.sqN x)) PR) false), .int .i64 0], (.agg (b := b2) (Value.cells (pv (Ec.Pd.mk x (fSub 0 (rt (Ec.sqN x)) PR) false))) 26 (0, 0) kr (H10.get 1 kr) kr (.tmp (.int .i64 0) kr .nil)), ?_, H10.below⟩
  rfl

set_option maxRecDepth 100000 in
set_option maxHeartbeats 2000000 in
theorem lift0_fn (x : Nat) (hx : x < big) (h : x < PR) (hs : (fMul (fpw (Ec.sqN x) QR PR) (fpw (Ec.sqN x) QR PR) PR) = (rs (Ec.sqN x) 0 PR)) : Fn Try.prog 25 #[uv x, .bool false] (.tuple #[pv (Ec.Pd.mk x (rt (Ec.sqN x)) false), .int .i64 0]) := by
  refine Fn.intro (c := codeOf Try.f25) [.cell 4 26, .tmp 5] 28 Try.func25 kr kr kr fun w => ?_
  have H0 := St.start w
  refine g_sreg [0, 1, 2] kr kr ?_
  refine s_box H0 (some 2) 24 (.tmp 0) (uv x) kr kr kr ?_
  intro b1 w1 H1; clear H0
  refine s_alloc H1 (some 4) 26 (.agg Z9) kr kr kr ?_
  intro b2 w2 H2; clear H1
  refine s_val (some 5) (.int .i64 0) (fun w => kr) kr ?_
  refine s_nil ?_
  refine g_seq kr ?_
  refine g_sreg [0, 1, 2] kr kr ?_
  refine s_load H2 (some 8) 24 (.tmp 2) 1 b1 (Value.cells (uv x)) 24 (0, 0) kr kr kr kr kr ?_
  refine s_call H2 (some 9) 30 #[uv x] (.bool true) (red_yes x hx h) (fun w => kr) kr ?_
  intro w3 H3; clear H2
  refine s_val (some 10) (.bool false) (fun w => kr) kr ?_
  refine s_nil ?_
  refine g_cond_f kr kr ?_
  refine g_skip kr ?_
  show WP _ _ _ _ _ _
  refine g_sreg [0, 1, 2, 3, 4, 5, 6, 7, 8] kr kr ?_
  refine s_load H3 (some 13) 24 (.tmp 2) 1 b1 (Value.cells (uv x)) 24 (0, 0) kr kr kr kr kr ?_
  refine s_call H3 (some 14) 32 #[uv x] (uv (Ec.sqN x)) (square_fn x hx) (fun w => kr) kr ?_
  intro w4 H4; clear H3
  refine s_call H4 (some 15) 45 #[uv (Ec.sqN x)] (.tuple #[uv (rt (Ec.sqN x)), .int .i64 0]) (root_fn (Ec.sqN x) (Ec.P_big (Ec.sqN_lt _)) hs) (fun w => kr) kr ?_
  intro w5 H5; clear H4
  refine s_val (some 12) (.tuple #[uv (rt (Ec.sqN x)), .int .i64 0]) (fun w => kr) kr ?_
  refine s_val (some 16) (uv (rt (Ec.sqN x))) (fun w => kr) kr ?_
  refine s_val (some 17) (.int .i64 0) (fun w => kr) kr ?_
  refine s_alloc H5 (some 6) 24 (.agg Z4) kr kr kr ?_
  intro b3 w6 H6; clear H5
  refine s_store H6 0 [(b3, Oc (uv (rt (Ec.sqN x))) 24), (b2, Od Z9 26), (b1, Oc (uv x) 24)] 24 (.tmp 6) (.tmp 16) b3 (0) Z4 (Value.cells (uv (rt (Ec.sqN x)))) 24 (uv (rt (Ec.sqN x))) kr kr kr kr kr kr (of_decide_eq_true kr) kr kr ?_
  intro w7 H7; clear H6
  refine s_val (some 7) (.int .i64 0) (fun w => kr) kr ?_
  refine s_nil ?_
  refine g_seq kr ?_
  refine g_sreg [0, 1] kr kr ?_
  refine s_val (some 18) (.int .i64 0) (fun w => kr) kr ?_
  refine s_val (some 19) (.bool false) (fun w => kr) kr ?_
  refine s_nil ?_
  refine g_cond_f kr kr ?_
  refine g_skip kr ?_
  show WP _ _ _ _ _ _
  refine g_seq kr ?_
  refine g_sreg [0] kr kr ?_
  refine s_val (some 21) (.bool false) (fun w => kr) kr ?_
  refine s_nil ?_
  refine g_cond_f kr kr ?_
  refine g_skip kr ?_
  show WP _ _ _ _ _ _
  refine g_sreg [0, 1, 2, 3, 4] kr kr ?_
  refine s_load H7 (some 25) 24 (.tmp 2) 2 b1 (Value.cells (uv x)) 24 (0, 0) kr kr kr kr kr ?_
  refine s_load H7 (some 26) 24 (.tmp 6) 0 b3 (Value.cells (uv (rt (Ec.sqN x)))) 24 (0, 0) kr kr kr kr kr ?_
  refine s_val (some 27) (pv (Ec.Pd.mk x (rt (Ec.sqN x)) false)) (fun w => kr) kr ?_
  refine s_store H7 1 [(b3, Oc (uv (rt (Ec.sqN x))) 24), (b2, Oc (pv (Ec.Pd.mk x (rt (Ec.sqN x)) false)) 26), (b1, Oc (uv x) 24)] 26 (.tmp 4) (.tmp 27) b2 (0) Z9 (Value.cells (pv (Ec.Pd.mk x (rt (Ec.sqN x)) false))) 26 (pv (Ec.Pd.mk x (rt (Ec.sqN x)) false)) kr kr kr kr kr kr (of_decide_eq_true kr) kr kr ?_
  intro w8 H8; clear H7
  refine s_val (some 5) (.int .i64 0) (fun w => kr) kr ?_
  refine s_nil ?_
  refine g_ret kr ?_
  show ∃ vs, Res _ _ _ _ vs ∧ _
  refine ⟨[pv (Ec.Pd.mk x (rt (Ec.sqN x)) false), .int .i64 0], (.agg (b := b2) (Value.cells (pv (Ec.Pd.mk x (rt (Ec.sqN x)) false))) 26 (0, 0) kr (H8.get 1 kr) kr (.tmp (.int .i64 0) kr .nil)), ?_, H8.below⟩
  rfl
end Go.Proofs.Ytljhbhhpfkmemaa
