/-
  Package point: numbers, points with a third number.
-/
import Derived.Test.YtljhbhhpfkmemaaPtV
namespace Go.Proofs.Ytljhbhhpfkmemaa
open Go Go.RowKit
set_option linter.unusedVariables false

theorem cm_lt {A B : Nat} (h : A < B) : cm A B < 0 := by unfold cm; split <;> (try split) <;> omega
theorem cm_nlt {A B : Nat} (h : ¬ A < B) : ¬ cm A B < 0 := by unfold cm; split <;> (try split) <;> omega

set_option maxRecDepth 100000 in
set_option maxHeartbeats 2000000 in
theorem pmul_fn (A B : Nat) (hA : A < big) (hB : B < big) : Fn Try.prog 31 #[uv A, uv B] (uv (fMul A B PR)) := by
  refine Fn.intro (c := codeOf Try.f31) [.cell 4 24] 14 Try.func31 kr kr kr fun w => ?_
  have H0 := St.start w
  refine g_sreg [0, 1, 2] kr kr ?_
  refine s_box H0 (some 2) 24 (.tmp 0) (uv A) kr kr kr ?_
  intro b1 w1 H1; clear H0
  refine s_box H1 (some 3) 24 (.tmp 1) (uv B) kr kr kr ?_
  intro b2 w2 H2; clear H1
  refine s_alloc H2 (some 4) 24 (.agg Z4) kr kr kr ?_
  intro b3 w3 H3; clear H2
  refine s_nil ?_
  refine g_sreg [0, 1, 2, 3, 4, 5, 6, 7, 8] kr kr ?_
  refine s_load H3 (some 8) 24 (.tmp 2) 2 b1 (Value.cells (uv A)) 24 (0, 0) kr kr kr kr kr ?_
  refine s_load H3 (some 9) 24 (.tmp 3) 1 b2 (Value.cells (uv B)) 24 (0, 0) kr kr kr kr kr ?_
  refine s_call H3 (some 10) 23 #[uv A, uv B, .int .i64 0] (.tuple #[uv (fMul A B PR), .int .i64 0]) (fmul0_fn A B hA hB) (fun w => kr) kr ?_
  intro w4 H4; clear H3
  refine s_val (some 7) (.tuple #[uv (fMul A B PR), .int .i64 0]) (fun w => kr) kr ?_
  refine s_val (some 11) (uv (fMul A B PR)) (fun w => kr) kr ?_
  refine s_val (some 12) (.int .i64 0) (fun w => kr) kr ?_
  refine s_alloc H4 (some 5) 24 (.agg Z4) kr kr kr ?_
  intro b4 w5 H5; clear H4
  refine s_store H5 0 [(b4, Oc (uv (fMul A B PR)) 24), (b3, Od Z4 24), (b2, Oc (uv B) 24), (b1, Oc (uv A) 24)] 24 (.tmp 5) (.tmp 11) b4 (0) Z4 (Value.cells (uv (fMul A B PR))) 24 (uv (fMul A B PR)) kr kr kr kr kr kr (of_decide_eq_true kr) kr kr ?_
  intro w6 H6; clear H5
  refine s_val (some 6) (.int .i64 0) (fun w => kr) kr ?_
  refine s_nil ?_
  refine g_sreg [0, 1] kr kr ?_
  refine s_load H6 (some 13) 24 (.tmp 5) 0 b4 (Value.cells (uv (fMul A B PR))) 24 (0, 0) kr kr kr kr kr ?_
  refine s_store H6 1 [(b4, Oc (uv (fMul A B PR)) 24), (b3, Oc (uv (fMul A B PR)) 24), (b2, Oc (uv B) 24), (b1, Oc (uv A) 24)] 24 (.tmp 4) (.tmp 13) b3 (0) Z4 (Value.cells (uv (fMul A B PR))) 24 (uv (fMul A B PR)) kr kr kr kr kr kr (of_decide_eq_true kr) kr kr ?_
  intro w7 H7; clear H6
  refine s_nil ?_
  refine g_ret kr ?_
  show ∃ vs, Res _ _ _ _ vs ∧ _
  refine ⟨[uv (fMul A B PR)], (.agg (b := b3) (Value.cells (uv (fMul A B PR))) 24 (0, 0) kr (H7.get 1 kr) kr .nil), ?_, H7.below⟩
  rfl

set_option maxRecDepth 100000 in
set_option maxHeartbeats 2000000 in
theorem psum_fn (A B : Nat) (hA : A < big) (hB : B < big) : Fn Try.prog 52 #[uv A, uv B] (uv (fAdd A B PR)) := by
  refine Fn.intro (c := codeOf Try.f52) [.cell 4 24] 14 Try.func52 kr kr kr fun w => ?_
  have H0 := St.start w
  refine g_sreg [0, 1, 2] kr kr ?_
  refine s_box H0 (some 2) 24 (.tmp 0) (uv A) kr kr kr ?_
  intro b1 w1 H1; clear H0
  refine s_box H1 (some 3) 24 (.tmp 1) (uv B) kr kr kr ?_
  intro b2 w2 H2; clear H1
  refine s_alloc H2 (some 4) 24 (.agg Z4) kr kr kr ?_
  intro b3 w3 H3; clear H2
  refine s_nil ?_
  refine g_sreg [0, 1, 2, 3, 4, 5, 6, 7, 8] kr kr ?_
  refine s_load H3 (some 8) 24 (.tmp 2) 2 b1 (Value.cells (uv A)) 24 (0, 0) kr kr kr kr kr ?_
  refine s_load H3 (some 9) 24 (.tmp 3) 1 b2 (Value.cells (uv B)) 24 (0, 0) kr kr kr kr kr ?_
  refine s_call H3 (some 10) 24 #[uv A, uv B, .int .i64 0] (.tuple #[uv (fAdd A B PR), .int .i64 0]) (fadd0_fn A B hA hB) (fun w => kr) kr ?_
  intro w4 H4; clear H3
  refine s_val (some 7) (.tuple #[uv (fAdd A B PR), .int .i64 0]) (fun w => kr) kr ?_
  refine s_val (some 11) (uv (fAdd A B PR)) (fun w => kr) kr ?_
  refine s_val (some 12) (.int .i64 0) (fun w => kr) kr ?_
  refine s_alloc H4 (some 5) 24 (.agg Z4) kr kr kr ?_
  intro b4 w5 H5; clear H4
  refine s_store H5 0 [(b4, Oc (uv (fAdd A B PR)) 24), (b3, Od Z4 24), (b2, Oc (uv B) 24), (b1, Oc (uv A) 24)] 24 (.tmp 5) (.tmp 11) b4 (0) Z4 (Value.cells (uv (fAdd A B PR))) 24 (uv (fAdd A B PR)) kr kr kr kr kr kr (of_decide_eq_true kr) kr kr ?_
  intro w6 H6; clear H5
  refine s_val (some 6) (.int .i64 0) (fun w => kr) kr ?_
  refine s_nil ?_
  refine g_sreg [0, 1] kr kr ?_
  refine s_load H6 (some 13) 24 (.tmp 5) 0 b4 (Value.cells (uv (fAdd A B PR))) 24 (0, 0) kr kr kr kr kr ?_
  refine s_store H6 1 [(b4, Oc (uv (fAdd A B PR)) 24), (b3, Oc (uv (fAdd A B PR)) 24), (b2, Oc (uv B) 24), (b1, Oc (uv A) 24)] 24 (.tmp 4) (.tmp 13) b3 (0) Z4 (Value.cells (uv (fAdd A B PR))) 24 (uv (fAdd A B PR)) kr kr kr kr kr kr (of_decide_eq_true kr) kr kr ?_
  intro w7 H7; clear H6
  refine s_nil ?_
  refine g_ret kr ?_
  show ∃ vs, Res _ _ _ _ vs ∧ _
  refine ⟨[uv (fAdd A B PR)], (.agg (b := b3) (Value.cells (uv (fAdd A B PR))) 24 (0, 0) kr (H7.get 1 kr) kr .nil), ?_, H7.below⟩
  rfl

set_option maxRecDepth 100000 in
set_option maxHeartbeats 2000000 in
theorem pless_fn (A B : Nat) (hA : A < big) (hB : B < big) : Fn Try.prog 38 #[uv A, uv B] (uv (fSub A B PR)) := by
  refine Fn.intro (c := codeOf Try.f38) [.cell 4 24] 14 Try.func38 kr kr kr fun w => ?_
  have H0 := St.start w
  refine g_sreg [0, 1, 2] kr kr ?_
  refine s_box H0 (some 2) 24 (.tmp 0) (uv A) kr kr kr ?_
  intro b1 w1 H1; clear H0
  refine s_box H1 (some 3) 24 (.tmp 1) (uv B) kr kr kr ?_
  intro b2 w2 H2; clear H1
  refine s_alloc H2 (some 4) 24 (.agg Z4) kr kr kr ?_
  intro b3 w3 H3; clear H2
  refine s_nil ?_
  refine g_sreg [0, 1, 2, 3, 4, 5, 6, 7, 8] kr kr ?_
  refine s_load H3 (some 8) 24 (.tmp 2) 2 b1 (Value.cells (uv A)) 24 (0, 0) kr kr kr kr kr ?_
  refine s_load H3 (some 9) 24 (.tmp 3) 1 b2 (Value.cells (uv B)) 24 (0, 0) kr kr kr kr kr ?_
  refine s_call H3 (some 10) 28 #[uv A, uv B, .int .i64 0] (.tuple #[uv (fSub A B PR), .int .i64 0]) (fsub0_fn A B hA hB) (fun w => kr) kr ?_
  intro w4 H4; clear H3
  refine s_val (some 7) (.tuple #[uv (fSub A B PR), .int .i64 0]) (fun w => kr) kr ?_
  refine s_val (some 11) (uv (fSub A B PR)) (fun w => kr) kr ?_
  refine s_val (some 12) (.int .i64 0) (fun w => kr) kr ?_
  refine s_alloc H4 (some 5) 24 (.agg Z4) kr kr kr ?_
  intro b4 w5 H5; clear H4
  refine s_store H5 0 [(b4, Oc (uv (fSub A B PR)) 24), (b3, Od Z4 24), (b2, Oc (uv B) 24), (b1, Oc (uv A) 24)] 24 (.tmp 5) (.tmp 11) b4 (0) Z4 (Value.cells (uv (fSub A B PR))) 24 (uv (fSub A B PR)) kr kr kr kr kr kr (of_decide_eq_true kr) kr kr ?_
  intro w6 H6; clear H5
  refine s_val (some 6) (.int .i64 0) (fun w => kr) kr ?_
  refine s_nil ?_
  refine g_sreg [0, 1] kr kr ?_
  refine s_load H6 (some 13) 24 (.tmp 5) 0 b4 (Value.cells (uv (fSub A B PR))) 24 (0, 0) kr kr kr kr kr ?_
  refine s_store H6 1 [(b4, Oc (uv (fSub A B PR)) 24), (b3, Oc (uv (fSub A B PR)) 24), (b2, Oc (uv B) 24), (b1, Oc (uv A) 24)] 24 (.tmp 4) (.tmp 13) b3 (0) Z4 (Value.cells (uv (fSub A B PR))) 24 (uv (fSub A B PR)) kr kr kr kr kr kr (of_decide_eq_true kr) kr kr ?_
  intro w7 H7; clear H6
  refine s_nil ?_
  refine g_ret kr ?_
  show ∃ vs, Res _ _ _ _ vs ∧ _
  refine ⟨[uv (fSub A B PR)], (.agg (b := b3) (Value.cells (uv (fSub A B PR))) 24 (0, 0) kr (H7.get 1 kr) kr .nil), ?_, H7.below⟩
  rfl

set_option maxRecDepth 100000 in
set_option maxHeartbeats 2000000 in
theorem rmul6_fn (A B : Nat) (hA : A < big) (hB : B < big) : Fn Try.prog 33 #[uv A, uv B] (uv (fMul A B PR)) := by
  refine Fn.intro (c := codeOf Try.f33) [.cell 4 24] 8 Try.func33 kr kr kr fun w => ?_
  have H0 := St.start w
  refine g_sreg [0, 1, 2] kr kr ?_
  refine s_box H0 (some 2) 24 (.tmp 0) (uv A) kr kr kr ?_
  intro b1 w1 H1; clear H0
  refine s_box H1 (some 3) 24 (.tmp 1) (uv B) kr kr kr ?_
  intro b2 w2 H2; clear H1
  refine s_alloc H2 (some 4) 24 (.agg Z4) kr kr kr ?_
  intro b3 w3 H3; clear H2
  refine s_nil ?_
  refine g_sreg [0, 1, 2, 3] kr kr ?_
  refine s_load H3 (some 5) 24 (.tmp 2) 2 b1 (Value.cells (uv A)) 24 (0, 0) kr kr kr kr kr ?_
  refine s_load H3 (some 6) 24 (.tmp 3) 1 b2 (Value.cells (uv B)) 24 (0, 0) kr kr kr kr kr ?_
  refine s_call H3 (some 7) 53 #[uv A, uv B, .int .i64 0] (uv (fMul A B PR)) (rmul0_fn A B hA hB) (fun w => kr) kr ?_
  intro w4 H4; clear H3
  refine s_store H4 0 [(b3, Oc (uv (fMul A B PR)) 24), (b2, Oc (uv B) 24), (b1, Oc (uv A) 24)] 24 (.tmp 4) (.tmp 7) b3 (0) Z4 (Value.cells (uv (fMul A B PR))) 24 (uv (fMul A B PR)) kr kr kr kr kr kr (of_decide_eq_true kr) kr kr ?_
  intro w5 H5; clear H4
  refine s_nil ?_
  refine g_ret kr ?_
  show ∃ vs, Res _ _ _ _ vs ∧ _
  refine ⟨[uv (fMul A B PR)], (.agg (b := b3) (Value.cells (uv (fMul A B PR))) 24 (0, 0) kr (H5.get 0 kr) kr .nil), ?_, H5.below⟩
  rfl

set_option maxRecDepth 100000 in
set_option maxHeartbeats 2000000 in
theorem radd6_fn (A B : Nat) (hA : A < big) (hB : B < big) : Fn Try.prog 34 #[uv A, uv B] (uv (fAdd A B PR)) := by
  refine Fn.intro (c := codeOf Try.f34) [.cell 4 24] 8 Try.func34 kr kr kr fun w => ?_
  have H0 := St.start w
  refine g_sreg [0, 1, 2] kr kr ?_
  refine s_box H0 (some 2) 24 (.tmp 0) (uv A) kr kr kr ?_
  intro b1 w1 H1; clear H0
  refine s_box H1 (some 3) 24 (.tmp 1) (uv B) kr kr kr ?_
  intro b2 w2 H2; clear H1
  refine s_alloc H2 (some 4) 24 (.agg Z4) kr kr kr ?_
  intro b3 w3 H3; clear H2
  refine s_nil ?_
  refine g_sreg [0, 1, 2, 3] kr kr ?_
  refine s_load H3 (some 5) 24 (.tmp 2) 2 b1 (Value.cells (uv A)) 24 (0, 0) kr kr kr kr kr ?_
  refine s_load H3 (some 6) 24 (.tmp 3) 1 b2 (Value.cells (uv B)) 24 (0, 0) kr kr kr kr kr ?_
  refine s_call H3 (some 7) 54 #[uv A, uv B, .int .i64 0] (uv (fAdd A B PR)) (radd0_fn A B hA hB) (fun w => kr) kr ?_
  intro w4 H4; clear H3
  refine s_store H4 0 [(b3, Oc (uv (fAdd A B PR)) 24), (b2, Oc (uv B) 24), (b1, Oc (uv A) 24)] 24 (.tmp 4) (.tmp 7) b3 (0) Z4 (Value.cells (uv (fAdd A B PR))) 24 (uv (fAdd A B PR)) kr kr kr kr kr kr (of_decide_eq_true kr) kr kr ?_
  intro w5 H5; clear H4
  refine s_nil ?_
  refine g_ret kr ?_
  show ∃ vs, Res _ _ _ _ vs ∧ _
  refine ⟨[uv (fAdd A B PR)], (.agg (b := b3) (Value.cells (uv (fAdd A B PR))) 24 (0, 0) kr (H5.get 0 kr) kr .nil), ?_, H5.below⟩
  rfl

set_option maxRecDepth 100000 in
set_option maxHeartbeats 2000000 in
theorem rsub6_fn (A B : Nat) (hA : A < big) (hB : B < big) : Fn Try.prog 39 #[uv A, uv B] (uv (fSub A B PR)) := by
  refine Fn.intro (c := codeOf Try.f39) [.cell 4 24] 8 Try.func39 kr kr kr fun w => ?_
  have H0 := St.start w
  refine g_sreg [0, 1, 2] kr kr ?_
  refine s_box H0 (some 2) 24 (.tmp 0) (uv A) kr kr kr ?_
  intro b1 w1 H1; clear H0
  refine s_box H1 (some 3) 24 (.tmp 1) (uv B) kr kr kr ?_
  intro b2 w2 H2; clear H1
  refine s_alloc H2 (some 4) 24 (.agg Z4) kr kr kr ?_
  intro b3 w3 H3; clear H2
  refine s_nil ?_
  refine g_sreg [0, 1, 2, 3] kr kr ?_
  refine s_load H3 (some 5) 24 (.tmp 2) 2 b1 (Value.cells (uv A)) 24 (0, 0) kr kr kr kr kr ?_
  refine s_load H3 (some 6) 24 (.tmp 3) 1 b2 (Value.cells (uv B)) 24 (0, 0) kr kr kr kr kr ?_
  refine s_call H3 (some 7) 58 #[uv A, uv B, .int .i64 0] (uv (fSub A B PR)) (rsub0_fn A B hA hB) (fun w => kr) kr ?_
  intro w4 H4; clear H3
  refine s_store H4 0 [(b3, Oc (uv (fSub A B PR)) 24), (b2, Oc (uv B) 24), (b1, Oc (uv A) 24)] 24 (.tmp 4) (.tmp 7) b3 (0) Z4 (Value.cells (uv (fSub A B PR))) 24 (uv (fSub A B PR)) kr kr kr kr kr kr (of_decide_eq_true kr) kr kr ?_
  intro w5 H5; clear H4
  refine s_nil ?_
  refine g_ret kr ?_
  show ∃ vs, Res _ _ _ _ vs ∧ _
  refine ⟨[uv (fSub A B PR)], (.agg (b := b3) (Value.cells (uv (fSub A B PR))) 24 (0, 0) kr (H5.get 0 kr) kr .nil), ?_, H5.below⟩
  rfl

set_option maxRecDepth 100000 in
set_option maxHeartbeats 2000000 in
theorem red_yes (A : Nat) (hA : A < big) (h : A < PR) : Fn Try.prog 30 #[uv A] (.bool true) := by
  refine Fn.intro (c := codeOf Try.f30) [.tmp 2] 13 Try.func30 kr kr kr fun w => ?_
  have H0 := St.start w
  refine g_sreg [0, 1] kr kr ?_
  refine s_box H0 (some 1) 24 (.tmp 0) (uv A) kr kr kr ?_
  intro b1 w1 H1; clear H0
  refine s_val (some 2) (.bool false) (fun w => kr) kr ?_
  refine s_nil ?_
  refine g_sreg [0, 1, 2, 3, 4, 5, 6] kr kr ?_
  refine s_call H1 (some 6) 20 #[.int .i64 0] (.tuple #[uv PR, .int .i64 0]) prime0_fn (fun w => kr) kr ?_
  intro w2 H2; clear H1
  refine s_val (some 5) (.tuple #[uv PR, .int .i64 0]) (fun w => kr) kr ?_
  refine s_val (some 7) (uv PR) (fun w => kr) kr ?_
  refine s_val (some 8) (.int .i64 0) (fun w => kr) kr ?_
  refine s_alloc H2 (some 3) 24 (.agg Z4) kr kr kr ?_
  intro b2 w3 H3; clear H2
  refine s_store H3 0 [(b2, Oc (uv PR) 24), (b1, Oc (uv A) 24)] 24 (.tmp 3) (.tmp 7) b2 (0) Z4 (Value.cells (uv PR)) 24 (uv PR) kr kr kr kr kr kr (of_decide_eq_true kr) kr kr ?_
  intro w4 H4; clear H3
  refine s_val (some 4) (.int .i64 0) (fun w => kr) kr ?_
  refine s_nil ?_
  refine g_sreg [0, 1, 2, 3, 4] kr kr ?_
  refine s_load H4 (some 9) 24 (.tmp 1) 1 b1 (Value.cells (uv A)) 24 (0, 0) kr kr kr kr kr ?_
  refine s_load H4 (some 10) 24 (.tmp 3) 0 b2 (Value.cells (uv PR)) 24 (0, 0) kr kr kr kr kr ?_
  refine s_call H4 (some 11) 51 #[uv A, uv PR] (.int .i64 (cm A PR)) (cmp_fn A PR hA pr_ok.1) (fun w => kr) kr ?_
  intro w5 H5; clear H4
  refine s_valE (some 12) (.bool (decide (cm A PR < 0))) (.bool true) (fun w => kr) (bool_eq (decide_eq_true (cm_lt h))) kr ?_
  refine s_val (some 2) (.bool true) (fun w => kr) kr ?_
  refine s_nil ?_
  refine g_ret kr ?_
  show ∃ vs, Res _ _ _ _ vs ∧ _
  refine ⟨[.bool true], (.tmp (.bool true) kr .nil), ?_, H5.below⟩
  rfl

set_option maxRecDepth 100000 in
set_option maxHeartbeats 2000000 in
theorem red_no (A : Nat) (hA : A < big) (h : ¬ A < PR) : Fn Try.prog 30 #[uv A] (.bool false) := by
  refine Fn.intro (c := codeOf Try.f30) [.tmp 2] 13 Try.func30 kr kr kr fun w => ?_
  have H0 := St.start w
  refine g_sreg [0, 1] kr kr ?_
  refine s_box H0 (some 1) 24 (.tmp 0) (uv A) kr kr kr ?_
  intro b1 w1 H1; clear H0
  refine s_val (some 2) (.bool false) (fun w => kr) kr ?_
  refine s_nil ?_
  refine g_sreg [0, 1, 2, 3, 4, 5, 6] kr kr ?_
  refine s_call H1 (some 6) 20 #[.int .i64 0] (.tuple #[uv PR, .int .i64 0]) prime0_fn (fun w => kr) kr ?_
  intro w2 H2; clear H1
  refine s_val (some 5) (.tuple #[uv PR, .int .i64 0]) (fun w => kr) kr ?_
  refine s_val (some 7) (uv PR) (fun w => kr) kr ?_
  refine s_val (some 8) (.int .i64 0) (fun w => kr) kr ?_
  refine s_alloc H2 (some 3) 24 (.agg Z4) kr kr kr ?_
  intro b2 w3 H3; clear H2
  refine s_store H3 0 [(b2, Oc (uv PR) 24), (b1, Oc (uv A) 24)] 24 (.tmp 3) (.tmp 7) b2 (0) Z4 (Value.cells (uv PR)) 24 (uv PR) kr kr kr kr kr kr (of_decide_eq_true kr) kr kr ?_
  intro w4 H4; clear H3
  refine s_val (some 4) (.int .i64 0) (fun w => kr) kr ?_
  refine s_nil ?_
  refine g_sreg [0, 1, 2, 3, 4] kr kr ?_
  refine s_load H4 (some 9) 24 (.tmp 1) 1 b1 (Value.cells (uv A)) 24 (0, 0) kr kr kr kr kr ?_
  refine s_load H4 (some 10) 24 (.tmp 3) 0 b2 (Value.cells (uv PR)) 24 (0, 0) kr kr kr kr kr ?_
  refine s_call H4 (some 11) 51 #[uv A, uv PR] (.int .i64 (cm A PR)) (cmp_fn A PR hA pr_ok.1) (fun w => kr) kr ?_
  intro w5 H5; clear H4
  refine s_valE (some 12) (.bool (decide (cm A PR < 0))) (.bool false) (fun w => kr) (bool_eq (decide_eq_false (cm_nlt h))) kr ?_
  refine s_val (some 2) (.bool false) (fun w => kr) kr ?_
  refine s_nil ?_
  refine g_ret kr ?_
  show ∃ vs, Res _ _ _ _ vs ∧ _
  refine ⟨[.bool false], (.tmp (.bool false) kr .nil), ?_, H5.below⟩
  rfl

set_option maxRecDepth 100000 in
set_option maxHeartbeats 2000000 in
theorem rred_fn (A : Nat) (hA : A < big) : Fn Try.prog 26 #[uv A] (.bool (decide (A < PR))) := by
  refine Fn.intro (c := codeOf Try.f26) [.tmp 2] 8 Try.func26 kr kr kr fun w => ?_
  have H0 := St.start w
  refine g_sreg [0, 1] kr kr ?_
  refine s_box H0 (some 1) 24 (.tmp 0) (uv A) kr kr kr ?_
  intro b1 w1 H1; clear H0
  refine s_val (some 2) (.bool false) (fun w => kr) kr ?_
  refine s_nil ?_
  refine g_sreg [0, 1, 2, 3, 4, 5] kr kr ?_
  refine s_load H1 (some 3) 24 (.tmp 1) 0 b1 (Value.cells (uv A)) 24 (0, 0) kr kr kr kr kr ?_
  refine s_callS H1 (some 4) 47 #[uv A] (fun _ => True) 3 1 (fun curZ capZ nZ lZ => (nZ = List.length lZ ∧ Rw 1 curZ capZ nZ (cellsD lZ) ∧ Ok lZ ∧ (lZ = dgs A 16 ∧ vl lZ = A ∧ List.length lZ = 16))) (of_fn A hA) trivial kr kr ?_
  intro b_1 cap_2 n_3 cur_4 l_5 w2 H2 hs_6; clear H1
  obtain ⟨hs_6n, hs_6r, hs_6o, hs_6s⟩ := hs_6
  obtain ⟨hs_6a, hs_6b, hs_6c⟩ := hs_6s
  refine s_call H2 (some 5) 48 #[.int .i64 0] (uv PR) modulus0_fn (fun w => kr) kr ?_
  intro w3 H3; clear H2
  refine s_callS H3 (some 6) 47 #[uv PR] (fun _ => True) 3 1 (fun curZ capZ nZ lZ => (nZ = List.length lZ ∧ Rw 1 curZ capZ nZ (cellsD lZ) ∧ Ok lZ ∧ (lZ = dgs PR 16 ∧ vl lZ = PR ∧ List.length lZ = 16))) (of_fn PR pr_ok.1) trivial kr kr ?_
  intro b_7 cap_8 n_9 cur_10 l_11 w4 H4 hs_12; clear H3
  obtain ⟨hs_12n, hs_12r, hs_12o, hs_12s⟩ := hs_12
  obtain ⟨hs_12a, hs_12b, hs_12c⟩ := hs_12s
  refine s_callP H4 (some 7) 46 #[.slice (some ⟨b_1, 0, none⟩) n_3 cap_2, .slice (some ⟨b_7, 0, none⟩) n_9 cap_8] (fun w => w.heap[b_1]? = some (.cells cur_4 3 (0, 0)) ∧ w.heap[b_7]? = some (.cells cur_10 3 (0, 0))) (.bool (ls l_5 l_11)) (less_fn l_5 l_11 b_1 n_3 cap_2 b_7 n_9 cap_8 cur_4 cur_10 hs_6n hs_12n hs_6r hs_12r hs_6o hs_12o (by omega) (by omega)) (⟨(H4.get 1 kr), (H4.get 0 kr)⟩) (fun w => kr) kr ?_
  intro w5 H5; clear H4
  refine s_val (some 2) (.bool (ls l_5 l_11)) (fun w => kr) kr ?_
  refine s_nil ?_
  refine g_ret kr ?_
  show ∃ vs, Res _ _ _ _ vs ∧ _
  refine ⟨[.bool (ls l_5 l_11)], (.tmp (.bool (ls l_5 l_11)) kr .nil), ?_, H5.below⟩
  rw [show ls l_5 l_11 = decide (A < PR) by unfold ls; rw [hs_6b, hs_12b]]
  rfl


theorem rred_yes (A : Nat) (hA : A < big) (h : A < PR) : Fn Try.prog 26 #[uv A] (.bool true) := by have := rred_fn A hA; rwa [decide_eq_true h] at this
theorem rred_no (A : Nat) (hA : A < big) (h : ¬ A < PR) : Fn Try.prog 26 #[uv A] (.bool false) := by have := rred_fn A hA; rwa [decide_eq_false h] at this

set_option maxRecDepth 100000 in
set_option maxHeartbeats 2000000 in
theorem square_fn (A : Nat) (hA : A < big) : Fn Try.prog 32 #[uv A] (uv (Ec.sqN A)) := by
  refine Fn.intro (c := codeOf Try.f32) [.cell 2 24] 10 Try.func32 kr kr kr fun w => ?_
  have H0 := St.start w
  refine g_sreg [0, 1] kr kr ?_
  refine s_box H0 (some 1) 24 (.tmp 0) (uv A) kr kr kr ?_
  intro b1 w1 H1; clear H0
  refine s_alloc H1 (some 2) 24 (.agg Z4) kr kr kr ?_
  intro b2 w2 H2; clear H1
  refine s_nil ?_
  refine D2.g_sdraw [0, 1, 2, 3, 4, 5, 6, 7] [((some 3), fun _ => uv A), ((some 4), fun _ => uv A), ((some 5), fun _ => uv (fMul A A PR)), ((some 6), fun _ => uv A), ((some 7), fun _ => uv (fMul (fMul A A PR) A PR)), ((some 8), fun _ => uv 7), ((some 9), fun _ => uv (fAdd (fMul (fMul A A PR) A PR) 7 PR)), (none, fun _ => undef)] (D2.Pre w.heap.size w (fun L g => [(true, (bif L 7 then (b2, Oc (uv (fAdd (fMul (fMul A A PR) A PR) 7 PR)) 24) else (b2, Od Z4 24))), (true, (b1, Oc (uv A) 24))]) (fun L g => True)) kr kr kr kr ⟨D2.StE.of H2.drew _ kr, trivial⟩ ⟨?_, ?_, ?_, ?_, ?_, ?_, ?_, ?_, trivial⟩ ?_
  · exact D2.gv_load 24 (.tmp 1) 1 (fun g => b1) (Value.cells (uv A)) 24 (0, 0) (fun _ _ _ h => h) (fun g => kr) (fun g => kr) (fun L g hN => kr) kr
  · exact D2.gv_load 24 (.tmp 1) 1 (fun g => b1) (Value.cells (uv A)) 24 (0, 0) (fun _ _ _ h => h) (fun g => kr) (fun g => kr) (fun L g hN => kr) kr
  · exact D2.gv_call 31 #[uv A, uv A] (fun _ _ _ h => h) (pmul_fn A A hA hA) (fun g w => kr)
  · exact D2.gv_load 24 (.tmp 1) 1 (fun g => b1) (Value.cells (uv A)) 24 (0, 0) (fun _ _ _ h => h) (fun g => kr) (fun g => kr) (fun L g hN => kr) kr
  · exact D2.gv_call 31 #[uv (fMul A A PR), uv A] (fun _ _ _ h => h) (pmul_fn (fMul A A PR) A (fMul_lt pr_ok) hA) (fun g w => kr)
  · exact D2.gv_call 44 #[.int .u64 7] (fun _ _ _ h => h) (small_fn 7 (by omega)) (fun g w => kr)
  · exact D2.gv_call 52 #[uv (fMul (fMul A A PR) A PR), uv 7] (fun _ _ _ h => h) (psum_fn (fMul (fMul A A PR) A PR) 7 (fMul_lt pr_ok) (by unfold big; omega)) (fun g w => kr)
  · exact D2.gv_store 0 24 (.tmp 2) (.tmp 9) (fun g => b2) (fun g => 0) Z4 (Value.cells (uv (fAdd (fMul (fMul A A PR) A PR) 7 PR))) 24 (uv (fAdd (fMul (fMul A A PR) A PR) 7 PR)) (fun g => kr) (fun g => kr) (fun g => kr) kr kr (fun g => (of_decide_eq_true kr)) (fun g => kr) (fun L g hN => ⟨(by have hL7 : L 7 = false := hN.1; exact D2.ent_get' (p := true) (e := (bif L 7 then (b2, Oc (uv (fAdd (fMul (fMul A A PR) A PR) 7 PR)) 24) else (b2, Od Z4 24))) kr (by rfl) (by simp only [hL7, cond_true, cond_false] <;> rfl)), kr⟩) (fun L g hN hF => hF)
  intro L0 G3 w3 hall HL; clear H2
  have H3 : St w.heap.size w w3 [(b2, Oc (uv (fAdd (fMul (fMul A A PR) A PR) 7 PR)) 24), (b1, Oc (uv A) 24)] := by have e7 := hall 7 (Nat.le_of_ble_eq_true kr); have hS := D2.StE.st HL.1; simp only [e7, cond_true, D2.pres] at hS; exact hS
  clear HL hall
  refine g_ret kr ?_
  show ∃ vs, Res _ _ _ _ vs ∧ _
  refine ⟨[uv (fAdd (fMul (fMul A A PR) A PR) 7 PR)], (.agg (b := b2) (Value.cells (uv (fAdd (fMul (fMul A A PR) A PR) 7 PR))) 24 (0, 0) kr (H3.get 0 kr) kr .nil), ?_, H3.below⟩
  rfl

set_option maxRecDepth 100000 in
set_option maxHeartbeats 2000000 in
theorem pzero_fn  : Fn Try.prog 29 #[] (wv Ec.zeroW) := by
  refine Fn.intro (c := codeOf Try.f29) [.cell 0 51] 3 Try.func29 kr kr kr fun w => ?_
  have H0 := St.start w
  refine g_sreg [0] kr kr ?_
  refine s_alloc H0 (some 0) 51 (.agg Z13) kr kr kr ?_
  intro b1 w1 H1; clear H0
  refine s_nil ?_
  refine g_sreg [0, 1, 2] kr kr ?_
  refine s_val (some 1) (pv (Ec.Pd.mk 0 0 true)) (fun w => kr) kr ?_
  refine s_val (some 2) (wv (Ec.Wp.mk 0 0 true 0)) (fun w => kr) kr ?_
  refine s_store H1 0 [(b1, Oc (wv (Ec.Wp.mk 0 0 true 0)) 51)] 51 (.tmp 0) (.tmp 2) b1 (0) Z13 (Value.cells (wv (Ec.Wp.mk 0 0 true 0))) 51 (wv (Ec.Wp.mk 0 0 true 0)) kr kr kr kr kr kr (of_decide_eq_true kr) kr kr ?_
  intro w2 H2; clear H1
  refine s_nil ?_
  refine g_ret kr ?_
  show ∃ vs, Res _ _ _ _ vs ∧ _
  refine ⟨[wv (Ec.Wp.mk 0 0 true 0)], (.agg (b := b1) (Value.cells (wv (Ec.Wp.mk 0 0 true 0))) 51 (0, 0) kr (H2.get 0 kr) kr .nil), ?_, H2.below⟩
  rfl

set_option maxRecDepth 100000 in
set_option maxHeartbeats 2000000 in
theorem widen_fn (p : Ec.Pd) (hp : p.Ok) : Fn Try.prog 35 #[pv p] (wv (Ec.widenW p)) := by
  refine Fn.intro (c := codeOf Try.f35) [.cell 2 51] 6 Try.func35 kr kr kr fun w => ?_
  have H0 := St.start w
  refine g_sreg [0, 1] kr kr ?_
  refine s_box H0 (some 1) 26 (.tmp 0) (pv p) kr kr kr ?_
  intro b1 w1 H1; clear H0
  refine s_alloc H1 (some 2) 51 (.agg Z13) kr kr kr ?_
  intro b2 w2 H2; clear H1
  refine s_nil ?_
  refine D2.g_sdraw [0, 1, 2, 3] [((some 3), fun _ => pv p), ((some 4), fun _ => uv 1), ((some 5), fun _ => wv (Ec.Wp.mk (Ec.Pd.X p) (Ec.Pd.Y p) (Ec.Pd.b p) 1)), (none, fun _ => undef)] (D2.Pre w.heap.size w (fun L g => [(true, (bif L 3 then (b2, Oc (wv (Ec.Wp.mk (Ec.Pd.X p) (Ec.Pd.Y p) (Ec.Pd.b p) 1)) 51) else (b2, Od Z13 51))), (true, (b1, Oc (pv p) 26))]) (fun L g => True)) kr kr kr kr ⟨D2.StE.of H2.drew _ kr, trivial⟩ ⟨?_, ?_, ?_, ?_, trivial⟩ ?_
  · exact D2.gv_load 26 (.tmp 1) 1 (fun g => b1) (Value.cells (pv p)) 26 (0, 0) (fun _ _ _ h => h) (fun g => kr) (fun g => kr) (fun L g hN => kr) kr
  · exact D2.gv_call 44 #[.int .u64 1] (fun _ _ _ h => h) (small_fn 1 (by omega)) (fun g w => kr)
  · exact D2.gv_val (fun _ _ _ h => h) (fun g w => kr)
  · exact D2.gv_store 0 51 (.tmp 2) (.tmp 5) (fun g => b2) (fun g => 0) Z13 (Value.cells (wv (Ec.Wp.mk (Ec.Pd.X p) (Ec.Pd.Y p) (Ec.Pd.b p) 1))) 51 (wv (Ec.Wp.mk (Ec.Pd.X p) (Ec.Pd.Y p) (Ec.Pd.b p) 1)) (fun g => kr) (fun g => kr) (fun g => kr) kr kr (fun g => (of_decide_eq_true kr)) (fun g => kr) (fun L g hN => ⟨(by have hL3 : L 3 = false := hN.1; exact D2.ent_get' (p := true) (e := (bif L 3 then (b2, Oc (wv (Ec.Wp.mk (Ec.Pd.X p) (Ec.Pd.Y p) (Ec.Pd.b p) 1)) 51) else (b2, Od Z13 51))) kr (by rfl) (by simp only [hL3, cond_true, cond_false] <;> rfl)), kr⟩) (fun L g hN hF => hF)
  intro L0 G3 w3 hall HL; clear H2
  have H3 : St w.heap.size w w3 [(b2, Oc (wv (Ec.Wp.mk (Ec.Pd.X p) (Ec.Pd.Y p) (Ec.Pd.b p) 1)) 51), (b1, Oc (pv p) 26)] := by have e3 := hall 3 (Nat.le_of_ble_eq_true kr); have hS := D2.StE.st HL.1; simp only [e3, cond_true, D2.pres] at hS; exact hS
  clear HL hall
  refine g_ret kr ?_
  show ∃ vs, Res _ _ _ _ vs ∧ _
  refine ⟨[wv (Ec.Wp.mk (Ec.Pd.X p) (Ec.Pd.Y p) (Ec.Pd.b p) 1)], (.agg (b := b2) (Value.cells (wv (Ec.Wp.mk (Ec.Pd.X p) (Ec.Pd.Y p) (Ec.Pd.b p) 1))) 51 (0, 0) kr (H3.get 0 kr) kr .nil), ?_, H3.below⟩
  rfl

set_option maxRecDepth 100000 in
set_option maxHeartbeats 2000000 in
theorem third_fn (r x o y z : Nat) (hr : r < big) (hx : x < big) (ho : o < big) (hy : y < big) (hz : z < big) : Fn Try.prog 55 #[uv r, uv x, uv o, uv y, uv z] (wv (Ec.thirdW r x o y z)) := by
  refine Fn.intro (c := codeOf Try.f55) [.cell 10 51] 30 Try.func55 kr kr kr fun w => ?_
  have H0 := St.start w
  refine g_sreg [0, 1, 2, 3, 4, 5] kr kr ?_
  refine s_box H0 (some 5) 24 (.tmp 0) (uv r) kr kr kr ?_
  intro b1 w1 H1; clear H0
  refine s_box H1 (some 6) 24 (.tmp 1) (uv x) kr kr kr ?_
  intro b2 w2 H2; clear H1
  refine s_box H2 (some 7) 24 (.tmp 2) (uv o) kr kr kr ?_
  intro b3 w3 H3; clear H2
  refine s_box H3 (some 8) 24 (.tmp 3) (uv y) kr kr kr ?_
  intro b4 w4 H4; clear H3
  refine s_box H4 (some 9) 24 (.tmp 4) (uv z) kr kr kr ?_
  intro b5 w5 H5; clear H4
  refine s_alloc H5 (some 10) 51 (.agg Z13) kr kr kr ?_
  intro b6 w6 H6; clear H5
  refine s_nil ?_
  refine D2.g_sdraw [0, 1, 2, 3, 4, 5, 6, 7, 8] [((some 12), fun _ => uv r), ((some 13), fun _ => uv r), ((some 14), fun _ => uv (fMul r r PR)), ((some 15), fun _ => uv x), ((some 16), fun _ => uv (fSub (fMul r r PR) x PR)), ((some 17), fun _ => uv o), ((some 18), fun _ => uv (fSub (fSub (fMul r r PR) x PR) o PR)), ((some 11), fun b => .pointer (some ⟨b.b, 0, none⟩)), (none, fun _ => undef)] (D2.Pre w.heap.size w (fun L g => [(true, (b6, Od Z13 51)), (true, (b5, Oc (uv z) 24)), (true, (b4, Oc (uv y) 24)), (true, (b3, Oc (uv o) 24)), (true, (b2, Oc (uv x) 24)), (true, (b1, Oc (uv r) 24)), (L 7, (bif L 8 then ((g 7).b, Oc (uv (fSub (fSub (fMul r r PR) x PR) o PR)) 24) else ((g 7).b, Od Z4 24)))]) (fun L g => True)) kr kr kr kr ⟨D2.StE.of H6.drew _ kr, trivial⟩ ⟨?_, ?_, ?_, ?_, ?_, ?_, ?_, ?_, ?_, trivial⟩ ?_
  · exact D2.gv_load 24 (.tmp 5) 5 (fun g => b1) (Value.cells (uv r)) 24 (0, 0) (fun _ _ _ h => h) (fun g => kr) (fun g => kr) (fun L g hN => kr) kr
  · exact D2.gv_load 24 (.tmp 5) 5 (fun g => b1) (Value.cells (uv r)) 24 (0, 0) (fun _ _ _ h => h) (fun g => kr) (fun g => kr) (fun L g hN => kr) kr
  · exact D2.gv_call 31 #[uv r, uv r] (fun _ _ _ h => h) (pmul_fn r r hr hr) (fun g w => kr)
  · exact D2.gv_load 24 (.tmp 6) 4 (fun g => b2) (Value.cells (uv x)) 24 (0, 0) (fun _ _ _ h => h) (fun g => kr) (fun g => kr) (fun L g hN => kr) kr
  · exact D2.gv_call 38 #[uv (fMul r r PR), uv x] (fun _ _ _ h => h) (pless_fn (fMul r r PR) x (fMul_lt pr_ok) hx) (fun g w => kr)
  · exact D2.gv_load 24 (.tmp 7) 3 (fun g => b3) (Value.cells (uv o)) 24 (0, 0) (fun _ _ _ h => h) (fun g => kr) (fun g => kr) (fun L g hN => kr) kr
  · exact D2.gv_call 38 #[uv (fSub (fMul r r PR) x PR), uv o] (fun _ _ _ h => h) (pless_fn (fSub (fMul r r PR) x PR) o (fSub_lt pr_ok) ho) (fun g w => kr)
  · exact D2.gv_alloc 24 (.agg Z4) 6 (fun g => kr) kr (fun L g b hN => (by have hL8 : L 8 = false := (hN.post 8 kr); exact D2.ent_set (x' := (true, (bif L 8 then (((D2.setN g 7 { b := b }) 7).b, Oc (uv (fSub (fSub (fMul r r PR) x PR) o PR)) 24) else (((D2.setN g 7 { b := b }) 7).b, Od Z4 24)))) kr (by simp only [hL8, cond_true, cond_false] <;> rfl))) (fun L g b hN hF => hF)
  · exact D2.gv_store 6 24 (.tmp 11) (.tmp 18) (fun g => (g 7).b) (fun g => 0) Z4 (Value.cells (uv (fSub (fSub (fMul r r PR) x PR) o PR))) 24 (uv (fSub (fSub (fMul r r PR) x PR) o PR)) (fun g => kr) (fun g => kr) (fun g => kr) kr kr (fun g => (of_decide_eq_true kr)) (fun g => kr) (fun L g hN => ⟨(by have hL7 : L 7 = true := (hN.bef 7 kr); have hL8 : L 8 = false := hN.1; exact D2.ent_get' (p := L 7) (e := (bif L 8 then ((g 7).b, Oc (uv (fSub (fSub (fMul r r PR) x PR) o PR)) 24) else ((g 7).b, Od Z4 24))) kr (by exact hL7) (by simp only [hL7, hL8, cond_true, cond_false] <;> rfl)), (by have hL7 : L 7 = true := (hN.bef 7 kr); exact D2.ent_set (x' := (L 7, ((g 7).b, Oc (uv (fSub (fSub (fMul r r PR) x PR) o PR)) 24))) kr (by simp only [hL7, cond_true, cond_false] <;> rfl))⟩) (fun L g hN hF => hF)
  intro L0 G7 w7 hall HL; clear H6
  have H7 : St w.heap.size w w7 [(b6, Od Z13 51), (b5, Oc (uv z) 24), (b4, Oc (uv y) 24), (b3, Oc (uv o) 24), (b2, Oc (uv x) 24), (b1, Oc (uv r) 24), ((G7 7).b, Oc (uv (fSub (fSub (fMul r r PR) x PR) o PR)) 24)] := by have e7 := hall 7 (Nat.le_of_ble_eq_true kr); have e8 := hall 8 (Nat.le_of_ble_eq_true kr); have hS := D2.StE.st HL.1; simp only [e7, e8, cond_true, D2.pres] at hS; exact hS
  clear HL hall
  refine D2.g_sdraw [0, 1, 2, 3, 4, 5, 6, 7, 8, 9, 10, 11] [((some 19), fun _ => uv (fSub (fSub (fMul r r PR) x PR) o PR)), ((some 20), fun _ => uv r), ((some 21), fun _ => uv x), ((some 22), fun _ => uv (fSub (fSub (fMul r r PR) x PR) o PR)), ((some 23), fun _ => uv (fSub x (fSub (fSub (fMul r r PR) x PR) o PR) PR)), ((some 24), fun _ => uv (fMul r (fSub x (fSub (fSub (fMul r r PR) x PR) o PR) PR) PR)), ((some 25), fun _ => uv y), ((some 26), fun _ => uv (fSub (fMul r (fSub x (fSub (fSub (fMul r r PR) x PR) o PR) PR) PR) y PR)), ((some 27), fun _ => pv (Ec.Pd.mk (fSub (fSub (fMul r r PR) x PR) o PR) (fSub (fMul r (fSub x (fSub (fSub (fMul r r PR) x PR) o PR) PR) PR) y PR) false)), ((some 28), fun _ => uv z), ((some 29), fun _ => wv (Ec.Wp.mk (fSub (fSub (fMul r r PR) x PR) o PR) (fSub (fMul r (fSub x (fSub (fSub (fMul r r PR) x PR) o PR) PR) PR) y PR) false z)), (none, fun _ => undef)] (D2.Pre w.heap.size w (fun L g => [(true, (bif L 11 then (b6, Oc (wv (Ec.Wp.mk (fSub (fSub (fMul r r PR) x PR) o PR) (fSub (fMul r (fSub x (fSub (fSub (fMul r r PR) x PR) o PR) PR) PR) y PR) false z)) 51) else (b6, Od Z13 51))), (true, (b5, Oc (uv z) 24)), (true, (b4, Oc (uv y) 24)), (true, (b3, Oc (uv o) 24)), (true, (b2, Oc (uv x) 24)), (true, (b1, Oc (uv r) 24)), (true, ((G7 7).b, Oc (uv (fSub (fSub (fMul r r PR) x PR) o PR)) 24))]) (fun L g => True)) kr kr kr kr ⟨D2.StE.of H7.drew _ kr, trivial⟩ ⟨?_, ?_, ?_, ?_, ?_, ?_, ?_, ?_, ?_, ?_, ?_, ?_, trivial⟩ ?_
  · exact D2.gv_load 24 (.tmp 11) 6 (fun g => (G7 7).b) (Value.cells (uv (fSub (fSub (fMul r r PR) x PR) o PR))) 24 (0, 0) (fun _ _ _ h => h) (fun g => kr) (fun g => kr) (fun L g hN => kr) kr
  · exact D2.gv_load 24 (.tmp 5) 5 (fun g => b1) (Value.cells (uv r)) 24 (0, 0) (fun _ _ _ h => h) (fun g => kr) (fun g => kr) (fun L g hN => kr) kr
  · exact D2.gv_load 24 (.tmp 6) 4 (fun g => b2) (Value.cells (uv x)) 24 (0, 0) (fun _ _ _ h => h) (fun g => kr) (fun g => kr) (fun L g hN => kr) kr
  · exact D2.gv_load 24 (.tmp 11) 6 (fun g => (G7 7).b) (Value.cells (uv (fSub (fSub (fMul r r PR) x PR) o PR))) 24 (0, 0) (fun _ _ _ h => h) (fun g => kr) (fun g => kr) (fun L g hN => kr) kr
  · exact D2.gv_call 38 #[uv x, uv (fSub (fSub (fMul r r PR) x PR) o PR)] (fun _ _ _ h => h) (pless_fn x (fSub (fSub (fMul r r PR) x PR) o PR) hx (fSub_lt pr_ok)) (fun g w => kr)
  · exact D2.gv_call 31 #[uv r, uv (fSub x (fSub (fSub (fMul r r PR) x PR) o PR) PR)] (fun _ _ _ h => h) (pmul_fn r (fSub x (fSub (fSub (fMul r r PR) x PR) o PR) PR) hr (fSub_lt pr_ok)) (fun g w => kr)
  · exact D2.gv_load 24 (.tmp 8) 2 (fun g => b4) (Value.cells (uv y)) 24 (0, 0) (fun _ _ _ h => h) (fun g => kr) (fun g => kr) (fun L g hN => kr) kr
  · exact D2.gv_call 38 #[uv (fMul r (fSub x (fSub (fSub (fMul r r PR) x PR) o PR) PR) PR), uv y] (fun _ _ _ h => h) (pless_fn (fMul r (fSub x (fSub (fSub (fMul r r PR) x PR) o PR) PR) PR) y (fMul_lt pr_ok) hy) (fun g w => kr)
  · exact D2.gv_val (fun _ _ _ h => h) (fun g w => kr)
  · exact D2.gv_load 24 (.tmp 9) 1 (fun g => b5) (Value.cells (uv z)) 24 (0, 0) (fun _ _ _ h => h) (fun g => kr) (fun g => kr) (fun L g hN => kr) kr
  · exact D2.gv_val (fun _ _ _ h => h) (fun g w => kr)
  · exact D2.gv_store 0 51 (.tmp 10) (.tmp 29) (fun g => b6) (fun g => 0) Z13 (Value.cells (wv (Ec.Wp.mk (fSub (fSub (fMul r r PR) x PR) o PR) (fSub (fMul r (fSub x (fSub (fSub (fMul r r PR) x PR) o PR) PR) PR) y PR) false z))) 51 (wv (Ec.Wp.mk (fSub (fSub (fMul r r PR) x PR) o PR) (fSub (fMul r (fSub x (fSub (fSub (fMul r r PR) x PR) o PR) PR) PR) y PR) false z)) (fun g => kr) (fun g => kr) (fun g => kr) kr kr (fun g => (of_decide_eq_true kr)) (fun g => kr) (fun L g hN => ⟨(by have hL11 : L 11 = false := hN.1; exact D2.ent_get' (p := true) (e := (bif L 11 then (b6, Oc (wv (Ec.Wp.mk (fSub (fSub (fMul r r PR) x PR) o PR) (fSub (fMul r (fSub x (fSub (fSub (fMul r r PR) x PR) o PR) PR) PR) y PR) false z)) 51) else (b6, Od Z13 51))) kr (by rfl) (by simp only [hL11, cond_true, cond_false] <;> rfl)), kr⟩) (fun L g hN hF => hF)
  intro L0 G8 w8 hall HL; clear H7
  have H8 : St w.heap.size w w8 [(b6, Oc (wv (Ec.Wp.mk (fSub (fSub (fMul r r PR) x PR) o PR) (fSub (fMul r (fSub x (fSub (fSub (fMul r r PR) x PR) o PR) PR) PR) y PR) false z)) 51), (b5, Oc (uv z) 24), (b4, Oc (uv y) 24), (b3, Oc (uv o) 24), (b2, Oc (uv x) 24), (b1, Oc (uv r) 24), ((G7 7).b, Oc (uv (fSub (fSub (fMul r r PR) x PR) o PR)) 24)] := by have e11 := hall 11 (Nat.le_of_ble_eq_true kr); have hS := D2.StE.st HL.1; simp only [e11, cond_true, D2.pres] at hS; exact hS
  clear HL hall
  refine g_ret kr ?_
  show ∃ vs, Res _ _ _ _ vs ∧ _
  refine ⟨[wv (Ec.Wp.mk (fSub (fSub (fMul r r PR) x PR) o PR) (fSub (fMul r (fSub x (fSub (fSub (fMul r r PR) x PR) o PR) PR) PR) y PR) false z)], (.agg (b := b6) (Value.cells (wv (Ec.Wp.mk (fSub (fSub (fMul r r PR) x PR) o PR) (fSub (fMul r (fSub x (fSub (fSub (fMul r r PR) x PR) o PR) PR) PR) y PR) false z))) 51 (0, 0) kr (H8.get 0 kr) kr .nil), ?_, H8.below⟩
  rfl

set_option maxRecDepth 100000 in
set_option maxHeartbeats 2000000 in
theorem dbl_fn (p : Ec.Wp) (hp : p.Ok) : Fn Try.prog 56 #[wv p] (wv (Ec.dblW p)) := by
  refine Fn.intro (c := codeOf Try.f56) [.cell 2 51] 57 Try.func56 kr kr kr fun w => ?_
  have H0 := St.start w
  refine g_sreg [0, 1] kr kr ?_
  refine s_box H0 (some 1) 51 (.tmp 0) (wv p) kr kr kr ?_
  intro b1 w1 H1; clear H0
  refine s_alloc H1 (some 2) 51 (.agg Z13) kr kr kr ?_
  intro b2 w2 H2; clear H1
  refine s_nil ?_
  refine g_seq kr ?_
  refine g_sreg [0, 1, 2] kr kr ?_
  refine s_val (some 9) (.pointer (some ⟨b1, 0, none⟩)) (fun w => kr) kr ?_
  refine s_val (some 10) (.pointer (some ⟨b1, 8, none⟩)) (fun w => kr) kr ?_
  refine s_load1 H2 (some 11) 4 (.tmp 10) 1 b1 8 (Value.cells (wv p)) 51 (0, 0) (.bool (Ec.Wp.b p)) kr kr kr kr kr kr ?_
  refine s_nil ?_
  cases hb1 : Ec.Wp.b p
  · skip
    refine g_cond_f kr kr ?_
    refine g_skip kr ?_
    show WP _ _ _ _ _ _
    refine g_sreg [0, 1, 2, 3, 4, 5, 6, 7, 8] kr kr ?_
    refine s_val (some 13) (.pointer (some ⟨b1, 0, none⟩)) (fun w => kr) kr ?_
    refine s_val (some 14) (.pointer (some ⟨b1, 4, none⟩)) (fun w => kr) kr ?_
    refine s_loadp H2 (some 15) 24 (.tmp 14) 1 b1 4 4 (Value.cells (wv p)) (Value.cells (uv (Ec.Wp.Y p))) 51 (0, 0) kr kr kr kr kr (of_decide_eq_true kr) kr ?_
    refine s_val (some 16) (.pointer (some ⟨b1, 0, none⟩)) (fun w => kr) kr ?_
    refine s_val (some 17) (.pointer (some ⟨b1, 4, none⟩)) (fun w => kr) kr ?_
    refine s_loadp H2 (some 18) 24 (.tmp 17) 1 b1 4 4 (Value.cells (wv p)) (Value.cells (uv (Ec.Wp.Y p))) 51 (0, 0) kr kr kr kr kr (of_decide_eq_true kr) kr ?_
    refine s_call H2 (some 19) 52 #[uv (Ec.Wp.Y p), uv (Ec.Wp.Y p)] (uv (fAdd (Ec.Wp.Y p) (Ec.Wp.Y p) PR)) (psum_fn (Ec.Wp.Y p) (Ec.Wp.Y p) hp.Y hp.Y) (fun w => kr) kr ?_
    intro w3 H3; clear H2
    refine s_alloc H3 (some 3) 24 (.agg Z4) kr kr kr ?_
    intro b3 w4 H4; clear H3
    refine s_store H4 0 [(b3, Oc (uv (fAdd (Ec.Wp.Y p) (Ec.Wp.Y p) PR)) 24), (b2, Od Z13 51), (b1, Oc (wv p) 51)] 24 (.tmp 3) (.tmp 19) b3 (0) Z4 (Value.cells (uv (fAdd (Ec.Wp.Y p) (Ec.Wp.Y p) PR))) 24 (uv (fAdd (Ec.Wp.Y p) (Ec.Wp.Y p) PR)) kr kr kr kr kr kr (of_decide_eq_true kr) kr kr ?_
    intro w5 H5; clear H4
    refine s_nil ?_
    refine g_sreg [0, 1, 2, 3, 4, 5, 6] kr kr ?_
    refine s_load H5 (some 20) 24 (.tmp 3) 0 b3 (Value.cells (uv (fAdd (Ec.Wp.Y p) (Ec.Wp.Y p) PR))) 24 (0, 0) kr kr kr kr kr ?_
    refine s_val (some 21) (.pointer (some ⟨b1, 0, none⟩)) (fun w => kr) kr ?_
    refine s_val (some 22) (.pointer (some ⟨b1, 4, none⟩)) (fun w => kr) kr ?_
    refine s_loadp H5 (some 23) 24 (.tmp 22) 2 b1 4 4 (Value.cells (wv p)) (Value.cells (uv (Ec.Wp.Y p))) 51 (0, 0) kr kr kr kr kr (of_decide_eq_true kr) kr ?_
    refine s_call H5 (some 24) 31 #[uv (fAdd (Ec.Wp.Y p) (Ec.Wp.Y p) PR), uv (Ec.Wp.Y p)] (uv (fMul (fAdd (Ec.Wp.Y p) (Ec.Wp.Y p) PR) (Ec.Wp.Y p) PR)) (pmul_fn (fAdd (Ec.Wp.Y p) (Ec.Wp.Y p) PR) (Ec.Wp.Y p) (fAdd_lt pr_ok) hp.Y) (fun w => kr) kr ?_
    intro w6 H6; clear H5
    refine s_alloc H6 (some 4) 24 (.agg Z4) kr kr kr ?_
    intro b4 w7 H7; clear H6
    refine s_store H7 0 [(b4, Oc (uv (fMul (fAdd (Ec.Wp.Y p) (Ec.Wp.Y p) PR) (Ec.Wp.Y p) PR)) 24), (b3, Oc (uv (fAdd (Ec.Wp.Y p) (Ec.Wp.Y p) PR)) 24), (b2, Od Z13 51), (b1, Oc (wv p) 51)] 24 (.tmp 4) (.tmp 24) b4 (0) Z4 (Value.cells (uv (fMul (fAdd (Ec.Wp.Y p) (Ec.Wp.Y p) PR) (Ec.Wp.Y p) PR))) 24 (uv (fMul (fAdd (Ec.Wp.Y p) (Ec.Wp.Y p) PR) (Ec.Wp.Y p) PR)) kr kr kr kr kr kr (of_decide_eq_true kr) kr kr ?_
    intro w8 H8; clear H7
    refine s_nil ?_
    refine g_sreg [0, 1, 2, 3, 4] kr kr ?_
    refine s_load H8 (some 25) 24 (.tmp 4) 0 b4 (Value.cells (uv (fMul (fAdd (Ec.Wp.Y p) (Ec.Wp.Y p) PR) (Ec.Wp.Y p) PR))) 24 (0, 0) kr kr kr kr kr ?_
    refine s_load H8 (some 26) 24 (.tmp 4) 0 b4 (Value.cells (uv (fMul (fAdd (Ec.Wp.Y p) (Ec.Wp.Y p) PR) (Ec.Wp.Y p) PR))) 24 (0, 0) kr kr kr kr kr ?_
    refine s_call H8 (some 27) 52 #[uv (fMul (fAdd (Ec.Wp.Y p) (Ec.Wp.Y p) PR) (Ec.Wp.Y p) PR), uv (fMul (fAdd (Ec.Wp.Y p) (Ec.Wp.Y p) PR) (Ec.Wp.Y p) PR)] (uv (fAdd (fMul (fAdd (Ec.Wp.Y p) (Ec.Wp.Y p) PR) (Ec.Wp.Y p) PR) (fMul (fAdd (Ec.Wp.Y p) (Ec.Wp.Y p) PR) (Ec.Wp.Y p) PR) PR)) (psum_fn (fMul (fAdd (Ec.Wp.Y p) (Ec.Wp.Y p) PR) (Ec.Wp.Y p) PR) (fMul (fAdd (Ec.Wp.Y p) (Ec.Wp.Y p) PR) (Ec.Wp.Y p) PR) (fMul_lt pr_ok) (fMul_lt pr_ok)) (fun w => kr) kr ?_
    intro w9 H9; clear H8
    refine s_alloc H9 (some 5) 24 (.agg Z4) kr kr kr ?_
    intro b5 w10 H10; clear H9
    refine s_store H10 0 [(b5, Oc (uv (fAdd (fMul (fAdd (Ec.Wp.Y p) (Ec.Wp.Y p) PR) (Ec.Wp.Y p) PR) (fMul (fAdd (Ec.Wp.Y p) (Ec.Wp.Y p) PR) (Ec.Wp.Y p) PR) PR)) 24), (b4, Oc (uv (fMul (fAdd (Ec.Wp.Y p) (Ec.Wp.Y p) PR) (Ec.Wp.Y p) PR)) 24), (b3, Oc (uv (fAdd (Ec.Wp.Y p) (Ec.Wp.Y p) PR)) 24), (b2, Od Z13 51), (b1, Oc (wv p) 51)] 24 (.tmp 5) (.tmp 27) b5 (0) Z4 (Value.cells (uv (fAdd (fMul (fAdd (Ec.Wp.Y p) (Ec.Wp.Y p) PR) (Ec.Wp.Y p) PR) (fMul (fAdd (Ec.Wp.Y p) (Ec.Wp.Y p) PR) (Ec.Wp.Y p) PR) PR))) 24 (uv (fAdd (fMul (fAdd (Ec.Wp.Y p) (Ec.Wp.Y p) PR) (Ec.Wp.Y p) PR) (fMul (fAdd (Ec.Wp.Y p) (Ec.Wp.Y p) PR) (Ec.Wp.Y p) PR) PR)) kr kr kr kr kr kr (of_decide_eq_true kr) kr kr ?_
    intro w11 H11; clear H10
    refine s_nil ?_
    refine g_sreg [0, 1, 2, 3, 4, 5, 6, 7, 8] kr kr ?_
    refine s_val (some 28) (.pointer (some ⟨b1, 0, none⟩)) (fun w => kr) kr ?_
    refine s_val (some 29) (.pointer (some ⟨b1, 0, none⟩)) (fun w => kr) kr ?_
    refine s_loadp H11 (some 30) 24 (.tmp 29) 4 b1 0 4 (Value.cells (wv p)) (Value.cells (uv (Ec.Wp.X p))) 51 (0, 0) kr kr kr kr kr (of_decide_eq_true kr) kr ?_
    refine s_val (some 31) (.pointer (some ⟨b1, 0, none⟩)) (fun w => kr) kr ?_
    refine s_val (some 32) (.pointer (some ⟨b1, 0, none⟩)) (fun w => kr) kr ?_
    refine s_loadp H11 (some 33) 24 (.tmp 32) 4 b1 0 4 (Value.cells (wv p)) (Value.cells (uv (Ec.Wp.X p))) 51 (0, 0) kr kr kr kr kr (of_decide_eq_true kr) kr ?_
    refine s_call H11 (some 34) 31 #[uv (Ec.Wp.X p), uv (Ec.Wp.X p)] (uv (fMul (Ec.Wp.X p) (Ec.Wp.X p) PR)) (pmul_fn (Ec.Wp.X p) (Ec.Wp.X p) hp.X hp.X) (fun w => kr) kr ?_
    intro w12 H12; clear H11
    refine s_alloc H12 (some 6) 24 (.agg Z4) kr kr kr ?_
    intro b6 w13 H13; clear H12
    refine s_store H13 0 [(b6, Oc (uv (fMul (Ec.Wp.X p) (Ec.Wp.X p) PR)) 24), (b5, Oc (uv (fAdd (fMul (fAdd (Ec.Wp.Y p) (Ec.Wp.Y p) PR) (Ec.Wp.Y p) PR) (fMul (fAdd (Ec.Wp.Y p) (Ec.Wp.Y p) PR) (Ec.Wp.Y p) PR) PR)) 24), (b4, Oc (uv (fMul (fAdd (Ec.Wp.Y p) (Ec.Wp.Y p) PR) (Ec.Wp.Y p) PR)) 24), (b3, Oc (uv (fAdd (Ec.Wp.Y p) (Ec.Wp.Y p) PR)) 24), (b2, Od Z13 51), (b1, Oc (wv p) 51)] 24 (.tmp 6) (.tmp 34) b6 (0) Z4 (Value.cells (uv (fMul (Ec.Wp.X p) (Ec.Wp.X p) PR))) 24 (uv (fMul (Ec.Wp.X p) (Ec.Wp.X p) PR)) kr kr kr kr kr kr (of_decide_eq_true kr) kr kr ?_
    intro w14 H14; clear H13
    refine s_nil ?_
    refine D2.g_sdraw [0, 1, 2, 3, 4, 5] [((some 35), fun _ => uv (fMul (Ec.Wp.X p) (Ec.Wp.X p) PR)), ((some 36), fun _ => uv (fMul (Ec.Wp.X p) (Ec.Wp.X p) PR)), ((some 37), fun _ => uv (fAdd (fMul (Ec.Wp.X p) (Ec.Wp.X p) PR) (fMul (Ec.Wp.X p) (Ec.Wp.X p) PR) PR)), ((some 38), fun _ => uv (fMul (Ec.Wp.X p) (Ec.Wp.X p) PR)), ((some 39), fun _ => uv (fAdd (fAdd (fMul (Ec.Wp.X p) (Ec.Wp.X p) PR) (fMul (Ec.Wp.X p) (Ec.Wp.X p) PR) PR) (fMul (Ec.Wp.X p) (Ec.Wp.X p) PR) PR)), (none, fun _ => undef)] (D2.Pre w.heap.size w (fun L g => [(true, (bif L 5 then (b6, Oc (uv (fAdd (fAdd (fMul (Ec.Wp.X p) (Ec.Wp.X p) PR) (fMul (Ec.Wp.X p) (Ec.Wp.X p) PR) PR) (fMul (Ec.Wp.X p) (Ec.Wp.X p) PR) PR)) 24) else (b6, Oc (uv (fMul (Ec.Wp.X p) (Ec.Wp.X p) PR)) 24))), (true, (b5, Oc (uv (fAdd (fMul (fAdd (Ec.Wp.Y p) (Ec.Wp.Y p) PR) (Ec.Wp.Y p) PR) (fMul (fAdd (Ec.Wp.Y p) (Ec.Wp.Y p) PR) (Ec.Wp.Y p) PR) PR)) 24)), (true, (b4, Oc (uv (fMul (fAdd (Ec.Wp.Y p) (Ec.Wp.Y p) PR) (Ec.Wp.Y p) PR)) 24)), (true, (b3, Oc (uv (fAdd (Ec.Wp.Y p) (Ec.Wp.Y p) PR)) 24)), (true, (b2, Od Z13 51)), (true, (b1, Oc (wv p) 51))]) (fun L g => True)) kr kr kr kr ⟨D2.StE.of H14.drew _ kr, trivial⟩ ⟨?_, ?_, ?_, ?_, ?_, ?_, trivial⟩ ?_
    · exact D2.gv_load 24 (.tmp 6) 0 (fun g => b6) (Value.cells (uv (fMul (Ec.Wp.X p) (Ec.Wp.X p) PR))) 24 (0, 0) (fun _ _ _ h => h) (fun g => kr) (fun g => kr) (fun L g hN => (by have hL5 : L 5 = false := (hN.post 5 kr); exact D2.ent_get' (p := true) (e := (bif L 5 then (b6, Oc (uv (fAdd (fAdd (fMul (Ec.Wp.X p) (Ec.Wp.X p) PR) (fMul (Ec.Wp.X p) (Ec.Wp.X p) PR) PR) (fMul (Ec.Wp.X p) (Ec.Wp.X p) PR) PR)) 24) else (b6, Oc (uv (fMul (Ec.Wp.X p) (Ec.Wp.X p) PR)) 24))) kr (by rfl) (by simp only [hL5, cond_true, cond_false] <;> rfl))) kr
    · exact D2.gv_load 24 (.tmp 6) 0 (fun g => b6) (Value.cells (uv (fMul (Ec.Wp.X p) (Ec.Wp.X p) PR))) 24 (0, 0) (fun _ _ _ h => h) (fun g => kr) (fun g => kr) (fun L g hN => (by have hL5 : L 5 = false := (hN.post 5 kr); exact D2.ent_get' (p := true) (e := (bif L 5 then (b6, Oc (uv (fAdd (fAdd (fMul (Ec.Wp.X p) (Ec.Wp.X p) PR) (fMul (Ec.Wp.X p) (Ec.Wp.X p) PR) PR) (fMul (Ec.Wp.X p) (Ec.Wp.X p) PR) PR)) 24) else (b6, Oc (uv (fMul (Ec.Wp.X p) (Ec.Wp.X p) PR)) 24))) kr (by rfl) (by simp only [hL5, cond_true, cond_false] <;> rfl))) kr
    · exact D2.gv_call 52 #[uv (fMul (Ec.Wp.X p) (Ec.Wp.X p) PR), uv (fMul (Ec.Wp.X p) (Ec.Wp.X p) PR)] (fun _ _ _ h => h) (psum_fn (fMul (Ec.Wp.X p) (Ec.Wp.X p) PR) (fMul (Ec.Wp.X p) (Ec.Wp.X p) PR) (fMul_lt pr_ok) (fMul_lt pr_ok)) (fun g w => kr)
    · exact D2.gv_load 24 (.tmp 6) 0 (fun g => b6) (Value.cells (uv (fMul (Ec.Wp.X p) (Ec.Wp.X p) PR))) 24 (0, 0) (fun _ _ _ h => h) (fun g => kr) (fun g => kr) (fun L g hN => (by have hL5 : L 5 = false := (hN.post 5 kr); exact D2.ent_get' (p := true) (e := (bif L 5 then (b6, Oc (uv (fAdd (fAdd (fMul (Ec.Wp.X p) (Ec.Wp.X p) PR) (fMul (Ec.Wp.X p) (Ec.Wp.X p) PR) PR) (fMul (Ec.Wp.X p) (Ec.Wp.X p) PR) PR)) 24) else (b6, Oc (uv (fMul (Ec.Wp.X p) (Ec.Wp.X p) PR)) 24))) kr (by rfl) (by simp only [hL5, cond_true, cond_false] <;> rfl))) kr
    · exact D2.gv_call 52 #[uv (fAdd (fMul (Ec.Wp.X p) (Ec.Wp.X p) PR) (fMul (Ec.Wp.X p) (Ec.Wp.X p) PR) PR), uv (fMul (Ec.Wp.X p) (Ec.Wp.X p) PR)] (fun _ _ _ h => h) (psum_fn (fAdd (fMul (Ec.Wp.X p) (Ec.Wp.X p) PR) (fMul (Ec.Wp.X p) (Ec.Wp.X p) PR) PR) (fMul (Ec.Wp.X p) (Ec.Wp.X p) PR) (fAdd_lt pr_ok) (fMul_lt pr_ok)) (fun g w => kr)
    · exact D2.gv_store 0 24 (.tmp 6) (.tmp 39) (fun g => b6) (fun g => 0) (Value.cells (uv (fMul (Ec.Wp.X p) (Ec.Wp.X p) PR))) (Value.cells (uv (fAdd (fAdd (fMul (Ec.Wp.X p) (Ec.Wp.X p) PR) (fMul (Ec.Wp.X p) (Ec.Wp.X p) PR) PR) (fMul (Ec.Wp.X p) (Ec.Wp.X p) PR) PR))) 24 (uv (fAdd (fAdd (fMul (Ec.Wp.X p) (Ec.Wp.X p) PR) (fMul (Ec.Wp.X p) (Ec.Wp.X p) PR) PR) (fMul (Ec.Wp.X p) (Ec.Wp.X p) PR) PR)) (fun g => kr) (fun g => kr) (fun g => kr) kr kr (fun g => (of_decide_eq_true kr)) (fun g => kr) (fun L g hN => ⟨(by have hL5 : L 5 = false := hN.1; exact D2.ent_get' (p := true) (e := (bif L 5 then (b6, Oc (uv (fAdd (fAdd (fMul (Ec.Wp.X p) (Ec.Wp.X p) PR) (fMul (Ec.Wp.X p) (Ec.Wp.X p) PR) PR) (fMul (Ec.Wp.X p) (Ec.Wp.X p) PR) PR)) 24) else (b6, Oc (uv (fMul (Ec.Wp.X p) (Ec.Wp.X p) PR)) 24))) kr (by rfl) (by simp only [hL5, cond_true, cond_false] <;> rfl)), kr⟩) (fun L g hN hF => hF)
    intro L0 G15 w15 hall HL; clear H14
    have H15 : St w.heap.size w w15 [(b6, Oc (uv (fAdd (fAdd (fMul (Ec.Wp.X p) (Ec.Wp.X p) PR) (fMul (Ec.Wp.X p) (Ec.Wp.X p) PR) PR) (fMul (Ec.Wp.X p) (Ec.Wp.X p) PR) PR)) 24), (b5, Oc (uv (fAdd (fMul (fAdd (Ec.Wp.Y p) (Ec.Wp.Y p) PR) (Ec.Wp.Y p) PR) (fMul (fAdd (Ec.Wp.Y p) (Ec.Wp.Y p) PR) (Ec.Wp.Y p) PR) PR)) 24), (b4, Oc (uv (fMul (fAdd (Ec.Wp.Y p) (Ec.Wp.Y p) PR) (Ec.Wp.Y p) PR)) 24), (b3, Oc (uv (fAdd (Ec.Wp.Y p) (Ec.Wp.Y p) PR)) 24), (b2, Od Z13 51), (b1, Oc (wv p) 51)] := by have e5 := hall 5 (Nat.le_of_ble_eq_true kr); have hS := D2.StE.st HL.1; simp only [e5, cond_true, D2.pres] at hS; exact hS
    clear HL hall
    refine D2.g_sdraw [0, 1, 2, 3, 4, 5, 6, 7, 8, 9, 10, 11] [((some 40), fun _ => .pointer (some ⟨b1, 0, none⟩)), ((some 41), fun _ => .pointer (some ⟨b1, 0, none⟩)), ((some 42), fun _ => uv (Ec.Wp.X p)), ((some 43), fun _ => uv (fAdd (fMul (fAdd (Ec.Wp.Y p) (Ec.Wp.Y p) PR) (Ec.Wp.Y p) PR) (fMul (fAdd (Ec.Wp.Y p) (Ec.Wp.Y p) PR) (Ec.Wp.Y p) PR) PR)), ((some 44), fun _ => uv (fMul (Ec.Wp.X p) (fAdd (fMul (fAdd (Ec.Wp.Y p) (Ec.Wp.Y p) PR) (Ec.Wp.Y p) PR) (fMul (fAdd (Ec.Wp.Y p) (Ec.Wp.Y p) PR) (Ec.Wp.Y p) PR) PR) PR)), ((some 45), fun _ => uv (fAdd (fMul (fAdd (Ec.Wp.Y p) (Ec.Wp.Y p) PR) (Ec.Wp.Y p) PR) (fMul (fAdd (Ec.Wp.Y p) (Ec.Wp.Y p) PR) (Ec.Wp.Y p) PR) PR)), ((some 46), fun _ => uv (fMul (fAdd (Ec.Wp.Y p) (Ec.Wp.Y p) PR) (Ec.Wp.Y p) PR)), ((some 47), fun _ => uv (fMul (fAdd (fMul (fAdd (Ec.Wp.Y p) (Ec.Wp.Y p) PR) (Ec.Wp.Y p) PR) (fMul (fAdd (Ec.Wp.Y p) (Ec.Wp.Y p) PR) (Ec.Wp.Y p) PR) PR) (fMul (fAdd (Ec.Wp.Y p) (Ec.Wp.Y p) PR) (Ec.Wp.Y p) PR) PR)), ((some 7), fun b => .pointer (some ⟨b.b, 0, none⟩)), ((some 8), fun b => .pointer (some ⟨b.b, 0, none⟩)), (none, fun _ => undef), (none, fun _ => undef)] (D2.Pre w.heap.size w (fun L g => [(true, (b6, Oc (uv (fAdd (fAdd (fMul (Ec.Wp.X p) (Ec.Wp.X p) PR) (fMul (Ec.Wp.X p) (Ec.Wp.X p) PR) PR) (fMul (Ec.Wp.X p) (Ec.Wp.X p) PR) PR)) 24)), (true, (b5, Oc (uv (fAdd (fMul (fAdd (Ec.Wp.Y p) (Ec.Wp.Y p) PR) (Ec.Wp.Y p) PR) (fMul (fAdd (Ec.Wp.Y p) (Ec.Wp.Y p) PR) (Ec.Wp.Y p) PR) PR)) 24)), (true, (b4, Oc (uv (fMul (fAdd (Ec.Wp.Y p) (Ec.Wp.Y p) PR) (Ec.Wp.Y p) PR)) 24)), (true, (b3, Oc (uv (fAdd (Ec.Wp.Y p) (Ec.Wp.Y p) PR)) 24)), (true, (b2, Od Z13 51)), (true, (b1, Oc (wv p) 51)), (L 8, (bif L 10 then ((g 8).b, Oc (uv (fMul (Ec.Wp.X p) (fAdd (fMul (fAdd (Ec.Wp.Y p) (Ec.Wp.Y p) PR) (Ec.Wp.Y p) PR) (fMul (fAdd (Ec.Wp.Y p) (Ec.Wp.Y p) PR) (Ec.Wp.Y p) PR) PR) PR)) 24) else ((g 8).b, Od Z4 24))), (L 9, (bif L 11 then ((g 9).b, Oc (uv (fMul (fAdd (fMul (fAdd (Ec.Wp.Y p) (Ec.Wp.Y p) PR) (Ec.Wp.Y p) PR) (fMul (fAdd (Ec.Wp.Y p) (Ec.Wp.Y p) PR) (Ec.Wp.Y p) PR) PR) (fMul (fAdd (Ec.Wp.Y p) (Ec.Wp.Y p) PR) (Ec.Wp.Y p) PR) PR)) 24) else ((g 9).b, Od Z4 24)))]) (fun L g => True)) kr kr kr kr ⟨D2.StE.of H15.drew _ kr, trivial⟩ ⟨?_, ?_, ?_, ?_, ?_, ?_, ?_, ?_, ?_, ?_, ?_, ?_, trivial⟩ ?_
    · exact D2.gv_val (fun _ _ _ h => h) (fun g w => kr)
    · exact D2.gv_val (fun _ _ _ h => h) (fun g w => kr)
    · exact D2.gv_loadp 24 (.tmp 41) 5 (fun g => b1) 0 4 (Value.cells (wv p)) (Value.cells (uv (Ec.Wp.X p))) 51 (0, 0) (fun _ _ _ h => h) (fun g => kr) (fun g => kr) (fun L g hN => kr) kr (of_decide_eq_true kr) kr
    · exact D2.gv_load 24 (.tmp 5) 1 (fun g => b5) (Value.cells (uv (fAdd (fMul (fAdd (Ec.Wp.Y p) (Ec.Wp.Y p) PR) (Ec.Wp.Y p) PR) (fMul (fAdd (Ec.Wp.Y p) (Ec.Wp.Y p) PR) (Ec.Wp.Y p) PR) PR))) 24 (0, 0) (fun _ _ _ h => h) (fun g => kr) (fun g => kr) (fun L g hN => kr) kr
    · exact D2.gv_call 31 #[uv (Ec.Wp.X p), uv (fAdd (fMul (fAdd (Ec.Wp.Y p) (Ec.Wp.Y p) PR) (Ec.Wp.Y p) PR) (fMul (fAdd (Ec.Wp.Y p) (Ec.Wp.Y p) PR) (Ec.Wp.Y p) PR) PR)] (fun _ _ _ h => h) (pmul_fn (Ec.Wp.X p) (fAdd (fMul (fAdd (Ec.Wp.Y p) (Ec.Wp.Y p) PR) (Ec.Wp.Y p) PR) (fMul (fAdd (Ec.Wp.Y p) (Ec.Wp.Y p) PR) (Ec.Wp.Y p) PR) PR) hp.X (fAdd_lt pr_ok)) (fun g w => kr)
    · exact D2.gv_load 24 (.tmp 5) 1 (fun g => b5) (Value.cells (uv (fAdd (fMul (fAdd (Ec.Wp.Y p) (Ec.Wp.Y p) PR) (Ec.Wp.Y p) PR) (fMul (fAdd (Ec.Wp.Y p) (Ec.Wp.Y p) PR) (Ec.Wp.Y p) PR) PR))) 24 (0, 0) (fun _ _ _ h => h) (fun g => kr) (fun g => kr) (fun L g hN => kr) kr
    · exact D2.gv_load 24 (.tmp 4) 2 (fun g => b4) (Value.cells (uv (fMul (fAdd (Ec.Wp.Y p) (Ec.Wp.Y p) PR) (Ec.Wp.Y p) PR))) 24 (0, 0) (fun _ _ _ h => h) (fun g => kr) (fun g => kr) (fun L g hN => kr) kr
    · exact D2.gv_call 31 #[uv (fAdd (fMul (fAdd (Ec.Wp.Y p) (Ec.Wp.Y p) PR) (Ec.Wp.Y p) PR) (fMul (fAdd (Ec.Wp.Y p) (Ec.Wp.Y p) PR) (Ec.Wp.Y p) PR) PR), uv (fMul (fAdd (Ec.Wp.Y p) (Ec.Wp.Y p) PR) (Ec.Wp.Y p) PR)] (fun _ _ _ h => h) (pmul_fn (fAdd (fMul (fAdd (Ec.Wp.Y p) (Ec.Wp.Y p) PR) (Ec.Wp.Y p) PR) (fMul (fAdd (Ec.Wp.Y p) (Ec.Wp.Y p) PR) (Ec.Wp.Y p) PR) PR) (fMul (fAdd (Ec.Wp.Y p) (Ec.Wp.Y p) PR) (Ec.Wp.Y p) PR) (fAdd_lt pr_ok) (fMul_lt pr_ok)) (fun g w => kr)
    · exact D2.gv_alloc 24 (.agg Z4) 6 (fun g => kr) kr (fun L g b hN => (by have hL10 : L 10 = false := (hN.post 10 kr); exact D2.ent_set (x' := (true, (bif L 10 then (((D2.setN g 8 { b := b }) 8).b, Oc (uv (fMul (Ec.Wp.X p) (fAdd (fMul (fAdd (Ec.Wp.Y p) (Ec.Wp.Y p) PR) (Ec.Wp.Y p) PR) (fMul (fAdd (Ec.Wp.Y p) (Ec.Wp.Y p) PR) (Ec.Wp.Y p) PR) PR) PR)) 24) else (((D2.setN g 8 { b := b }) 8).b, Od Z4 24)))) kr (by simp only [hL10, cond_true, cond_false] <;> rfl))) (fun L g b hN hF => hF)
    · exact D2.gv_alloc 24 (.agg Z4) 7 (fun g => kr) kr (fun L g b hN => (by have hL11 : L 11 = false := (hN.post 11 kr); exact D2.ent_set (x' := (true, (bif L 11 then (((D2.setN g 9 { b := b }) 9).b, Oc (uv (fMul (fAdd (fMul (fAdd (Ec.Wp.Y p) (Ec.Wp.Y p) PR) (Ec.Wp.Y p) PR) (fMul (fAdd (Ec.Wp.Y p) (Ec.Wp.Y p) PR) (Ec.Wp.Y p) PR) PR) (fMul (fAdd (Ec.Wp.Y p) (Ec.Wp.Y p) PR) (Ec.Wp.Y p) PR) PR)) 24) else (((D2.setN g 9 { b := b }) 9).b, Od Z4 24)))) kr (by simp only [hL11, cond_true, cond_false] <;> rfl))) (fun L g b hN hF => hF)
    · exact D2.gv_store 6 24 (.tmp 7) (.tmp 44) (fun g => (g 8).b) (fun g => 0) Z4 (Value.cells (uv (fMul (Ec.Wp.X p) (fAdd (fMul (fAdd (Ec.Wp.Y p) (Ec.Wp.Y p) PR) (Ec.Wp.Y p) PR) (fMul (fAdd (Ec.Wp.Y p) (Ec.Wp.Y p) PR) (Ec.Wp.Y p) PR) PR) PR))) 24 (uv (fMul (Ec.Wp.X p) (fAdd (fMul (fAdd (Ec.Wp.Y p) (Ec.Wp.Y p) PR) (Ec.Wp.Y p) PR) (fMul (fAdd (Ec.Wp.Y p) (Ec.Wp.Y p) PR) (Ec.Wp.Y p) PR) PR) PR)) (fun g => kr) (fun g => kr) (fun g => kr) kr kr (fun g => (of_decide_eq_true kr)) (fun g => kr) (fun L g hN => ⟨(by have hL8 : L 8 = true := (hN.bef 8 kr); have hL10 : L 10 = false := hN.1; exact D2.ent_get' (p := L 8) (e := (bif L 10 then ((g 8).b, Oc (uv (fMul (Ec.Wp.X p) (fAdd (fMul (fAdd (Ec.Wp.Y p) (Ec.Wp.Y p) PR) (Ec.Wp.Y p) PR) (fMul (fAdd (Ec.Wp.Y p) (Ec.Wp.Y p) PR) (Ec.Wp.Y p) PR) PR) PR)) 24) else ((g 8).b, Od Z4 24))) kr (by exact hL8) (by simp only [hL8, hL10, cond_true, cond_false] <;> rfl)), (by have hL8 : L 8 = true := (hN.bef 8 kr); exact D2.ent_set (x' := (L 8, ((g 8).b, Oc (uv (fMul (Ec.Wp.X p) (fAdd (fMul (fAdd (Ec.Wp.Y p) (Ec.Wp.Y p) PR) (Ec.Wp.Y p) PR) (fMul (fAdd (Ec.Wp.Y p) (Ec.Wp.Y p) PR) (Ec.Wp.Y p) PR) PR) PR)) 24))) kr (by simp only [hL8, cond_true, cond_false] <;> rfl))⟩) (fun L g hN hF => hF)
    · exact D2.gv_store 7 24 (.tmp 8) (.tmp 47) (fun g => (g 9).b) (fun g => 0) Z4 (Value.cells (uv (fMul (fAdd (fMul (fAdd (Ec.Wp.Y p) (Ec.Wp.Y p) PR) (Ec.Wp.Y p) PR) (fMul (fAdd (Ec.Wp.Y p) (Ec.Wp.Y p) PR) (Ec.Wp.Y p) PR) PR) (fMul (fAdd (Ec.Wp.Y p) (Ec.Wp.Y p) PR) (Ec.Wp.Y p) PR) PR))) 24 (uv (fMul (fAdd (fMul (fAdd (Ec.Wp.Y p) (Ec.Wp.Y p) PR) (Ec.Wp.Y p) PR) (fMul (fAdd (Ec.Wp.Y p) (Ec.Wp.Y p) PR) (Ec.Wp.Y p) PR) PR) (fMul (fAdd (Ec.Wp.Y p) (Ec.Wp.Y p) PR) (Ec.Wp.Y p) PR) PR)) (fun g => kr) (fun g => kr) (fun g => kr) kr kr (fun g => (of_decide_eq_true kr)) (fun g => kr) (fun L g hN => ⟨(by have hL9 : L 9 = true := (hN.bef 9 kr); have hL11 : L 11 = false := hN.1; exact D2.ent_get' (p := L 9) (e := (bif L 11 then ((g 9).b, Oc (uv (fMul (fAdd (fMul (fAdd (Ec.Wp.Y p) (Ec.Wp.Y p) PR) (Ec.Wp.Y p) PR) (fMul (fAdd (Ec.Wp.Y p) (Ec.Wp.Y p) PR) (Ec.Wp.Y p) PR) PR) (fMul (fAdd (Ec.Wp.Y p) (Ec.Wp.Y p) PR) (Ec.Wp.Y p) PR) PR)) 24) else ((g 9).b, Od Z4 24))) kr (by exact hL9) (by simp only [hL9, hL11, cond_true, cond_false] <;> rfl)), (by have hL9 : L 9 = true := (hN.bef 9 kr); exact D2.ent_set (x' := (L 9, ((g 9).b, Oc (uv (fMul (fAdd (fMul (fAdd (Ec.Wp.Y p) (Ec.Wp.Y p) PR) (Ec.Wp.Y p) PR) (fMul (fAdd (Ec.Wp.Y p) (Ec.Wp.Y p) PR) (Ec.Wp.Y p) PR) PR) (fMul (fAdd (Ec.Wp.Y p) (Ec.Wp.Y p) PR) (Ec.Wp.Y p) PR) PR)) 24))) kr (by simp only [hL9, cond_true, cond_false] <;> rfl))⟩) (fun L g hN hF => hF)
    intro L0 G16 w16 hall HL; clear H15
    have H16 : St w.heap.size w w16 [(b6, Oc (uv (fAdd (fAdd (fMul (Ec.Wp.X p) (Ec.Wp.X p) PR) (fMul (Ec.Wp.X p) (Ec.Wp.X p) PR) PR) (fMul (Ec.Wp.X p) (Ec.Wp.X p) PR) PR)) 24), (b5, Oc (uv (fAdd (fMul (fAdd (Ec.Wp.Y p) (Ec.Wp.Y p) PR) (Ec.Wp.Y p) PR) (fMul (fAdd (Ec.Wp.Y p) (Ec.Wp.Y p) PR) (Ec.Wp.Y p) PR) PR)) 24), (b4, Oc (uv (fMul (fAdd (Ec.Wp.Y p) (Ec.Wp.Y p) PR) (Ec.Wp.Y p) PR)) 24), (b3, Oc (uv (fAdd (Ec.Wp.Y p) (Ec.Wp.Y p) PR)) 24), (b2, Od Z13 51), (b1, Oc (wv p) 51), ((G16 8).b, Oc (uv (fMul (Ec.Wp.X p) (fAdd (fMul (fAdd (Ec.Wp.Y p) (Ec.Wp.Y p) PR) (Ec.Wp.Y p) PR) (fMul (fAdd (Ec.Wp.Y p) (Ec.Wp.Y p) PR) (Ec.Wp.Y p) PR) PR) PR)) 24), ((G16 9).b, Oc (uv (fMul (fAdd (fMul (fAdd (Ec.Wp.Y p) (Ec.Wp.Y p) PR) (Ec.Wp.Y p) PR) (fMul (fAdd (Ec.Wp.Y p) (Ec.Wp.Y p) PR) (Ec.Wp.Y p) PR) PR) (fMul (fAdd (Ec.Wp.Y p) (Ec.Wp.Y p) PR) (Ec.Wp.Y p) PR) PR)) 24)] := by have e8 := hall 8 (Nat.le_of_ble_eq_true kr); have e9 := hall 9 (Nat.le_of_ble_eq_true kr); have e10 := hall 10 (Nat.le_of_ble_eq_true kr); have e11 := hall 11 (Nat.le_of_ble_eq_true kr); have hS := D2.StE.st HL.1; simp only [e8, e9, e10, e11, cond_true, D2.pres] at hS; exact hS
    clear HL hall
    refine D2.g_sdraw [0, 1, 2, 3, 4, 5, 6, 7, 8, 9] [((some 48), fun _ => uv (fAdd (fAdd (fMul (Ec.Wp.X p) (Ec.Wp.X p) PR) (fMul (Ec.Wp.X p) (Ec.Wp.X p) PR) PR) (fMul (Ec.Wp.X p) (Ec.Wp.X p) PR) PR)), ((some 49), fun _ => uv (fMul (Ec.Wp.X p) (fAdd (fMul (fAdd (Ec.Wp.Y p) (Ec.Wp.Y p) PR) (Ec.Wp.Y p) PR) (fMul (fAdd (Ec.Wp.Y p) (Ec.Wp.Y p) PR) (Ec.Wp.Y p) PR) PR) PR)), ((some 50), fun _ => uv (fMul (Ec.Wp.X p) (fAdd (fMul (fAdd (Ec.Wp.Y p) (Ec.Wp.Y p) PR) (Ec.Wp.Y p) PR) (fMul (fAdd (Ec.Wp.Y p) (Ec.Wp.Y p) PR) (Ec.Wp.Y p) PR) PR) PR)), ((some 51), fun _ => uv (fMul (fAdd (fMul (fAdd (Ec.Wp.Y p) (Ec.Wp.Y p) PR) (Ec.Wp.Y p) PR) (fMul (fAdd (Ec.Wp.Y p) (Ec.Wp.Y p) PR) (Ec.Wp.Y p) PR) PR) (fMul (fAdd (Ec.Wp.Y p) (Ec.Wp.Y p) PR) (Ec.Wp.Y p) PR) PR)), ((some 52), fun _ => uv (fAdd (Ec.Wp.Y p) (Ec.Wp.Y p) PR)), ((some 53), fun _ => .pointer (some ⟨b1, 9, none⟩)), ((some 54), fun _ => uv (Ec.Wp.Z p)), ((some 55), fun _ => uv (fMul (fAdd (Ec.Wp.Y p) (Ec.Wp.Y p) PR) (Ec.Wp.Z p) PR)), ((some 56), fun _ => wv (Ec.thirdW (fAdd (fAdd (fMul (Ec.Wp.X p) (Ec.Wp.X p) PR) (fMul (Ec.Wp.X p) (Ec.Wp.X p) PR) PR) (fMul (Ec.Wp.X p) (Ec.Wp.X p) PR) PR) (fMul (Ec.Wp.X p) (fAdd (fMul (fAdd (Ec.Wp.Y p) (Ec.Wp.Y p) PR) (Ec.Wp.Y p) PR) (fMul (fAdd (Ec.Wp.Y p) (Ec.Wp.Y p) PR) (Ec.Wp.Y p) PR) PR) PR) (fMul (Ec.Wp.X p) (fAdd (fMul (fAdd (Ec.Wp.Y p) (Ec.Wp.Y p) PR) (Ec.Wp.Y p) PR) (fMul (fAdd (Ec.Wp.Y p) (Ec.Wp.Y p) PR) (Ec.Wp.Y p) PR) PR) PR) (fMul (fAdd (fMul (fAdd (Ec.Wp.Y p) (Ec.Wp.Y p) PR) (Ec.Wp.Y p) PR) (fMul (fAdd (Ec.Wp.Y p) (Ec.Wp.Y p) PR) (Ec.Wp.Y p) PR) PR) (fMul (fAdd (Ec.Wp.Y p) (Ec.Wp.Y p) PR) (Ec.Wp.Y p) PR) PR) (fMul (fAdd (Ec.Wp.Y p) (Ec.Wp.Y p) PR) (Ec.Wp.Z p) PR))), (none, fun _ => undef)] (D2.Pre w.heap.size w (fun L g => [(true, (b6, Oc (uv (fAdd (fAdd (fMul (Ec.Wp.X p) (Ec.Wp.X p) PR) (fMul (Ec.Wp.X p) (Ec.Wp.X p) PR) PR) (fMul (Ec.Wp.X p) (Ec.Wp.X p) PR) PR)) 24)), (true, (b5, Oc (uv (fAdd (fMul (fAdd (Ec.Wp.Y p) (Ec.Wp.Y p) PR) (Ec.Wp.Y p) PR) (fMul (fAdd (Ec.Wp.Y p) (Ec.Wp.Y p) PR) (Ec.Wp.Y p) PR) PR)) 24)), (true, (b4, Oc (uv (fMul (fAdd (Ec.Wp.Y p) (Ec.Wp.Y p) PR) (Ec.Wp.Y p) PR)) 24)), (true, (b3, Oc (uv (fAdd (Ec.Wp.Y p) (Ec.Wp.Y p) PR)) 24)), (true, (bif L 9 then (b2, Oc (wv (Ec.thirdW (fAdd (fAdd (fMul (Ec.Wp.X p) (Ec.Wp.X p) PR) (fMul (Ec.Wp.X p) (Ec.Wp.X p) PR) PR) (fMul (Ec.Wp.X p) (Ec.Wp.X p) PR) PR) (fMul (Ec.Wp.X p) (fAdd (fMul (fAdd (Ec.Wp.Y p) (Ec.Wp.Y p) PR) (Ec.Wp.Y p) PR) (fMul (fAdd (Ec.Wp.Y p) (Ec.Wp.Y p) PR) (Ec.Wp.Y p) PR) PR) PR) (fMul (Ec.Wp.X p) (fAdd (fMul (fAdd (Ec.Wp.Y p) (Ec.Wp.Y p) PR) (Ec.Wp.Y p) PR) (fMul (fAdd (Ec.Wp.Y p) (Ec.Wp.Y p) PR) (Ec.Wp.Y p) PR) PR) PR) (fMul (fAdd (fMul (fAdd (Ec.Wp.Y p) (Ec.Wp.Y p) PR) (Ec.Wp.Y p) PR) (fMul (fAdd (Ec.Wp.Y p) (Ec.Wp.Y p) PR) (Ec.Wp.Y p) PR) PR) (fMul (fAdd (Ec.Wp.Y p) (Ec.Wp.Y p) PR) (Ec.Wp.Y p) PR) PR) (fMul (fAdd (Ec.Wp.Y p) (Ec.Wp.Y p) PR) (Ec.Wp.Z p) PR))) 51) else (b2, Od Z13 51))), (true, (b1, Oc (wv p) 51)), (true, ((G16 8).b, Oc (uv (fMul (Ec.Wp.X p) (fAdd (fMul (fAdd (Ec.Wp.Y p) (Ec.Wp.Y p) PR) (Ec.Wp.Y p) PR) (fMul (fAdd (Ec.Wp.Y p) (Ec.Wp.Y p) PR) (Ec.Wp.Y p) PR) PR) PR)) 24)), (true, ((G16 9).b, Oc (uv (fMul (fAdd (fMul (fAdd (Ec.Wp.Y p) (Ec.Wp.Y p) PR) (Ec.Wp.Y p) PR) (fMul (fAdd (Ec.Wp.Y p) (Ec.Wp.Y p) PR) (Ec.Wp.Y p) PR) PR) (fMul (fAdd (Ec.Wp.Y p) (Ec.Wp.Y p) PR) (Ec.Wp.Y p) PR) PR)) 24))]) (fun L g => True)) kr kr kr kr ⟨D2.StE.of H16.drew _ kr, trivial⟩ ⟨?_, ?_, ?_, ?_, ?_, ?_, ?_, ?_, ?_, ?_, trivial⟩ ?_
    · exact D2.gv_load 24 (.tmp 6) 0 (fun g => b6) (Value.cells (uv (fAdd (fAdd (fMul (Ec.Wp.X p) (Ec.Wp.X p) PR) (fMul (Ec.Wp.X p) (Ec.Wp.X p) PR) PR) (fMul (Ec.Wp.X p) (Ec.Wp.X p) PR) PR))) 24 (0, 0) (fun _ _ _ h => h) (fun g => kr) (fun g => kr) (fun L g hN => kr) kr
    · exact D2.gv_load 24 (.tmp 7) 6 (fun g => (G16 8).b) (Value.cells (uv (fMul (Ec.Wp.X p) (fAdd (fMul (fAdd (Ec.Wp.Y p) (Ec.Wp.Y p) PR) (Ec.Wp.Y p) PR) (fMul (fAdd (Ec.Wp.Y p) (Ec.Wp.Y p) PR) (Ec.Wp.Y p) PR) PR) PR))) 24 (0, 0) (fun _ _ _ h => h) (fun g => kr) (fun g => kr) (fun L g hN => kr) kr
    · exact D2.gv_load 24 (.tmp 7) 6 (fun g => (G16 8).b) (Value.cells (uv (fMul (Ec.Wp.X p) (fAdd (fMul (fAdd (Ec.Wp.Y p) (Ec.Wp.Y p) PR) (Ec.Wp.Y p) PR) (fMul (fAdd (Ec.Wp.Y p) (Ec.Wp.Y p) PR) (Ec.Wp.Y p) PR) PR) PR))) 24 (0, 0) (fun _ _ _ h => h) (fun g => kr) (fun g => kr) (fun L g hN => kr) kr
    · exact D2.gv_load 24 (.tmp 8) 7 (fun g => (G16 9).b) (Value.cells (uv (fMul (fAdd (fMul (fAdd (Ec.Wp.Y p) (Ec.Wp.Y p) PR) (Ec.Wp.Y p) PR) (fMul (fAdd (Ec.Wp.Y p) (Ec.Wp.Y p) PR) (Ec.Wp.Y p) PR) PR) (fMul (fAdd (Ec.Wp.Y p) (Ec.Wp.Y p) PR) (Ec.Wp.Y p) PR) PR))) 24 (0, 0) (fun _ _ _ h => h) (fun g => kr) (fun g => kr) (fun L g hN => kr) kr
    · exact D2.gv_load 24 (.tmp 3) 3 (fun g => b3) (Value.cells (uv (fAdd (Ec.Wp.Y p) (Ec.Wp.Y p) PR))) 24 (0, 0) (fun _ _ _ h => h) (fun g => kr) (fun g => kr) (fun L g hN => kr) kr
    · exact D2.gv_val (fun _ _ _ h => h) (fun g w => kr)
    · exact D2.gv_loadp 24 (.tmp 53) 5 (fun g => b1) 9 4 (Value.cells (wv p)) (Value.cells (uv (Ec.Wp.Z p))) 51 (0, 0) (fun _ _ _ h => h) (fun g => kr) (fun g => kr) (fun L g hN => kr) kr (of_decide_eq_true kr) kr
    · exact D2.gv_call 31 #[uv (fAdd (Ec.Wp.Y p) (Ec.Wp.Y p) PR), uv (Ec.Wp.Z p)] (fun _ _ _ h => h) (pmul_fn (fAdd (Ec.Wp.Y p) (Ec.Wp.Y p) PR) (Ec.Wp.Z p) (fAdd_lt pr_ok) hp.Z) (fun g w => kr)
    · exact D2.gv_call 55 #[uv (fAdd (fAdd (fMul (Ec.Wp.X p) (Ec.Wp.X p) PR) (fMul (Ec.Wp.X p) (Ec.Wp.X p) PR) PR) (fMul (Ec.Wp.X p) (Ec.Wp.X p) PR) PR), uv (fMul (Ec.Wp.X p) (fAdd (fMul (fAdd (Ec.Wp.Y p) (Ec.Wp.Y p) PR) (Ec.Wp.Y p) PR) (fMul (fAdd (Ec.Wp.Y p) (Ec.Wp.Y p) PR) (Ec.Wp.Y p) PR) PR) PR), uv (fMul (Ec.Wp.X p) (fAdd (fMul (fAdd (Ec.Wp.Y p) (Ec.Wp.Y p) PR) (Ec.Wp.Y p) PR) (fMul (fAdd (Ec.Wp.Y p) (Ec.Wp.Y p) PR) (Ec.Wp.Y p) PR) PR) PR), uv (fMul (fAdd (fMul (fAdd (Ec.Wp.Y p) (Ec.Wp.Y p) PR) (Ec.Wp.Y p) PR) (fMul (fAdd (Ec.Wp.Y p) (Ec.Wp.Y p) PR) (Ec.Wp.Y p) PR) PR) (fMul (fAdd (Ec.Wp.Y p) (Ec.Wp.Y p) PR) (Ec.Wp.Y p) PR) PR), uv (fMul (fAdd (Ec.Wp.Y p) (Ec.Wp.Y p) PR) (Ec.Wp.Z p) PR)] (fun _ _ _ h => h) (third_fn (fAdd (fAdd (fMul (Ec.Wp.X p) (Ec.Wp.X p) PR) (fMul (Ec.Wp.X p) (Ec.Wp.X p) PR) PR) (fMul (Ec.Wp.X p) (Ec.Wp.X p) PR) PR) (fMul (Ec.Wp.X p) (fAdd (fMul (fAdd (Ec.Wp.Y p) (Ec.Wp.Y p) PR) (Ec.Wp.Y p) PR) (fMul (fAdd (Ec.Wp.Y p) (Ec.Wp.Y p) PR) (Ec.Wp.Y p) PR) PR) PR) (fMul (Ec.Wp.X p) (fAdd (fMul (fAdd (Ec.Wp.Y p) (Ec.Wp.Y p) PR) (Ec.Wp.Y p) PR) (fMul (fAdd (Ec.Wp.Y p) (Ec.Wp.Y p) PR) (Ec.Wp.Y p) PR) PR) PR) (fMul (fAdd (fMul (fAdd (Ec.Wp.Y p) (Ec.Wp.Y p) PR) (Ec.Wp.Y p) PR) (fMul (fAdd (Ec.Wp.Y p) (Ec.Wp.Y p) PR) (Ec.Wp.Y p) PR) PR) (fMul (fAdd (Ec.Wp.Y p) (Ec.Wp.Y p) PR) (Ec.Wp.Y p) PR) PR) (fMul (fAdd (Ec.Wp.Y p) (Ec.Wp.Y p) PR) (Ec.Wp.Z p) PR) (fAdd_lt pr_ok) (fMul_lt pr_ok) (fMul_lt pr_ok) (fMul_lt pr_ok) (fMul_lt pr_ok)) (fun g w => kr)
    · exact D2.gv_store 4 51 (.tmp 2) (.tmp 56) (fun g => b2) (fun g => 0) Z13 (Value.cells (wv (Ec.thirdW (fAdd (fAdd (fMul (Ec.Wp.X p) (Ec.Wp.X p) PR) (fMul (Ec.Wp.X p) (Ec.Wp.X p) PR) PR) (fMul (Ec.Wp.X p) (Ec.Wp.X p) PR) PR) (fMul (Ec.Wp.X p) (fAdd (fMul (fAdd (Ec.Wp.Y p) (Ec.Wp.Y p) PR) (Ec.Wp.Y p) PR) (fMul (fAdd (Ec.Wp.Y p) (Ec.Wp.Y p) PR) (Ec.Wp.Y p) PR) PR) PR) (fMul (Ec.Wp.X p) (fAdd (fMul (fAdd (Ec.Wp.Y p) (Ec.Wp.Y p) PR) (Ec.Wp.Y p) PR) (fMul (fAdd (Ec.Wp.Y p) (Ec.Wp.Y p) PR) (Ec.Wp.Y p) PR) PR) PR) (fMul (fAdd (fMul (fAdd (Ec.Wp.Y p) (Ec.Wp.Y p) PR) (Ec.Wp.Y p) PR) (fMul (fAdd (Ec.Wp.Y p) (Ec.Wp.Y p) PR) (Ec.Wp.Y p) PR) PR) (fMul (fAdd (Ec.Wp.Y p) (Ec.Wp.Y p) PR) (Ec.Wp.Y p) PR) PR) (fMul (fAdd (Ec.Wp.Y p) (Ec.Wp.Y p) PR) (Ec.Wp.Z p) PR)))) 51 (wv (Ec.thirdW (fAdd (fAdd (fMul (Ec.Wp.X p) (Ec.Wp.X p) PR) (fMul (Ec.Wp.X p) (Ec.Wp.X p) PR) PR) (fMul (Ec.Wp.X p) (Ec.Wp.X p) PR) PR) (fMul (Ec.Wp.X p) (fAdd (fMul (fAdd (Ec.Wp.Y p) (Ec.Wp.Y p) PR) (Ec.Wp.Y p) PR) (fMul (fAdd (Ec.Wp.Y p) (Ec.Wp.Y p) PR) (Ec.Wp.Y p) PR) PR) PR) (fMul (Ec.Wp.X p) (fAdd (fMul (fAdd (Ec.Wp.Y p) (Ec.Wp.Y p) PR) (Ec.Wp.Y p) PR) (fMul (fAdd (Ec.Wp.Y p) (Ec.Wp.Y p) PR) (Ec.Wp.Y p) PR) PR) PR) (fMul (fAdd (fMul (fAdd (Ec.Wp.Y p) (Ec.Wp.Y p) PR) (Ec.Wp.Y p) PR) (fMul (fAdd (Ec.Wp.Y p) (Ec.Wp.Y p) PR) (Ec.Wp.Y p) PR) PR) (fMul (fAdd (Ec.Wp.Y p) (Ec.Wp.Y p) PR) (Ec.Wp.Y p) PR) PR) (fMul (fAdd (Ec.Wp.Y p) (Ec.Wp.Y p) PR) (Ec.Wp.Z p) PR))) (fun g => kr) (fun g => kr) (fun g => kr) kr kr (fun g => (of_decide_eq_true kr)) (fun g => kr) (fun L g hN => ⟨(by have hL9 : L 9 = false := hN.1; exact D2.ent_get' (p := true) (e := (bif L 9 then (b2, Oc (wv (Ec.thirdW (fAdd (fAdd (fMul (Ec.Wp.X p) (Ec.Wp.X p) PR) (fMul (Ec.Wp.X p) (Ec.Wp.X p) PR) PR) (fMul (Ec.Wp.X p) (Ec.Wp.X p) PR) PR) (fMul (Ec.Wp.X p) (fAdd (fMul (fAdd (Ec.Wp.Y p) (Ec.Wp.Y p) PR) (Ec.Wp.Y p) PR) (fMul (fAdd (Ec.Wp.Y p) (Ec.Wp.Y p) PR) (Ec.Wp.Y p) PR) PR) PR) (fMul (Ec.Wp.X p) (fAdd (fMul (fAdd (Ec.Wp.Y p) (Ec.Wp.Y p) PR) (Ec.Wp.Y p) PR) (fMul (fAdd (Ec.Wp.Y p) (Ec.Wp.Y p) PR) (Ec.Wp.Y p) PR) PR) PR) (fMul (fAdd (fMul (fAdd (Ec.Wp.Y p) (Ec.Wp.Y p) PR) (Ec.Wp.Y p) PR) (fMul (fAdd (Ec.Wp.Y p) (Ec.Wp.Y p) PR) (Ec.Wp.Y p) PR) PR) (fMul (fAdd (Ec.Wp.Y p) (Ec.Wp.Y p) PR) (Ec.Wp.Y p) PR) PR) (fMul (fAdd (Ec.Wp.Y p) (Ec.Wp.Y p) PR) (Ec.Wp.Z p) PR))) 51) else (b2, Od Z13 51))) kr (by rfl) (by simp only [hL9, cond_true, cond_false] <;> rfl)), kr⟩) (fun L g hN hF => hF)
    intro L0 G17 w17 hall HL; clear H16
    have H17 : St w.heap.size w w17 [(b6, Oc (uv (fAdd (fAdd (fMul (Ec.Wp.X p) (Ec.Wp.X p) PR) (fMul (Ec.Wp.X p) (Ec.Wp.X p) PR) PR) (fMul (Ec.Wp.X p) (Ec.Wp.X p) PR) PR)) 24), (b5, Oc (uv (fAdd (fMul (fAdd (Ec.Wp.Y p) (Ec.Wp.Y p) PR) (Ec.Wp.Y p) PR) (fMul (fAdd (Ec.Wp.Y p) (Ec.Wp.Y p) PR) (Ec.Wp.Y p) PR) PR)) 24), (b4, Oc (uv (fMul (fAdd (Ec.Wp.Y p) (Ec.Wp.Y p) PR) (Ec.Wp.Y p) PR)) 24), (b3, Oc (uv (fAdd (Ec.Wp.Y p) (Ec.Wp.Y p) PR)) 24), (b2, Oc (wv (Ec.thirdW (fAdd (fAdd (fMul (Ec.Wp.X p) (Ec.Wp.X p) PR) (fMul (Ec.Wp.X p) (Ec.Wp.X p) PR) PR) (fMul (Ec.Wp.X p) (Ec.Wp.X p) PR) PR) (fMul (Ec.Wp.X p) (fAdd (fMul (fAdd (Ec.Wp.Y p) (Ec.Wp.Y p) PR) (Ec.Wp.Y p) PR) (fMul (fAdd (Ec.Wp.Y p) (Ec.Wp.Y p) PR) (Ec.Wp.Y p) PR) PR) PR) (fMul (Ec.Wp.X p) (fAdd (fMul (fAdd (Ec.Wp.Y p) (Ec.Wp.Y p) PR) (Ec.Wp.Y p) PR) (fMul (fAdd (Ec.Wp.Y p) (Ec.Wp.Y p) PR) (Ec.Wp.Y p) PR) PR) PR) (fMul (fAdd (fMul (fAdd (Ec.Wp.Y p) (Ec.Wp.Y p) PR) (Ec.Wp.Y p) PR) (fMul (fAdd (Ec.Wp.Y p) (Ec.Wp.Y p) PR) (Ec.Wp.Y p) PR) PR) (fMul (fAdd (Ec.Wp.Y p) (Ec.Wp.Y p) PR) (Ec.Wp.Y p) PR) PR) (fMul (fAdd (Ec.Wp.Y p) (Ec.Wp.Y p) PR) (Ec.Wp.Z p) PR))) 51), (b1, Oc (wv p) 51), ((G16 8).b, Oc (uv (fMul (Ec.Wp.X p) (fAdd (fMul (fAdd (Ec.Wp.Y p) (Ec.Wp.Y p) PR) (Ec.Wp.Y p) PR) (fMul (fAdd (Ec.Wp.Y p) (Ec.Wp.Y p) PR) (Ec.Wp.Y p) PR) PR) PR)) 24), ((G16 9).b, Oc (uv (fMul (fAdd (fMul (fAdd (Ec.Wp.Y p) (Ec.Wp.Y p) PR) (Ec.Wp.Y p) PR) (fMul (fAdd (Ec.Wp.Y p) (Ec.Wp.Y p) PR) (Ec.Wp.Y p) PR) PR) (fMul (fAdd (Ec.Wp.Y p) (Ec.Wp.Y p) PR) (Ec.Wp.Y p) PR) PR)) 24)] := by have e9 := hall 9 (Nat.le_of_ble_eq_true kr); have hS := D2.StE.st HL.1; simp only [e9, cond_true, D2.pres] at hS; exact hS
    clear HL hall
    refine g_ret kr ?_
    show ∃ vs, Res _ _ _ _ vs ∧ _
    refine ⟨[wv (Ec.thirdW (fAdd (fAdd (fMul (Ec.Wp.X p) (Ec.Wp.X p) PR) (fMul (Ec.Wp.X p) (Ec.Wp.X p) PR) PR) (fMul (Ec.Wp.X p) (Ec.Wp.X p) PR) PR) (fMul (Ec.Wp.X p) (fAdd (fMul (fAdd (Ec.Wp.Y p) (Ec.Wp.Y p) PR) (Ec.Wp.Y p) PR) (fMul (fAdd (Ec.Wp.Y p) (Ec.Wp.Y p) PR) (Ec.Wp.Y p) PR) PR) PR) (fMul (Ec.Wp.X p) (fAdd (fMul (fAdd (Ec.Wp.Y p) (Ec.Wp.Y p) PR) (Ec.Wp.Y p) PR) (fMul (fAdd (Ec.Wp.Y p) (Ec.Wp.Y p) PR) (Ec.Wp.Y p) PR) PR) PR) (fMul (fAdd (fMul (fAdd (Ec.Wp.Y p) (Ec.Wp.Y p) PR) (Ec.Wp.Y p) PR) (fMul (fAdd (Ec.Wp.Y p) (Ec.Wp.Y p) PR) (Ec.Wp.Y p) PR) PR) (fMul (fAdd (Ec.Wp.Y p) (Ec.Wp.Y p) PR) (Ec.Wp.Y p) PR) PR) (fMul (fAdd (Ec.Wp.Y p) (Ec.Wp.Y p) PR) (Ec.Wp.Z p) PR))], (.agg (b := b2) (Value.cells (wv (Ec.thirdW (fAdd (fAdd (fMul (Ec.Wp.X p) (Ec.Wp.X p) PR) (fMul (Ec.Wp.X p) (Ec.Wp.X p) PR) PR) (fMul (Ec.Wp.X p) (Ec.Wp.X p) PR) PR) (fMul (Ec.Wp.X p) (fAdd (fMul (fAdd (Ec.Wp.Y p) (Ec.Wp.Y p) PR) (Ec.Wp.Y p) PR) (fMul (fAdd (Ec.Wp.Y p) (Ec.Wp.Y p) PR) (Ec.Wp.Y p) PR) PR) PR) (fMul (Ec.Wp.X p) (fAdd (fMul (fAdd (Ec.Wp.Y p) (Ec.Wp.Y p) PR) (Ec.Wp.Y p) PR) (fMul (fAdd (Ec.Wp.Y p) (Ec.Wp.Y p) PR) (Ec.Wp.Y p) PR) PR) PR) (fMul (fAdd (fMul (fAdd (Ec.Wp.Y p) (Ec.Wp.Y p) PR) (Ec.Wp.Y p) PR) (fMul (fAdd (Ec.Wp.Y p) (Ec.Wp.Y p) PR) (Ec.Wp.Y p) PR) PR) (fMul (fAdd (Ec.Wp.Y p) (Ec.Wp.Y p) PR) (Ec.Wp.Y p) PR) PR) (fMul (fAdd (Ec.Wp.Y p) (Ec.Wp.Y p) PR) (Ec.Wp.Z p) PR)))) 51 (0, 0) kr (H17.get 4 kr) kr .nil), ?_, H17.below⟩
    exact congrArg wv (Ec.dblW_2 hb1).symm
  · skip
    refine g_cond_t kr kr ?_
    refine g_sreg [0, 1] kr kr ?_
    refine s_load H2 (some 12) 51 (.tmp 1) 1 b1 (Value.cells (wv p)) 51 (0, 0) kr kr kr kr kr ?_
    refine s_store H2 0 [(b2, Oc (wv p) 51), (b1, Oc (wv p) 51)] 51 (.tmp 2) (.tmp 12) b2 (0) Z13 (Value.cells (wv p)) 51 (wv p) kr kr kr kr kr kr (of_decide_eq_true kr) kr kr ?_
    intro w18 H18; clear H2
    refine s_nil ?_
    refine g_ret kr ?_
    show ∃ vs, Res _ _ _ _ vs ∧ _
    refine ⟨[wv p], (.agg (b := b2) (Value.cells (wv p)) 51 (0, 0) kr (H18.get 0 kr) kr .nil), ?_, H18.below⟩
    exact congrArg wv (Ec.dblW_1 hb1).symm

set_option maxRecDepth 100000 in
set_option maxHeartbeats 2000000 in
theorem plus_fn (p q : Ec.Wp) (hp : p.Ok) (hq : q.Ok) : Fn Try.prog 36 #[wv p, wv q] (wv (Ec.plusW p q)) := by
  refine Fn.intro (c := codeOf Try.f36) [.cell 4 51] 99 Try.func36 kr kr kr fun w => ?_
  have H0 := St.start w
  refine g_sreg [0, 1, 2] kr kr ?_
  refine s_box H0 (some 2) 51 (.tmp 0) (wv p) kr kr kr ?_
  intro b1 w1 H1; clear H0
  refine s_box H1 (some 3) 51 (.tmp 1) (wv q) kr kr kr ?_
  intro b2 w2 H2; clear H1
  refine s_alloc H2 (some 4) 51 (.agg Z13) kr kr kr ?_
  intro b3 w3 H3; clear H2
  refine s_nil ?_
  refine g_seq kr ?_
  refine g_sreg [0, 1, 2] kr kr ?_
  refine s_val (some 15) (.pointer (some ⟨b1, 0, none⟩)) (fun w => kr) kr ?_
  refine s_val (some 16) (.pointer (some ⟨b1, 8, none⟩)) (fun w => kr) kr ?_
  refine s_load1 H3 (some 17) 4 (.tmp 16) 2 b1 8 (Value.cells (wv p)) 51 (0, 0) (.bool (Ec.Wp.b p)) kr kr kr kr kr kr ?_
  refine s_nil ?_
  cases hb1 : Ec.Wp.b p
  · skip
    refine g_cond_f kr kr ?_
    refine g_skip kr ?_
    show WP _ _ _ _ _ _
    refine g_seq kr ?_
    refine g_sreg [0, 1, 2] kr kr ?_
    refine s_val (some 19) (.pointer (some ⟨b2, 0, none⟩)) (fun w => kr) kr ?_
    refine s_val (some 20) (.pointer (some ⟨b2, 8, none⟩)) (fun w => kr) kr ?_
    refine s_load1 H3 (some 21) 4 (.tmp 20) 1 b2 8 (Value.cells (wv q)) 51 (0, 0) (.bool (Ec.Wp.b q)) kr kr kr kr kr kr ?_
    refine s_nil ?_
    cases hb2 : Ec.Wp.b q
    · skip
      refine g_cond_f kr kr ?_
      refine g_skip kr ?_
      show WP _ _ _ _ _ _
      refine D2.g_sdraw [0, 1, 2, 3, 4, 5, 6, 7, 8, 9, 10, 11, 12, 13] [((some 23), fun _ => .pointer (some ⟨b1, 9, none⟩)), ((some 24), fun _ => uv (Ec.Wp.Z p)), ((some 25), fun _ => .pointer (some ⟨b1, 9, none⟩)), ((some 26), fun _ => uv (Ec.Wp.Z p)), ((some 27), fun _ => uv (fMul (Ec.Wp.Z p) (Ec.Wp.Z p) PR)), ((some 28), fun _ => .pointer (some ⟨b2, 9, none⟩)), ((some 29), fun _ => uv (Ec.Wp.Z q)), ((some 30), fun _ => .pointer (some ⟨b2, 9, none⟩)), ((some 31), fun _ => uv (Ec.Wp.Z q)), ((some 32), fun _ => uv (fMul (Ec.Wp.Z q) (Ec.Wp.Z q) PR)), ((some 5), fun b => .pointer (some ⟨b.b, 0, none⟩)), ((some 6), fun b => .pointer (some ⟨b.b, 0, none⟩)), (none, fun _ => undef), (none, fun _ => undef)] (D2.Pre w.heap.size w (fun L g => [(true, (b3, Od Z13 51)), (true, (b2, Oc (wv q) 51)), (true, (b1, Oc (wv p) 51)), (L 10, (bif L 12 then ((g 10).b, Oc (uv (fMul (Ec.Wp.Z p) (Ec.Wp.Z p) PR)) 24) else ((g 10).b, Od Z4 24))), (L 11, (bif L 13 then ((g 11).b, Oc (uv (fMul (Ec.Wp.Z q) (Ec.Wp.Z q) PR)) 24) else ((g 11).b, Od Z4 24)))]) (fun L g => True)) kr kr kr kr ⟨D2.StE.of H3.drew _ kr, trivial⟩ ⟨?_, ?_, ?_, ?_, ?_, ?_, ?_, ?_, ?_, ?_, ?_, ?_, ?_, ?_, trivial⟩ ?_
      · exact D2.gv_val (fun _ _ _ h => h) (fun g w => kr)
      · exact D2.gv_loadp 24 (.tmp 23) 2 (fun g => b1) 9 4 (Value.cells (wv p)) (Value.cells (uv (Ec.Wp.Z p))) 51 (0, 0) (fun _ _ _ h => h) (fun g => kr) (fun g => kr) (fun L g hN => kr) kr (of_decide_eq_true kr) kr
      · exact D2.gv_val (fun _ _ _ h => h) (fun g w => kr)
      · exact D2.gv_loadp 24 (.tmp 25) 2 (fun g => b1) 9 4 (Value.cells (wv p)) (Value.cells (uv (Ec.Wp.Z p))) 51 (0, 0) (fun _ _ _ h => h) (fun g => kr) (fun g => kr) (fun L g hN => kr) kr (of_decide_eq_true kr) kr
      · exact D2.gv_call 31 #[uv (Ec.Wp.Z p), uv (Ec.Wp.Z p)] (fun _ _ _ h => h) (pmul_fn (Ec.Wp.Z p) (Ec.Wp.Z p) hp.Z hp.Z) (fun g w => kr)
      · exact D2.gv_val (fun _ _ _ h => h) (fun g w => kr)
      · exact D2.gv_loadp 24 (.tmp 28) 1 (fun g => b2) 9 4 (Value.cells (wv q)) (Value.cells (uv (Ec.Wp.Z q))) 51 (0, 0) (fun _ _ _ h => h) (fun g => kr) (fun g => kr) (fun L g hN => kr) kr (of_decide_eq_true kr) kr
      · exact D2.gv_val (fun _ _ _ h => h) (fun g w => kr)
      · exact D2.gv_loadp 24 (.tmp 30) 1 (fun g => b2) 9 4 (Value.cells (wv q)) (Value.cells (uv (Ec.Wp.Z q))) 51 (0, 0) (fun _ _ _ h => h) (fun g => kr) (fun g => kr) (fun L g hN => kr) kr (of_decide_eq_true kr) kr
      · exact D2.gv_call 31 #[uv (Ec.Wp.Z q), uv (Ec.Wp.Z q)] (fun _ _ _ h => h) (pmul_fn (Ec.Wp.Z q) (Ec.Wp.Z q) hq.Z hq.Z) (fun g w => kr)
      · exact D2.gv_alloc 24 (.agg Z4) 3 (fun g => kr) kr (fun L g b hN => (by have hL12 : L 12 = false := (hN.post 12 kr); exact D2.ent_set (x' := (true, (bif L 12 then (((D2.setN g 10 { b := b }) 10).b, Oc (uv (fMul (Ec.Wp.Z p) (Ec.Wp.Z p) PR)) 24) else (((D2.setN g 10 { b := b }) 10).b, Od Z4 24)))) kr (by simp only [hL12, cond_true, cond_false] <;> rfl))) (fun L g b hN hF => hF)
      · exact D2.gv_alloc 24 (.agg Z4) 4 (fun g => kr) kr (fun L g b hN => (by have hL13 : L 13 = false := (hN.post 13 kr); exact D2.ent_set (x' := (true, (bif L 13 then (((D2.setN g 11 { b := b }) 11).b, Oc (uv (fMul (Ec.Wp.Z q) (Ec.Wp.Z q) PR)) 24) else (((D2.setN g 11 { b := b }) 11).b, Od Z4 24)))) kr (by simp only [hL13, cond_true, cond_false] <;> rfl))) (fun L g b hN hF => hF)
      · exact D2.gv_store 3 24 (.tmp 5) (.tmp 27) (fun g => (g 10).b) (fun g => 0) Z4 (Value.cells (uv (fMul (Ec.Wp.Z p) (Ec.Wp.Z p) PR))) 24 (uv (fMul (Ec.Wp.Z p) (Ec.Wp.Z p) PR)) (fun g => kr) (fun g => kr) (fun g => kr) kr kr (fun g => (of_decide_eq_true kr)) (fun g => kr) (fun L g hN => ⟨(by have hL10 : L 10 = true := (hN.bef 10 kr); have hL12 : L 12 = false := hN.1; exact D2.ent_get' (p := L 10) (e := (bif L 12 then ((g 10).b, Oc (uv (fMul (Ec.Wp.Z p) (Ec.Wp.Z p) PR)) 24) else ((g 10).b, Od Z4 24))) kr (by exact hL10) (by simp only [hL10, hL12, cond_true, cond_false] <;> rfl)), (by have hL10 : L 10 = true := (hN.bef 10 kr); exact D2.ent_set (x' := (L 10, ((g 10).b, Oc (uv (fMul (Ec.Wp.Z p) (Ec.Wp.Z p) PR)) 24))) kr (by simp only [hL10, cond_true, cond_false] <;> rfl))⟩) (fun L g hN hF => hF)
      · exact D2.gv_store 4 24 (.tmp 6) (.tmp 32) (fun g => (g 11).b) (fun g => 0) Z4 (Value.cells (uv (fMul (Ec.Wp.Z q) (Ec.Wp.Z q) PR))) 24 (uv (fMul (Ec.Wp.Z q) (Ec.Wp.Z q) PR)) (fun g => kr) (fun g => kr) (fun g => kr) kr kr (fun g => (of_decide_eq_true kr)) (fun g => kr) (fun L g hN => ⟨(by have hL11 : L 11 = true := (hN.bef 11 kr); have hL13 : L 13 = false := hN.1; exact D2.ent_get' (p := L 11) (e := (bif L 13 then ((g 11).b, Oc (uv (fMul (Ec.Wp.Z q) (Ec.Wp.Z q) PR)) 24) else ((g 11).b, Od Z4 24))) kr (by exact hL11) (by simp only [hL11, hL13, cond_true, cond_false] <;> rfl)), (by have hL11 : L 11 = true := (hN.bef 11 kr); exact D2.ent_set (x' := (L 11, ((g 11).b, Oc (uv (fMul (Ec.Wp.Z q) (Ec.Wp.Z q) PR)) 24))) kr (by simp only [hL11, cond_true, cond_false] <;> rfl))⟩) (fun L g hN hF => hF)
      intro L0 G4 w4 hall HL; clear H3
      have H4 : St w.heap.size w w4 [(b3, Od Z13 51), (b2, Oc (wv q) 51), (b1, Oc (wv p) 51), ((G4 10).b, Oc (uv (fMul (Ec.Wp.Z p) (Ec.Wp.Z p) PR)) 24), ((G4 11).b, Oc (uv (fMul (Ec.Wp.Z q) (Ec.Wp.Z q) PR)) 24)] := by have e10 := hall 10 (Nat.le_of_ble_eq_true kr); have e11 := hall 11 (Nat.le_of_ble_eq_true kr); have e12 := hall 12 (Nat.le_of_ble_eq_true kr); have e13 := hall 13 (Nat.le_of_ble_eq_true kr); have hS := D2.StE.st HL.1; simp only [e10, e11, e12, e13, cond_true, D2.pres] at hS; exact hS
      clear HL hall
      refine D2.g_sdraw [0, 1, 2, 3, 4, 5, 6, 7, 8, 9, 10, 11, 12, 13] [((some 33), fun _ => .pointer (some ⟨b1, 0, none⟩)), ((some 34), fun _ => .pointer (some ⟨b1, 0, none⟩)), ((some 35), fun _ => uv (Ec.Wp.X p)), ((some 36), fun _ => uv (fMul (Ec.Wp.Z q) (Ec.Wp.Z q) PR)), ((some 37), fun _ => uv (fMul (Ec.Wp.X p) (fMul (Ec.Wp.Z q) (Ec.Wp.Z q) PR) PR)), ((some 38), fun _ => .pointer (some ⟨b2, 0, none⟩)), ((some 39), fun _ => .pointer (some ⟨b2, 0, none⟩)), ((some 40), fun _ => uv (Ec.Wp.X q)), ((some 41), fun _ => uv (fMul (Ec.Wp.Z p) (Ec.Wp.Z p) PR)), ((some 42), fun _ => uv (fMul (Ec.Wp.X q) (fMul (Ec.Wp.Z p) (Ec.Wp.Z p) PR) PR)), ((some 7), fun b => .pointer (some ⟨b.b, 0, none⟩)), ((some 8), fun b => .pointer (some ⟨b.b, 0, none⟩)), (none, fun _ => undef), (none, fun _ => undef)] (D2.Pre w.heap.size w (fun L g => [(true, (b3, Od Z13 51)), (true, (b2, Oc (wv q) 51)), (true, (b1, Oc (wv p) 51)), (true, ((G4 10).b, Oc (uv (fMul (Ec.Wp.Z p) (Ec.Wp.Z p) PR)) 24)), (true, ((G4 11).b, Oc (uv (fMul (Ec.Wp.Z q) (Ec.Wp.Z q) PR)) 24)), (L 10, (bif L 12 then ((g 10).b, Oc (uv (fMul (Ec.Wp.X p) (fMul (Ec.Wp.Z q) (Ec.Wp.Z q) PR) PR)) 24) else ((g 10).b, Od Z4 24))), (L 11, (bif L 13 then ((g 11).b, Oc (uv (fMul (Ec.Wp.X q) (fMul (Ec.Wp.Z p) (Ec.Wp.Z p) PR) PR)) 24) else ((g 11).b, Od Z4 24)))]) (fun L g => True)) kr kr kr kr ⟨D2.StE.of H4.drew _ kr, trivial⟩ ⟨?_, ?_, ?_, ?_, ?_, ?_, ?_, ?_, ?_, ?_, ?_, ?_, ?_, ?_, trivial⟩ ?_
      · exact D2.gv_val (fun _ _ _ h => h) (fun g w => kr)
      · exact D2.gv_val (fun _ _ _ h => h) (fun g w => kr)
      · exact D2.gv_loadp 24 (.tmp 34) 2 (fun g => b1) 0 4 (Value.cells (wv p)) (Value.cells (uv (Ec.Wp.X p))) 51 (0, 0) (fun _ _ _ h => h) (fun g => kr) (fun g => kr) (fun L g hN => kr) kr (of_decide_eq_true kr) kr
      · exact D2.gv_load 24 (.tmp 6) 4 (fun g => (G4 11).b) (Value.cells (uv (fMul (Ec.Wp.Z q) (Ec.Wp.Z q) PR))) 24 (0, 0) (fun _ _ _ h => h) (fun g => kr) (fun g => kr) (fun L g hN => kr) kr
      · exact D2.gv_call 31 #[uv (Ec.Wp.X p), uv (fMul (Ec.Wp.Z q) (Ec.Wp.Z q) PR)] (fun _ _ _ h => h) (pmul_fn (Ec.Wp.X p) (fMul (Ec.Wp.Z q) (Ec.Wp.Z q) PR) hp.X (fMul_lt pr_ok)) (fun g w => kr)
      · exact D2.gv_val (fun _ _ _ h => h) (fun g w => kr)
      · exact D2.gv_val (fun _ _ _ h => h) (fun g w => kr)
      · exact D2.gv_loadp 24 (.tmp 39) 1 (fun g => b2) 0 4 (Value.cells (wv q)) (Value.cells (uv (Ec.Wp.X q))) 51 (0, 0) (fun _ _ _ h => h) (fun g => kr) (fun g => kr) (fun L g hN => kr) kr (of_decide_eq_true kr) kr
      · exact D2.gv_load 24 (.tmp 5) 3 (fun g => (G4 10).b) (Value.cells (uv (fMul (Ec.Wp.Z p) (Ec.Wp.Z p) PR))) 24 (0, 0) (fun _ _ _ h => h) (fun g => kr) (fun g => kr) (fun L g hN => kr) kr
      · exact D2.gv_call 31 #[uv (Ec.Wp.X q), uv (fMul (Ec.Wp.Z p) (Ec.Wp.Z p) PR)] (fun _ _ _ h => h) (pmul_fn (Ec.Wp.X q) (fMul (Ec.Wp.Z p) (Ec.Wp.Z p) PR) hq.X (fMul_lt pr_ok)) (fun g w => kr)
      · exact D2.gv_alloc 24 (.agg Z4) 5 (fun g => kr) kr (fun L g b hN => (by have hL12 : L 12 = false := (hN.post 12 kr); exact D2.ent_set (x' := (true, (bif L 12 then (((D2.setN g 10 { b := b }) 10).b, Oc (uv (fMul (Ec.Wp.X p) (fMul (Ec.Wp.Z q) (Ec.Wp.Z q) PR) PR)) 24) else (((D2.setN g 10 { b := b }) 10).b, Od Z4 24)))) kr (by simp only [hL12, cond_true, cond_false] <;> rfl))) (fun L g b hN hF => hF)
      · exact D2.gv_alloc 24 (.agg Z4) 6 (fun g => kr) kr (fun L g b hN => (by have hL13 : L 13 = false := (hN.post 13 kr); exact D2.ent_set (x' := (true, (bif L 13 then (((D2.setN g 11 { b := b }) 11).b, Oc (uv (fMul (Ec.Wp.X q) (fMul (Ec.Wp.Z p) (Ec.Wp.Z p) PR) PR)) 24) else (((D2.setN g 11 { b := b }) 11).b, Od Z4 24)))) kr (by simp only [hL13, cond_true, cond_false] <;> rfl))) (fun L g b hN hF => hF)
      · exact D2.gv_store 5 24 (.tmp 7) (.tmp 37) (fun g => (g 10).b) (fun g => 0) Z4 (Value.cells (uv (fMul (Ec.Wp.X p) (fMul (Ec.Wp.Z q) (Ec.Wp.Z q) PR) PR))) 24 (uv (fMul (Ec.Wp.X p) (fMul (Ec.Wp.Z q) (Ec.Wp.Z q) PR) PR)) (fun g => kr) (fun g => kr) (fun g => kr) kr kr (fun g => (of_decide_eq_true kr)) (fun g => kr) (fun L g hN => ⟨(by have hL10 : L 10 = true := (hN.bef 10 kr); have hL12 : L 12 = false := hN.1; exact D2.ent_get' (p := L 10) (e := (bif L 12 then ((g 10).b, Oc (uv (fMul (Ec.Wp.X p) (fMul (Ec.Wp.Z q) (Ec.Wp.Z q) PR) PR)) 24) else ((g 10).b, Od Z4 24))) kr (by exact hL10) (by simp only [hL10, hL12, cond_true, cond_false] <;> rfl)), (by have hL10 : L 10 = true := (hN.bef 10 kr); exact D2.ent_set (x' := (L 10, ((g 10).b, Oc (uv (fMul (Ec.Wp.X p) (fMul (Ec.Wp.Z q) (Ec.Wp.Z q) PR) PR)) 24))) kr (by simp only [hL10, cond_true, cond_false] <;> rfl))⟩) (fun L g hN hF => hF)
      · exact D2.gv_store 6 24 (.tmp 8) (.tmp 42) (fun g => (g 11).b) (fun g => 0) Z4 (Value.cells (uv (fMul (Ec.Wp.X q) (fMul (Ec.Wp.Z p) (Ec.Wp.Z p) PR) PR))) 24 (uv (fMul (Ec.Wp.X q) (fMul (Ec.Wp.Z p) (Ec.Wp.Z p) PR) PR)) (fun g => kr) (fun g => kr) (fun g => kr) kr kr (fun g => (of_decide_eq_true kr)) (fun g => kr) (fun L g hN => ⟨(by have hL11 : L 11 = true := (hN.bef 11 kr); have hL13 : L 13 = false := hN.1; exact D2.ent_get' (p := L 11) (e := (bif L 13 then ((g 11).b, Oc (uv (fMul (Ec.Wp.X q) (fMul (Ec.Wp.Z p) (Ec.Wp.Z p) PR) PR)) 24) else ((g 11).b, Od Z4 24))) kr (by exact hL11) (by simp only [hL11, hL13, cond_true, cond_false] <;> rfl)), (by have hL11 : L 11 = true := (hN.bef 11 kr); exact D2.ent_set (x' := (L 11, ((g 11).b, Oc (uv (fMul (Ec.Wp.X q) (fMul (Ec.Wp.Z p) (Ec.Wp.Z p) PR) PR)) 24))) kr (by simp only [hL11, cond_true, cond_false] <;> rfl))⟩) (fun L g hN hF => hF)
      intro L0 G5 w5 hall HL; clear H4
      have H5 : St w.heap.size w w5 [(b3, Od Z13 51), (b2, Oc (wv q) 51), (b1, Oc (wv p) 51), ((G4 10).b, Oc (uv (fMul (Ec.Wp.Z p) (Ec.Wp.Z p) PR)) 24), ((G4 11).b, Oc (uv (fMul (Ec.Wp.Z q) (Ec.Wp.Z q) PR)) 24), ((G5 10).b, Oc (uv (fMul (Ec.Wp.X p) (fMul (Ec.Wp.Z q) (Ec.Wp.Z q) PR) PR)) 24), ((G5 11).b, Oc (uv (fMul (Ec.Wp.X q) (fMul (Ec.Wp.Z p) (Ec.Wp.Z p) PR) PR)) 24)] := by have e10 := hall 10 (Nat.le_of_ble_eq_true kr); have e11 := hall 11 (Nat.le_of_ble_eq_true kr); have e12 := hall 12 (Nat.le_of_ble_eq_true kr); have e13 := hall 13 (Nat.le_of_ble_eq_true kr); have hS := D2.StE.st HL.1; simp only [e10, e11, e12, e13, cond_true, D2.pres] at hS; exact hS
      clear HL hall
      refine D2.g_sdraw [0, 1, 2, 3, 4, 5, 6, 7, 8, 9, 10, 11, 12, 13, 14, 15, 16, 17, 18, 19] [((some 43), fun _ => .pointer (some ⟨b1, 0, none⟩)), ((some 44), fun _ => .pointer (some ⟨b1, 4, none⟩)), ((some 45), fun _ => uv (Ec.Wp.Y p)), ((some 46), fun _ => uv (fMul (Ec.Wp.Z q) (Ec.Wp.Z q) PR)), ((some 47), fun _ => .pointer (some ⟨b2, 9, none⟩)), ((some 48), fun _ => uv (Ec.Wp.Z q)), ((some 49), fun _ => uv (fMul (fMul (Ec.Wp.Z q) (Ec.Wp.Z q) PR) (Ec.Wp.Z q) PR)), ((some 50), fun _ => uv (fMul (Ec.Wp.Y p) (fMul (fMul (Ec.Wp.Z q) (Ec.Wp.Z q) PR) (Ec.Wp.Z q) PR) PR)), ((some 51), fun _ => .pointer (some ⟨b2, 0, none⟩)), ((some 52), fun _ => .pointer (some ⟨b2, 4, none⟩)), ((some 53), fun _ => uv (Ec.Wp.Y q)), ((some 54), fun _ => uv (fMul (Ec.Wp.Z p) (Ec.Wp.Z p) PR)), ((some 55), fun _ => .pointer (some ⟨b1, 9, none⟩)), ((some 56), fun _ => uv (Ec.Wp.Z p)), ((some 57), fun _ => uv (fMul (fMul (Ec.Wp.Z p) (Ec.Wp.Z p) PR) (Ec.Wp.Z p) PR)), ((some 58), fun _ => uv (fMul (Ec.Wp.Y q) (fMul (fMul (Ec.Wp.Z p) (Ec.Wp.Z p) PR) (Ec.Wp.Z p) PR) PR)), ((some 9), fun b => .pointer (some ⟨b.b, 0, none⟩)), ((some 10), fun b => .pointer (some ⟨b.b, 0, none⟩)), (none, fun _ => undef), (none, fun _ => undef)] (D2.Pre w.heap.size w (fun L g => [(true, (b3, Od Z13 51)), (true, (b2, Oc (wv q) 51)), (true, (b1, Oc (wv p) 51)), (true, ((G4 10).b, Oc (uv (fMul (Ec.Wp.Z p) (Ec.Wp.Z p) PR)) 24)), (true, ((G4 11).b, Oc (uv (fMul (Ec.Wp.Z q) (Ec.Wp.Z q) PR)) 24)), (true, ((G5 10).b, Oc (uv (fMul (Ec.Wp.X p) (fMul (Ec.Wp.Z q) (Ec.Wp.Z q) PR) PR)) 24)), (true, ((G5 11).b, Oc (uv (fMul (Ec.Wp.X q) (fMul (Ec.Wp.Z p) (Ec.Wp.Z p) PR) PR)) 24)), (L 16, (bif L 18 then ((g 16).b, Oc (uv (fMul (Ec.Wp.Y p) (fMul (fMul (Ec.Wp.Z q) (Ec.Wp.Z q) PR) (Ec.Wp.Z q) PR) PR)) 24) else ((g 16).b, Od Z4 24))), (L 17, (bif L 19 then ((g 17).b, Oc (uv (fMul (Ec.Wp.Y q) (fMul (fMul (Ec.Wp.Z p) (Ec.Wp.Z p) PR) (Ec.Wp.Z p) PR) PR)) 24) else ((g 17).b, Od Z4 24)))]) (fun L g => True)) kr kr kr kr ⟨D2.StE.of H5.drew _ kr, trivial⟩ ⟨?_, ?_, ?_, ?_, ?_, ?_, ?_, ?_, ?_, ?_, ?_, ?_, ?_, ?_, ?_, ?_, ?_, ?_, ?_, ?_, trivial⟩ ?_
      · exact D2.gv_val (fun _ _ _ h => h) (fun g w => kr)
      · exact D2.gv_val (fun _ _ _ h => h) (fun g w => kr)
      · exact D2.gv_loadp 24 (.tmp 44) 2 (fun g => b1) 4 4 (Value.cells (wv p)) (Value.cells (uv (Ec.Wp.Y p))) 51 (0, 0) (fun _ _ _ h => h) (fun g => kr) (fun g => kr) (fun L g hN => kr) kr (of_decide_eq_true kr) kr
      · exact D2.gv_load 24 (.tmp 6) 4 (fun g => (G4 11).b) (Value.cells (uv (fMul (Ec.Wp.Z q) (Ec.Wp.Z q) PR))) 24 (0, 0) (fun _ _ _ h => h) (fun g => kr) (fun g => kr) (fun L g hN => kr) kr
      · exact D2.gv_val (fun _ _ _ h => h) (fun g w => kr)
      · exact D2.gv_loadp 24 (.tmp 47) 1 (fun g => b2) 9 4 (Value.cells (wv q)) (Value.cells (uv (Ec.Wp.Z q))) 51 (0, 0) (fun _ _ _ h => h) (fun g => kr) (fun g => kr) (fun L g hN => kr) kr (of_decide_eq_true kr) kr
      · exact D2.gv_call 31 #[uv (fMul (Ec.Wp.Z q) (Ec.Wp.Z q) PR), uv (Ec.Wp.Z q)] (fun _ _ _ h => h) (pmul_fn (fMul (Ec.Wp.Z q) (Ec.Wp.Z q) PR) (Ec.Wp.Z q) (fMul_lt pr_ok) hq.Z) (fun g w => kr)
      · exact D2.gv_call 31 #[uv (Ec.Wp.Y p), uv (fMul (fMul (Ec.Wp.Z q) (Ec.Wp.Z q) PR) (Ec.Wp.Z q) PR)] (fun _ _ _ h => h) (pmul_fn (Ec.Wp.Y p) (fMul (fMul (Ec.Wp.Z q) (Ec.Wp.Z q) PR) (Ec.Wp.Z q) PR) hp.Y (fMul_lt pr_ok)) (fun g w => kr)
      · exact D2.gv_val (fun _ _ _ h => h) (fun g w => kr)
      · exact D2.gv_val (fun _ _ _ h => h) (fun g w => kr)
      · exact D2.gv_loadp 24 (.tmp 52) 1 (fun g => b2) 4 4 (Value.cells (wv q)) (Value.cells (uv (Ec.Wp.Y q))) 51 (0, 0) (fun _ _ _ h => h) (fun g => kr) (fun g => kr) (fun L g hN => kr) kr (of_decide_eq_true kr) kr
      · exact D2.gv_load 24 (.tmp 5) 3 (fun g => (G4 10).b) (Value.cells (uv (fMul (Ec.Wp.Z p) (Ec.Wp.Z p) PR))) 24 (0, 0) (fun _ _ _ h => h) (fun g => kr) (fun g => kr) (fun L g hN => kr) kr
      · exact D2.gv_val (fun _ _ _ h => h) (fun g w => kr)
      · exact D2.gv_loadp 24 (.tmp 55) 2 (fun g => b1) 9 4 (Value.cells (wv p)) (Value.cells (uv (Ec.Wp.Z p))) 51 (0, 0) (fun _ _ _ h => h) (fun g => kr) (fun g => kr) (fun L g hN => kr) kr (of_decide_eq_true kr) kr
      · exact D2.gv_call 31 #[uv (fMul (Ec.Wp.Z p) (Ec.Wp.Z p) PR), uv (Ec.Wp.Z p)] (fun _ _ _ h => h) (pmul_fn (fMul (Ec.Wp.Z p) (Ec.Wp.Z p) PR) (Ec.Wp.Z p) (fMul_lt pr_ok) hp.Z) (fun g w => kr)
      · exact D2.gv_call 31 #[uv (Ec.Wp.Y q), uv (fMul (fMul (Ec.Wp.Z p) (Ec.Wp.Z p) PR) (Ec.Wp.Z p) PR)] (fun _ _ _ h => h) (pmul_fn (Ec.Wp.Y q) (fMul (fMul (Ec.Wp.Z p) (Ec.Wp.Z p) PR) (Ec.Wp.Z p) PR) hq.Y (fMul_lt pr_ok)) (fun g w => kr)
      · exact D2.gv_alloc 24 (.agg Z4) 7 (fun g => kr) kr (fun L g b hN => (by have hL18 : L 18 = false := (hN.post 18 kr); exact D2.ent_set (x' := (true, (bif L 18 then (((D2.setN g 16 { b := b }) 16).b, Oc (uv (fMul (Ec.Wp.Y p) (fMul (fMul (Ec.Wp.Z q) (Ec.Wp.Z q) PR) (Ec.Wp.Z q) PR) PR)) 24) else (((D2.setN g 16 { b := b }) 16).b, Od Z4 24)))) kr (by simp only [hL18, cond_true, cond_false] <;> rfl))) (fun L g b hN hF => hF)
      · exact D2.gv_alloc 24 (.agg Z4) 8 (fun g => kr) kr (fun L g b hN => (by have hL19 : L 19 = false := (hN.post 19 kr); exact D2.ent_set (x' := (true, (bif L 19 then (((D2.setN g 17 { b := b }) 17).b, Oc (uv (fMul (Ec.Wp.Y q) (fMul (fMul (Ec.Wp.Z p) (Ec.Wp.Z p) PR) (Ec.Wp.Z p) PR) PR)) 24) else (((D2.setN g 17 { b := b }) 17).b, Od Z4 24)))) kr (by simp only [hL19, cond_true, cond_false] <;> rfl))) (fun L g b hN hF => hF)
      · exact D2.gv_store 7 24 (.tmp 9) (.tmp 50) (fun g => (g 16).b) (fun g => 0) Z4 (Value.cells (uv (fMul (Ec.Wp.Y p) (fMul (fMul (Ec.Wp.Z q) (Ec.Wp.Z q) PR) (Ec.Wp.Z q) PR) PR))) 24 (uv (fMul (Ec.Wp.Y p) (fMul (fMul (Ec.Wp.Z q) (Ec.Wp.Z q) PR) (Ec.Wp.Z q) PR) PR)) (fun g => kr) (fun g => kr) (fun g => kr) kr kr (fun g => (of_decide_eq_true kr)) (fun g => kr) (fun L g hN => ⟨(by have hL16 : L 16 = true := (hN.bef 16 kr); have hL18 : L 18 = false := hN.1; exact D2.ent_get' (p := L 16) (e := (bif L 18 then ((g 16).b, Oc (uv (fMul (Ec.Wp.Y p) (fMul (fMul (Ec.Wp.Z q) (Ec.Wp.Z q) PR) (Ec.Wp.Z q) PR) PR)) 24) else ((g 16).b, Od Z4 24))) kr (by exact hL16) (by simp only [hL16, hL18, cond_true, cond_false] <;> rfl)), (by have hL16 : L 16 = true := (hN.bef 16 kr); exact D2.ent_set (x' := (L 16, ((g 16).b, Oc (uv (fMul (Ec.Wp.Y p) (fMul (fMul (Ec.Wp.Z q) (Ec.Wp.Z q) PR) (Ec.Wp.Z q) PR) PR)) 24))) kr (by simp only [hL16, cond_true, cond_false] <;> rfl))⟩) (fun L g hN hF => hF)
      · exact D2.gv_store 8 24 (.tmp 10) (.tmp 58) (fun g => (g 17).b) (fun g => 0) Z4 (Value.cells (uv (fMul (Ec.Wp.Y q) (fMul (fMul (Ec.Wp.Z p) (Ec.Wp.Z p) PR) (Ec.Wp.Z p) PR) PR))) 24 (uv (fMul (Ec.Wp.Y q) (fMul (fMul (Ec.Wp.Z p) (Ec.Wp.Z p) PR) (Ec.Wp.Z p) PR) PR)) (fun g => kr) (fun g => kr) (fun g => kr) kr kr (fun g => (of_decide_eq_true kr)) (fun g => kr) (fun L g hN => ⟨(by have hL17 : L 17 = true := (hN.bef 17 kr); have hL19 : L 19 = false := hN.1; exact D2.ent_get' (p := L 17) (e := (bif L 19 then ((g 17).b, Oc (uv (fMul (Ec.Wp.Y q) (fMul (fMul (Ec.Wp.Z p) (Ec.Wp.Z p) PR) (Ec.Wp.Z p) PR) PR)) 24) else ((g 17).b, Od Z4 24))) kr (by exact hL17) (by simp only [hL17, hL19, cond_true, cond_false] <;> rfl)), (by have hL17 : L 17 = true := (hN.bef 17 kr); exact D2.ent_set (x' := (L 17, ((g 17).b, Oc (uv (fMul (Ec.Wp.Y q) (fMul (fMul (Ec.Wp.Z p) (Ec.Wp.Z p) PR) (Ec.Wp.Z p) PR) PR)) 24))) kr (by simp only [hL17, cond_true, cond_false] <;> rfl))⟩) (fun L g hN hF => hF)
      intro L0 G6 w6 hall HL; clear H5
      have H6 : St w.heap.size w w6 [(b3, Od Z13 51), (b2, Oc (wv q) 51), (b1, Oc (wv p) 51), ((G4 10).b, Oc (uv (fMul (Ec.Wp.Z p) (Ec.Wp.Z p) PR)) 24), ((G4 11).b, Oc (uv (fMul (Ec.Wp.Z q) (Ec.Wp.Z q) PR)) 24), ((G5 10).b, Oc (uv (fMul (Ec.Wp.X p) (fMul (Ec.Wp.Z q) (Ec.Wp.Z q) PR) PR)) 24), ((G5 11).b, Oc (uv (fMul (Ec.Wp.X q) (fMul (Ec.Wp.Z p) (Ec.Wp.Z p) PR) PR)) 24), ((G6 16).b, Oc (uv (fMul (Ec.Wp.Y p) (fMul (fMul (Ec.Wp.Z q) (Ec.Wp.Z q) PR) (Ec.Wp.Z q) PR) PR)) 24), ((G6 17).b, Oc (uv (fMul (Ec.Wp.Y q) (fMul (fMul (Ec.Wp.Z p) (Ec.Wp.Z p) PR) (Ec.Wp.Z p) PR) PR)) 24)] := by have e16 := hall 16 (Nat.le_of_ble_eq_true kr); have e17 := hall 17 (Nat.le_of_ble_eq_true kr); have e18 := hall 18 (Nat.le_of_ble_eq_true kr); have e19 := hall 19 (Nat.le_of_ble_eq_true kr); have hS := D2.StE.st HL.1; simp only [e16, e17, e18, e19, cond_true, D2.pres] at hS; exact hS
      clear HL hall
      refine D2.g_sdraw [0, 1, 2, 3, 4, 5, 6, 7, 8, 9] [((some 59), fun _ => uv (fMul (Ec.Wp.X q) (fMul (Ec.Wp.Z p) (Ec.Wp.Z p) PR) PR)), ((some 60), fun _ => uv (fMul (Ec.Wp.X p) (fMul (Ec.Wp.Z q) (Ec.Wp.Z q) PR) PR)), ((some 61), fun _ => uv (fSub (fMul (Ec.Wp.X q) (fMul (Ec.Wp.Z p) (Ec.Wp.Z p) PR) PR) (fMul (Ec.Wp.X p) (fMul (Ec.Wp.Z q) (Ec.Wp.Z q) PR) PR) PR)), ((some 62), fun _ => uv (fMul (Ec.Wp.Y q) (fMul (fMul (Ec.Wp.Z p) (Ec.Wp.Z p) PR) (Ec.Wp.Z p) PR) PR)), ((some 63), fun _ => uv (fMul (Ec.Wp.Y p) (fMul (fMul (Ec.Wp.Z q) (Ec.Wp.Z q) PR) (Ec.Wp.Z q) PR) PR)), ((some 64), fun _ => uv (fSub (fMul (Ec.Wp.Y q) (fMul (fMul (Ec.Wp.Z p) (Ec.Wp.Z p) PR) (Ec.Wp.Z p) PR) PR) (fMul (Ec.Wp.Y p) (fMul (fMul (Ec.Wp.Z q) (Ec.Wp.Z q) PR) (Ec.Wp.Z q) PR) PR) PR)), ((some 11), fun b => .pointer (some ⟨b.b, 0, none⟩)), ((some 12), fun b => .pointer (some ⟨b.b, 0, none⟩)), (none, fun _ => undef), (none, fun _ => undef)] (D2.Pre w.heap.size w (fun L g => [(true, (b3, Od Z13 51)), (true, (b2, Oc (wv q) 51)), (true, (b1, Oc (wv p) 51)), (true, ((G4 10).b, Oc (uv (fMul (Ec.Wp.Z p) (Ec.Wp.Z p) PR)) 24)), (true, ((G4 11).b, Oc (uv (fMul (Ec.Wp.Z q) (Ec.Wp.Z q) PR)) 24)), (true, ((G5 10).b, Oc (uv (fMul (Ec.Wp.X p) (fMul (Ec.Wp.Z q) (Ec.Wp.Z q) PR) PR)) 24)), (true, ((G5 11).b, Oc (uv (fMul (Ec.Wp.X q) (fMul (Ec.Wp.Z p) (Ec.Wp.Z p) PR) PR)) 24)), (true, ((G6 16).b, Oc (uv (fMul (Ec.Wp.Y p) (fMul (fMul (Ec.Wp.Z q) (Ec.Wp.Z q) PR) (Ec.Wp.Z q) PR) PR)) 24)), (true, ((G6 17).b, Oc (uv (fMul (Ec.Wp.Y q) (fMul (fMul (Ec.Wp.Z p) (Ec.Wp.Z p) PR) (Ec.Wp.Z p) PR) PR)) 24)), (L 6, (bif L 8 then ((g 6).b, Oc (uv (fSub (fMul (Ec.Wp.X q) (fMul (Ec.Wp.Z p) (Ec.Wp.Z p) PR) PR) (fMul (Ec.Wp.X p) (fMul (Ec.Wp.Z q) (Ec.Wp.Z q) PR) PR) PR)) 24) else ((g 6).b, Od Z4 24))), (L 7, (bif L 9 then ((g 7).b, Oc (uv (fSub (fMul (Ec.Wp.Y q) (fMul (fMul (Ec.Wp.Z p) (Ec.Wp.Z p) PR) (Ec.Wp.Z p) PR) PR) (fMul (Ec.Wp.Y p) (fMul (fMul (Ec.Wp.Z q) (Ec.Wp.Z q) PR) (Ec.Wp.Z q) PR) PR) PR)) 24) else ((g 7).b, Od Z4 24)))]) (fun L g => True)) kr kr kr kr ⟨D2.StE.of H6.drew _ kr, trivial⟩ ⟨?_, ?_, ?_, ?_, ?_, ?_, ?_, ?_, ?_, ?_, trivial⟩ ?_
      · exact D2.gv_load 24 (.tmp 8) 6 (fun g => (G5 11).b) (Value.cells (uv (fMul (Ec.Wp.X q) (fMul (Ec.Wp.Z p) (Ec.Wp.Z p) PR) PR))) 24 (0, 0) (fun _ _ _ h => h) (fun g => kr) (fun g => kr) (fun L g hN => kr) kr
      · exact D2.gv_load 24 (.tmp 7) 5 (fun g => (G5 10).b) (Value.cells (uv (fMul (Ec.Wp.X p) (fMul (Ec.Wp.Z q) (Ec.Wp.Z q) PR) PR))) 24 (0, 0) (fun _ _ _ h => h) (fun g => kr) (fun g => kr) (fun L g hN => kr) kr
      · exact D2.gv_call 38 #[uv (fMul (Ec.Wp.X q) (fMul (Ec.Wp.Z p) (Ec.Wp.Z p) PR) PR), uv (fMul (Ec.Wp.X p) (fMul (Ec.Wp.Z q) (Ec.Wp.Z q) PR) PR)] (fun _ _ _ h => h) (pless_fn (fMul (Ec.Wp.X q) (fMul (Ec.Wp.Z p) (Ec.Wp.Z p) PR) PR) (fMul (Ec.Wp.X p) (fMul (Ec.Wp.Z q) (Ec.Wp.Z q) PR) PR) (fMul_lt pr_ok) (fMul_lt pr_ok)) (fun g w => kr)
      · exact D2.gv_load 24 (.tmp 10) 8 (fun g => (G6 17).b) (Value.cells (uv (fMul (Ec.Wp.Y q) (fMul (fMul (Ec.Wp.Z p) (Ec.Wp.Z p) PR) (Ec.Wp.Z p) PR) PR))) 24 (0, 0) (fun _ _ _ h => h) (fun g => kr) (fun g => kr) (fun L g hN => kr) kr
      · exact D2.gv_load 24 (.tmp 9) 7 (fun g => (G6 16).b) (Value.cells (uv (fMul (Ec.Wp.Y p) (fMul (fMul (Ec.Wp.Z q) (Ec.Wp.Z q) PR) (Ec.Wp.Z q) PR) PR))) 24 (0, 0) (fun _ _ _ h => h) (fun g => kr) (fun g => kr) (fun L g hN => kr) kr
      · exact D2.gv_call 38 #[uv (fMul (Ec.Wp.Y q) (fMul (fMul (Ec.Wp.Z p) (Ec.Wp.Z p) PR) (Ec.Wp.Z p) PR) PR), uv (fMul (Ec.Wp.Y p) (fMul (fMul (Ec.Wp.Z q) (Ec.Wp.Z q) PR) (Ec.Wp.Z q) PR) PR)] (fun _ _ _ h => h) (pless_fn (fMul (Ec.Wp.Y q) (fMul (fMul (Ec.Wp.Z p) (Ec.Wp.Z p) PR) (Ec.Wp.Z p) PR) PR) (fMul (Ec.Wp.Y p) (fMul (fMul (Ec.Wp.Z q) (Ec.Wp.Z q) PR) (Ec.Wp.Z q) PR) PR) (fMul_lt pr_ok) (fMul_lt pr_ok)) (fun g w => kr)
      · exact D2.gv_alloc 24 (.agg Z4) 9 (fun g => kr) kr (fun L g b hN => (by have hL8 : L 8 = false := (hN.post 8 kr); exact D2.ent_set (x' := (true, (bif L 8 then (((D2.setN g 6 { b := b }) 6).b, Oc (uv (fSub (fMul (Ec.Wp.X q) (fMul (Ec.Wp.Z p) (Ec.Wp.Z p) PR) PR) (fMul (Ec.Wp.X p) (fMul (Ec.Wp.Z q) (Ec.Wp.Z q) PR) PR) PR)) 24) else (((D2.setN g 6 { b := b }) 6).b, Od Z4 24)))) kr (by simp only [hL8, cond_true, cond_false] <;> rfl))) (fun L g b hN hF => hF)
      · exact D2.gv_alloc 24 (.agg Z4) 10 (fun g => kr) kr (fun L g b hN => (by have hL9 : L 9 = false := (hN.post 9 kr); exact D2.ent_set (x' := (true, (bif L 9 then (((D2.setN g 7 { b := b }) 7).b, Oc (uv (fSub (fMul (Ec.Wp.Y q) (fMul (fMul (Ec.Wp.Z p) (Ec.Wp.Z p) PR) (Ec.Wp.Z p) PR) PR) (fMul (Ec.Wp.Y p) (fMul (fMul (Ec.Wp.Z q) (Ec.Wp.Z q) PR) (Ec.Wp.Z q) PR) PR) PR)) 24) else (((D2.setN g 7 { b := b }) 7).b, Od Z4 24)))) kr (by simp only [hL9, cond_true, cond_false] <;> rfl))) (fun L g b hN hF => hF)
      · exact D2.gv_store 9 24 (.tmp 11) (.tmp 61) (fun g => (g 6).b) (fun g => 0) Z4 (Value.cells (uv (fSub (fMul (Ec.Wp.X q) (fMul (Ec.Wp.Z p) (Ec.Wp.Z p) PR) PR) (fMul (Ec.Wp.X p) (fMul (Ec.Wp.Z q) (Ec.Wp.Z q) PR) PR) PR))) 24 (uv (fSub (fMul (Ec.Wp.X q) (fMul (Ec.Wp.Z p) (Ec.Wp.Z p) PR) PR) (fMul (Ec.Wp.X p) (fMul (Ec.Wp.Z q) (Ec.Wp.Z q) PR) PR) PR)) (fun g => kr) (fun g => kr) (fun g => kr) kr kr (fun g => (of_decide_eq_true kr)) (fun g => kr) (fun L g hN => ⟨(by have hL6 : L 6 = true := (hN.bef 6 kr); have hL8 : L 8 = false := hN.1; exact D2.ent_get' (p := L 6) (e := (bif L 8 then ((g 6).b, Oc (uv (fSub (fMul (Ec.Wp.X q) (fMul (Ec.Wp.Z p) (Ec.Wp.Z p) PR) PR) (fMul (Ec.Wp.X p) (fMul (Ec.Wp.Z q) (Ec.Wp.Z q) PR) PR) PR)) 24) else ((g 6).b, Od Z4 24))) kr (by exact hL6) (by simp only [hL6, hL8, cond_true, cond_false] <;> rfl)), (by have hL6 : L 6 = true := (hN.bef 6 kr); exact D2.ent_set (x' := (L 6, ((g 6).b, Oc (uv (fSub (fMul (Ec.Wp.X q) (fMul (Ec.Wp.Z p) (Ec.Wp.Z p) PR) PR) (fMul (Ec.Wp.X p) (fMul (Ec.Wp.Z q) (Ec.Wp.Z q) PR) PR) PR)) 24))) kr (by simp only [hL6, cond_true, cond_false] <;> rfl))⟩) (fun L g hN hF => hF)
      · exact D2.gv_store 10 24 (.tmp 12) (.tmp 64) (fun g => (g 7).b) (fun g => 0) Z4 (Value.cells (uv (fSub (fMul (Ec.Wp.Y q) (fMul (fMul (Ec.Wp.Z p) (Ec.Wp.Z p) PR) (Ec.Wp.Z p) PR) PR) (fMul (Ec.Wp.Y p) (fMul (fMul (Ec.Wp.Z q) (Ec.Wp.Z q) PR) (Ec.Wp.Z q) PR) PR) PR))) 24 (uv (fSub (fMul (Ec.Wp.Y q) (fMul (fMul (Ec.Wp.Z p) (Ec.Wp.Z p) PR) (Ec.Wp.Z p) PR) PR) (fMul (Ec.Wp.Y p) (fMul (fMul (Ec.Wp.Z q) (Ec.Wp.Z q) PR) (Ec.Wp.Z q) PR) PR) PR)) (fun g => kr) (fun g => kr) (fun g => kr) kr kr (fun g => (of_decide_eq_true kr)) (fun g => kr) (fun L g hN => ⟨(by have hL7 : L 7 = true := (hN.bef 7 kr); have hL9 : L 9 = false := hN.1; exact D2.ent_get' (p := L 7) (e := (bif L 9 then ((g 7).b, Oc (uv (fSub (fMul (Ec.Wp.Y q) (fMul (fMul (Ec.Wp.Z p) (Ec.Wp.Z p) PR) (Ec.Wp.Z p) PR) PR) (fMul (Ec.Wp.Y p) (fMul (fMul (Ec.Wp.Z q) (Ec.Wp.Z q) PR) (Ec.Wp.Z q) PR) PR) PR)) 24) else ((g 7).b, Od Z4 24))) kr (by exact hL7) (by simp only [hL7, hL9, cond_true, cond_false] <;> rfl)), (by have hL7 : L 7 = true := (hN.bef 7 kr); exact D2.ent_set (x' := (L 7, ((g 7).b, Oc (uv (fSub (fMul (Ec.Wp.Y q) (fMul (fMul (Ec.Wp.Z p) (Ec.Wp.Z p) PR) (Ec.Wp.Z p) PR) PR) (fMul (Ec.Wp.Y p) (fMul (fMul (Ec.Wp.Z q) (Ec.Wp.Z q) PR) (Ec.Wp.Z q) PR) PR) PR)) 24))) kr (by simp only [hL7, cond_true, cond_false] <;> rfl))⟩) (fun L g hN hF => hF)
      intro L0 G7 w7 hall HL; clear H6
      have H7 : St w.heap.size w w7 [(b3, Od Z13 51), (b2, Oc (wv q) 51), (b1, Oc (wv p) 51), ((G4 10).b, Oc (uv (fMul (Ec.Wp.Z p) (Ec.Wp.Z p) PR)) 24), ((G4 11).b, Oc (uv (fMul (Ec.Wp.Z q) (Ec.Wp.Z q) PR)) 24), ((G5 10).b, Oc (uv (fMul (Ec.Wp.X p) (fMul (Ec.Wp.Z q) (Ec.Wp.Z q) PR) PR)) 24), ((G5 11).b, Oc (uv (fMul (Ec.Wp.X q) (fMul (Ec.Wp.Z p) (Ec.Wp.Z p) PR) PR)) 24), ((G6 16).b, Oc (uv (fMul (Ec.Wp.Y p) (fMul (fMul (Ec.Wp.Z q) (Ec.Wp.Z q) PR) (Ec.Wp.Z q) PR) PR)) 24), ((G6 17).b, Oc (uv (fMul (Ec.Wp.Y q) (fMul (fMul (Ec.Wp.Z p) (Ec.Wp.Z p) PR) (Ec.Wp.Z p) PR) PR)) 24), ((G7 6).b, Oc (uv (fSub (fMul (Ec.Wp.X q) (fMul (Ec.Wp.Z p) (Ec.Wp.Z p) PR) PR) (fMul (Ec.Wp.X p) (fMul (Ec.Wp.Z q) (Ec.Wp.Z q) PR) PR) PR)) 24), ((G7 7).b, Oc (uv (fSub (fMul (Ec.Wp.Y q) (fMul (fMul (Ec.Wp.Z p) (Ec.Wp.Z p) PR) (Ec.Wp.Z p) PR) PR) (fMul (Ec.Wp.Y p) (fMul (fMul (Ec.Wp.Z q) (Ec.Wp.Z q) PR) (Ec.Wp.Z q) PR) PR) PR)) 24)] := by have e6 := hall 6 (Nat.le_of_ble_eq_true kr); have e7 := hall 7 (Nat.le_of_ble_eq_true kr); have e8 := hall 8 (Nat.le_of_ble_eq_true kr); have e9 := hall 9 (Nat.le_of_ble_eq_true kr); have hS := D2.StE.st HL.1; simp only [e6, e7, e8, e9, cond_true, D2.pres] at hS; exact hS
      clear HL hall
      refine g_seq kr ?_
      refine g_sreg [0, 1, 2] kr kr ?_
      refine s_load H7 (some 65) 24 (.tmp 11) 9 (G7 6).b (Value.cells (uv (fSub (fMul (Ec.Wp.X q) (fMul (Ec.Wp.Z p) (Ec.Wp.Z p) PR) PR) (fMul (Ec.Wp.X p) (fMul (Ec.Wp.Z q) (Ec.Wp.Z q) PR) PR) PR))) 24 (0, 0) kr kr kr kr kr ?_
      refine s_val (some 66) (.agg Z4) (fun w => kr) kr ?_
      by_cases he1 : ((fSub (fMul (Ec.Wp.X q) (fMul (Ec.Wp.Z p) (Ec.Wp.Z p) PR) PR) (fMul (Ec.Wp.X p) (fMul (Ec.Wp.Z q) (Ec.Wp.Z q) PR) PR) PR) : Nat) = 0
      · skip
        refine s_opE (some 67) _ (.bool (!decide ((fSub (fMul (Ec.Wp.X q) (fMul (Ec.Wp.Z p) (Ec.Wp.Z p) PR) PR) (fMul (Ec.Wp.X p) (fMul (Ec.Wp.Z q) (Ec.Wp.Z q) PR) PR) PR) = 0))) (.bool false) kr (fun o w ho => neU_run (x := (.tmp 65)) (y := (.tmp 66)) (fSub (fMul (Ec.Wp.X q) (fMul (Ec.Wp.Z p) (Ec.Wp.Z p) PR) PR) (fMul (Ec.Wp.X p) (fMul (Ec.Wp.Z q) (Ec.Wp.Z q) PR) PR) PR) 0 (fSub_lt pr_ok) (by unfold big; omega) w ho kr kr) (by rw [decide_eq_true he1] <;> rfl) kr ?_
        refine s_nil ?_
        refine g_cond_f kr kr ?_
        refine g_skip kr ?_
        show WP _ _ _ _ _ _
        refine g_seq kr ?_
        refine g_sreg [0, 1, 2] kr kr ?_
        refine s_load H7 (some 93) 24 (.tmp 12) 10 (G7 7).b (Value.cells (uv (fSub (fMul (Ec.Wp.Y q) (fMul (fMul (Ec.Wp.Z p) (Ec.Wp.Z p) PR) (Ec.Wp.Z p) PR) PR) (fMul (Ec.Wp.Y p) (fMul (fMul (Ec.Wp.Z q) (Ec.Wp.Z q) PR) (Ec.Wp.Z q) PR) PR) PR))) 24 (0, 0) kr kr kr kr kr ?_
        refine s_val (some 94) (.agg Z4) (fun w => kr) kr ?_
        by_cases he2 : ((fSub (fMul (Ec.Wp.Y q) (fMul (fMul (Ec.Wp.Z p) (Ec.Wp.Z p) PR) (Ec.Wp.Z p) PR) PR) (fMul (Ec.Wp.Y p) (fMul (fMul (Ec.Wp.Z q) (Ec.Wp.Z q) PR) (Ec.Wp.Z q) PR) PR) PR) : Nat) = 0
        · skip
          refine s_opE (some 95) _ (.bool (!decide ((fSub (fMul (Ec.Wp.Y q) (fMul (fMul (Ec.Wp.Z p) (Ec.Wp.Z p) PR) (Ec.Wp.Z p) PR) PR) (fMul (Ec.Wp.Y p) (fMul (fMul (Ec.Wp.Z q) (Ec.Wp.Z q) PR) (Ec.Wp.Z q) PR) PR) PR) = 0))) (.bool false) kr (fun o w ho => neU_run (x := (.tmp 93)) (y := (.tmp 94)) (fSub (fMul (Ec.Wp.Y q) (fMul (fMul (Ec.Wp.Z p) (Ec.Wp.Z p) PR) (Ec.Wp.Z p) PR) PR) (fMul (Ec.Wp.Y p) (fMul (fMul (Ec.Wp.Z q) (Ec.Wp.Z q) PR) (Ec.Wp.Z q) PR) PR) PR) 0 (fSub_lt pr_ok) (by unfold big; omega) w ho kr kr) (by rw [decide_eq_true he2] <;> rfl) kr ?_
          refine s_nil ?_
          refine g_cond_f kr kr ?_
          refine g_skip kr ?_
          show WP _ _ _ _ _ _
          refine g_sreg [0, 1, 2] kr kr ?_
          refine s_load H7 (some 97) 51 (.tmp 2) 2 b1 (Value.cells (wv p)) 51 (0, 0) kr kr kr kr kr ?_
          refine s_call H7 (some 98) 56 #[wv p] (wv (Ec.dblW p)) (dbl_fn p hp) (fun w => kr) kr ?_
          intro w8 H8; clear H7
          refine s_store H8 0 [(b3, Oc (wv (Ec.dblW p)) 51), (b2, Oc (wv q) 51), (b1, Oc (wv p) 51), ((G4 10).b, Oc (uv (fMul (Ec.Wp.Z p) (Ec.Wp.Z p) PR)) 24), ((G4 11).b, Oc (uv (fMul (Ec.Wp.Z q) (Ec.Wp.Z q) PR)) 24), ((G5 10).b, Oc (uv (fMul (Ec.Wp.X p) (fMul (Ec.Wp.Z q) (Ec.Wp.Z q) PR) PR)) 24), ((G5 11).b, Oc (uv (fMul (Ec.Wp.X q) (fMul (Ec.Wp.Z p) (Ec.Wp.Z p) PR) PR)) 24), ((G6 16).b, Oc (uv (fMul (Ec.Wp.Y p) (fMul (fMul (Ec.Wp.Z q) (Ec.Wp.Z q) PR) (Ec.Wp.Z q) PR) PR)) 24), ((G6 17).b, Oc (uv (fMul (Ec.Wp.Y q) (fMul (fMul (Ec.Wp.Z p) (Ec.Wp.Z p) PR) (Ec.Wp.Z p) PR) PR)) 24), ((G7 6).b, Oc (uv (fSub (fMul (Ec.Wp.X q) (fMul (Ec.Wp.Z p) (Ec.Wp.Z p) PR) PR) (fMul (Ec.Wp.X p) (fMul (Ec.Wp.Z q) (Ec.Wp.Z q) PR) PR) PR)) 24), ((G7 7).b, Oc (uv (fSub (fMul (Ec.Wp.Y q) (fMul (fMul (Ec.Wp.Z p) (Ec.Wp.Z p) PR) (Ec.Wp.Z p) PR) PR) (fMul (Ec.Wp.Y p) (fMul (fMul (Ec.Wp.Z q) (Ec.Wp.Z q) PR) (Ec.Wp.Z q) PR) PR) PR)) 24)] 51 (.tmp 4) (.tmp 98) b3 (0) Z13 (Value.cells (wv (Ec.dblW p))) 51 (wv (Ec.dblW p)) kr kr kr kr kr kr (of_decide_eq_true kr) kr kr ?_
          intro w9 H9; clear H8
          refine s_nil ?_
          refine g_ret kr ?_
          show ∃ vs, Res _ _ _ _ vs ∧ _
          refine ⟨[wv (Ec.dblW p)], (.agg (b := b3) (Value.cells (wv (Ec.dblW p))) 51 (0, 0) kr (H9.get 0 kr) kr .nil), ?_, H9.below⟩
          exact congrArg wv (Ec.plusW_5 hb1 hb2 he1 he2).symm
        · skip
          refine s_opE (some 95) _ (.bool (!decide ((fSub (fMul (Ec.Wp.Y q) (fMul (fMul (Ec.Wp.Z p) (Ec.Wp.Z p) PR) (Ec.Wp.Z p) PR) PR) (fMul (Ec.Wp.Y p) (fMul (fMul (Ec.Wp.Z q) (Ec.Wp.Z q) PR) (Ec.Wp.Z q) PR) PR) PR) = 0))) (.bool true) kr (fun o w ho => neU_run (x := (.tmp 93)) (y := (.tmp 94)) (fSub (fMul (Ec.Wp.Y q) (fMul (fMul (Ec.Wp.Z p) (Ec.Wp.Z p) PR) (Ec.Wp.Z p) PR) PR) (fMul (Ec.Wp.Y p) (fMul (fMul (Ec.Wp.Z q) (Ec.Wp.Z q) PR) (Ec.Wp.Z q) PR) PR) PR) 0 (fSub_lt pr_ok) (by unfold big; omega) w ho kr kr) (by rw [decide_eq_false he2] <;> rfl) kr ?_
          refine s_nil ?_
          refine g_cond_t kr kr ?_
          refine g_sreg [0, 1] kr kr ?_
          refine s_call H7 (some 96) 29 #[] (wv Ec.zeroW) pzero_fn (fun w => kr) kr ?_
          intro w10 H10; clear H7
          refine s_store H10 0 [(b3, Oc (wv Ec.zeroW) 51), (b2, Oc (wv q) 51), (b1, Oc (wv p) 51), ((G4 10).b, Oc (uv (fMul (Ec.Wp.Z p) (Ec.Wp.Z p) PR)) 24), ((G4 11).b, Oc (uv (fMul (Ec.Wp.Z q) (Ec.Wp.Z q) PR)) 24), ((G5 10).b, Oc (uv (fMul (Ec.Wp.X p) (fMul (Ec.Wp.Z q) (Ec.Wp.Z q) PR) PR)) 24), ((G5 11).b, Oc (uv (fMul (Ec.Wp.X q) (fMul (Ec.Wp.Z p) (Ec.Wp.Z p) PR) PR)) 24), ((G6 16).b, Oc (uv (fMul (Ec.Wp.Y p) (fMul (fMul (Ec.Wp.Z q) (Ec.Wp.Z q) PR) (Ec.Wp.Z q) PR) PR)) 24), ((G6 17).b, Oc (uv (fMul (Ec.Wp.Y q) (fMul (fMul (Ec.Wp.Z p) (Ec.Wp.Z p) PR) (Ec.Wp.Z p) PR) PR)) 24), ((G7 6).b, Oc (uv (fSub (fMul (Ec.Wp.X q) (fMul (Ec.Wp.Z p) (Ec.Wp.Z p) PR) PR) (fMul (Ec.Wp.X p) (fMul (Ec.Wp.Z q) (Ec.Wp.Z q) PR) PR) PR)) 24), ((G7 7).b, Oc (uv (fSub (fMul (Ec.Wp.Y q) (fMul (fMul (Ec.Wp.Z p) (Ec.Wp.Z p) PR) (Ec.Wp.Z p) PR) PR) (fMul (Ec.Wp.Y p) (fMul (fMul (Ec.Wp.Z q) (Ec.Wp.Z q) PR) (Ec.Wp.Z q) PR) PR) PR)) 24)] 51 (.tmp 4) (.tmp 96) b3 (0) Z13 (Value.cells (wv Ec.zeroW)) 51 (wv Ec.zeroW) kr kr kr kr kr kr (of_decide_eq_true kr) kr kr ?_
          intro w11 H11; clear H10
          refine s_nil ?_
          refine g_ret kr ?_
          show ∃ vs, Res _ _ _ _ vs ∧ _
          refine ⟨[wv Ec.zeroW], (.agg (b := b3) (Value.cells (wv Ec.zeroW)) 51 (0, 0) kr (H11.get 0 kr) kr .nil), ?_, H11.below⟩
          exact congrArg wv (Ec.plusW_4 hb1 hb2 he1 he2).symm
      · skip
        refine s_opE (some 67) _ (.bool (!decide ((fSub (fMul (Ec.Wp.X q) (fMul (Ec.Wp.Z p) (Ec.Wp.Z p) PR) PR) (fMul (Ec.Wp.X p) (fMul (Ec.Wp.Z q) (Ec.Wp.Z q) PR) PR) PR) = 0))) (.bool true) kr (fun o w ho => neU_run (x := (.tmp 65)) (y := (.tmp 66)) (fSub (fMul (Ec.Wp.X q) (fMul (Ec.Wp.Z p) (Ec.Wp.Z p) PR) PR) (fMul (Ec.Wp.X p) (fMul (Ec.Wp.Z q) (Ec.Wp.Z q) PR) PR) PR) 0 (fSub_lt pr_ok) (by unfold big; omega) w ho kr kr) (by rw [decide_eq_false he1] <;> rfl) kr ?_
        refine s_nil ?_
        refine g_cond_t kr kr ?_
        refine g_sreg [0, 1, 2, 3, 4] kr kr ?_
        refine s_load H7 (some 68) 24 (.tmp 11) 9 (G7 6).b (Value.cells (uv (fSub (fMul (Ec.Wp.X q) (fMul (Ec.Wp.Z p) (Ec.Wp.Z p) PR) PR) (fMul (Ec.Wp.X p) (fMul (Ec.Wp.Z q) (Ec.Wp.Z q) PR) PR) PR))) 24 (0, 0) kr kr kr kr kr ?_
        refine s_load H7 (some 69) 24 (.tmp 11) 9 (G7 6).b (Value.cells (uv (fSub (fMul (Ec.Wp.X q) (fMul (Ec.Wp.Z p) (Ec.Wp.Z p) PR) PR) (fMul (Ec.Wp.X p) (fMul (Ec.Wp.Z q) (Ec.Wp.Z q) PR) PR) PR))) 24 (0, 0) kr kr kr kr kr ?_
        refine s_call H7 (some 70) 31 #[uv (fSub (fMul (Ec.Wp.X q) (fMul (Ec.Wp.Z p) (Ec.Wp.Z p) PR) PR) (fMul (Ec.Wp.X p) (fMul (Ec.Wp.Z q) (Ec.Wp.Z q) PR) PR) PR), uv (fSub (fMul (Ec.Wp.X q) (fMul (Ec.Wp.Z p) (Ec.Wp.Z p) PR) PR) (fMul (Ec.Wp.X p) (fMul (Ec.Wp.Z q) (Ec.Wp.Z q) PR) PR) PR)] (uv (fMul (fSub (fMul (Ec.Wp.X q) (fMul (Ec.Wp.Z p) (Ec.Wp.Z p) PR) PR) (fMul (Ec.Wp.X p) (fMul (Ec.Wp.Z q) (Ec.Wp.Z q) PR) PR) PR) (fSub (fMul (Ec.Wp.X q) (fMul (Ec.Wp.Z p) (Ec.Wp.Z p) PR) PR) (fMul (Ec.Wp.X p) (fMul (Ec.Wp.Z q) (Ec.Wp.Z q) PR) PR) PR) PR)) (pmul_fn (fSub (fMul (Ec.Wp.X q) (fMul (Ec.Wp.Z p) (Ec.Wp.Z p) PR) PR) (fMul (Ec.Wp.X p) (fMul (Ec.Wp.Z q) (Ec.Wp.Z q) PR) PR) PR) (fSub (fMul (Ec.Wp.X q) (fMul (Ec.Wp.Z p) (Ec.Wp.Z p) PR) PR) (fMul (Ec.Wp.X p) (fMul (Ec.Wp.Z q) (Ec.Wp.Z q) PR) PR) PR) (fSub_lt pr_ok) (fSub_lt pr_ok)) (fun w => kr) kr ?_
        intro w12 H12; clear H7
        refine s_alloc H12 (some 13) 24 (.agg Z4) kr kr kr ?_
        intro b4 w13 H13; clear H12
        refine s_store H13 0 [(b4, Oc (uv (fMul (fSub (fMul (Ec.Wp.X q) (fMul (Ec.Wp.Z p) (Ec.Wp.Z p) PR) PR) (fMul (Ec.Wp.X p) (fMul (Ec.Wp.Z q) (Ec.Wp.Z q) PR) PR) PR) (fSub (fMul (Ec.Wp.X q) (fMul (Ec.Wp.Z p) (Ec.Wp.Z p) PR) PR) (fMul (Ec.Wp.X p) (fMul (Ec.Wp.Z q) (Ec.Wp.Z q) PR) PR) PR) PR)) 24), (b3, Od Z13 51), (b2, Oc (wv q) 51), (b1, Oc (wv p) 51), ((G4 10).b, Oc (uv (fMul (Ec.Wp.Z p) (Ec.Wp.Z p) PR)) 24), ((G4 11).b, Oc (uv (fMul (Ec.Wp.Z q) (Ec.Wp.Z q) PR)) 24), ((G5 10).b, Oc (uv (fMul (Ec.Wp.X p) (fMul (Ec.Wp.Z q) (Ec.Wp.Z q) PR) PR)) 24), ((G5 11).b, Oc (uv (fMul (Ec.Wp.X q) (fMul (Ec.Wp.Z p) (Ec.Wp.Z p) PR) PR)) 24), ((G6 16).b, Oc (uv (fMul (Ec.Wp.Y p) (fMul (fMul (Ec.Wp.Z q) (Ec.Wp.Z q) PR) (Ec.Wp.Z q) PR) PR)) 24), ((G6 17).b, Oc (uv (fMul (Ec.Wp.Y q) (fMul (fMul (Ec.Wp.Z p) (Ec.Wp.Z p) PR) (Ec.Wp.Z p) PR) PR)) 24), ((G7 6).b, Oc (uv (fSub (fMul (Ec.Wp.X q) (fMul (Ec.Wp.Z p) (Ec.Wp.Z p) PR) PR) (fMul (Ec.Wp.X p) (fMul (Ec.Wp.Z q) (Ec.Wp.Z q) PR) PR) PR)) 24), ((G7 7).b, Oc (uv (fSub (fMul (Ec.Wp.Y q) (fMul (fMul (Ec.Wp.Z p) (Ec.Wp.Z p) PR) (Ec.Wp.Z p) PR) PR) (fMul (Ec.Wp.Y p) (fMul (fMul (Ec.Wp.Z q) (Ec.Wp.Z q) PR) (Ec.Wp.Z q) PR) PR) PR)) 24)] 24 (.tmp 13) (.tmp 70) b4 (0) Z4 (Value.cells (uv (fMul (fSub (fMul (Ec.Wp.X q) (fMul (Ec.Wp.Z p) (Ec.Wp.Z p) PR) PR) (fMul (Ec.Wp.X p) (fMul (Ec.Wp.Z q) (Ec.Wp.Z q) PR) PR) PR) (fSub (fMul (Ec.Wp.X q) (fMul (Ec.Wp.Z p) (Ec.Wp.Z p) PR) PR) (fMul (Ec.Wp.X p) (fMul (Ec.Wp.Z q) (Ec.Wp.Z q) PR) PR) PR) PR))) 24 (uv (fMul (fSub (fMul (Ec.Wp.X q) (fMul (Ec.Wp.Z p) (Ec.Wp.Z p) PR) PR) (fMul (Ec.Wp.X p) (fMul (Ec.Wp.Z q) (Ec.Wp.Z q) PR) PR) PR) (fSub (fMul (Ec.Wp.X q) (fMul (Ec.Wp.Z p) (Ec.Wp.Z p) PR) PR) (fMul (Ec.Wp.X p) (fMul (Ec.Wp.Z q) (Ec.Wp.Z q) PR) PR) PR) PR)) kr kr kr kr kr kr (of_decide_eq_true kr) kr kr ?_
        intro w14 H14; clear H13
        refine s_nil ?_
        refine g_sreg [0, 1, 2, 3, 4] kr kr ?_
        refine s_load H14 (some 71) 24 (.tmp 13) 0 b4 (Value.cells (uv (fMul (fSub (fMul (Ec.Wp.X q) (fMul (Ec.Wp.Z p) (Ec.Wp.Z p) PR) PR) (fMul (Ec.Wp.X p) (fMul (Ec.Wp.Z q) (Ec.Wp.Z q) PR) PR) PR) (fSub (fMul (Ec.Wp.X q) (fMul (Ec.Wp.Z p) (Ec.Wp.Z p) PR) PR) (fMul (Ec.Wp.X p) (fMul (Ec.Wp.Z q) (Ec.Wp.Z q) PR) PR) PR) PR))) 24 (0, 0) kr kr kr kr kr ?_
        refine s_load H14 (some 72) 24 (.tmp 11) 10 (G7 6).b (Value.cells (uv (fSub (fMul (Ec.Wp.X q) (fMul (Ec.Wp.Z p) (Ec.Wp.Z p) PR) PR) (fMul (Ec.Wp.X p) (fMul (Ec.Wp.Z q) (Ec.Wp.Z q) PR) PR) PR))) 24 (0, 0) kr kr kr kr kr ?_
        refine s_call H14 (some 73) 31 #[uv (fMul (fSub (fMul (Ec.Wp.X q) (fMul (Ec.Wp.Z p) (Ec.Wp.Z p) PR) PR) (fMul (Ec.Wp.X p) (fMul (Ec.Wp.Z q) (Ec.Wp.Z q) PR) PR) PR) (fSub (fMul (Ec.Wp.X q) (fMul (Ec.Wp.Z p) (Ec.Wp.Z p) PR) PR) (fMul (Ec.Wp.X p) (fMul (Ec.Wp.Z q) (Ec.Wp.Z q) PR) PR) PR) PR), uv (fSub (fMul (Ec.Wp.X q) (fMul (Ec.Wp.Z p) (Ec.Wp.Z p) PR) PR) (fMul (Ec.Wp.X p) (fMul (Ec.Wp.Z q) (Ec.Wp.Z q) PR) PR) PR)] (uv (fMul (fMul (fSub (fMul (Ec.Wp.X q) (fMul (Ec.Wp.Z p) (Ec.Wp.Z p) PR) PR) (fMul (Ec.Wp.X p) (fMul (Ec.Wp.Z q) (Ec.Wp.Z q) PR) PR) PR) (fSub (fMul (Ec.Wp.X q) (fMul (Ec.Wp.Z p) (Ec.Wp.Z p) PR) PR) (fMul (Ec.Wp.X p) (fMul (Ec.Wp.Z q) (Ec.Wp.Z q) PR) PR) PR) PR) (fSub (fMul (Ec.Wp.X q) (fMul (Ec.Wp.Z p) (Ec.Wp.Z p) PR) PR) (fMul (Ec.Wp.X p) (fMul (Ec.Wp.Z q) (Ec.Wp.Z q) PR) PR) PR) PR)) (pmul_fn (fMul (fSub (fMul (Ec.Wp.X q) (fMul (Ec.Wp.Z p) (Ec.Wp.Z p) PR) PR) (fMul (Ec.Wp.X p) (fMul (Ec.Wp.Z q) (Ec.Wp.Z q) PR) PR) PR) (fSub (fMul (Ec.Wp.X q) (fMul (Ec.Wp.Z p) (Ec.Wp.Z p) PR) PR) (fMul (Ec.Wp.X p) (fMul (Ec.Wp.Z q) (Ec.Wp.Z q) PR) PR) PR) PR) (fSub (fMul (Ec.Wp.X q) (fMul (Ec.Wp.Z p) (Ec.Wp.Z p) PR) PR) (fMul (Ec.Wp.X p) (fMul (Ec.Wp.Z q) (Ec.Wp.Z q) PR) PR) PR) (fMul_lt pr_ok) (fSub_lt pr_ok)) (fun w => kr) kr ?_
        intro w15 H15; clear H14
        refine s_alloc H15 (some 14) 24 (.agg Z4) kr kr kr ?_
        intro b5 w16 H16; clear H15
        refine s_store H16 0 [(b5, Oc (uv (fMul (fMul (fSub (fMul (Ec.Wp.X q) (fMul (Ec.Wp.Z p) (Ec.Wp.Z p) PR) PR) (fMul (Ec.Wp.X p) (fMul (Ec.Wp.Z q) (Ec.Wp.Z q) PR) PR) PR) (fSub (fMul (Ec.Wp.X q) (fMul (Ec.Wp.Z p) (Ec.Wp.Z p) PR) PR) (fMul (Ec.Wp.X p) (fMul (Ec.Wp.Z q) (Ec.Wp.Z q) PR) PR) PR) PR) (fSub (fMul (Ec.Wp.X q) (fMul (Ec.Wp.Z p) (Ec.Wp.Z p) PR) PR) (fMul (Ec.Wp.X p) (fMul (Ec.Wp.Z q) (Ec.Wp.Z q) PR) PR) PR) PR)) 24), (b4, Oc (uv (fMul (fSub (fMul (Ec.Wp.X q) (fMul (Ec.Wp.Z p) (Ec.Wp.Z p) PR) PR) (fMul (Ec.Wp.X p) (fMul (Ec.Wp.Z q) (Ec.Wp.Z q) PR) PR) PR) (fSub (fMul (Ec.Wp.X q) (fMul (Ec.Wp.Z p) (Ec.Wp.Z p) PR) PR) (fMul (Ec.Wp.X p) (fMul (Ec.Wp.Z q) (Ec.Wp.Z q) PR) PR) PR) PR)) 24), (b3, Od Z13 51), (b2, Oc (wv q) 51), (b1, Oc (wv p) 51), ((G4 10).b, Oc (uv (fMul (Ec.Wp.Z p) (Ec.Wp.Z p) PR)) 24), ((G4 11).b, Oc (uv (fMul (Ec.Wp.Z q) (Ec.Wp.Z q) PR)) 24), ((G5 10).b, Oc (uv (fMul (Ec.Wp.X p) (fMul (Ec.Wp.Z q) (Ec.Wp.Z q) PR) PR)) 24), ((G5 11).b, Oc (uv (fMul (Ec.Wp.X q) (fMul (Ec.Wp.Z p) (Ec.Wp.Z p) PR) PR)) 24), ((G6 16).b, Oc (uv (fMul (Ec.Wp.Y p) (fMul (fMul (Ec.Wp.Z q) (Ec.Wp.Z q) PR) (Ec.Wp.Z q) PR) PR)) 24), ((G6 17).b, Oc (uv (fMul (Ec.Wp.Y q) (fMul (fMul (Ec.Wp.Z p) (Ec.Wp.Z p) PR) (Ec.Wp.Z p) PR) PR)) 24), ((G7 6).b, Oc (uv (fSub (fMul (Ec.Wp.X q) (fMul (Ec.Wp.Z p) (Ec.Wp.Z p) PR) PR) (fMul (Ec.Wp.X p) (fMul (Ec.Wp.Z q) (Ec.Wp.Z q) PR) PR) PR)) 24), ((G7 7).b, Oc (uv (fSub (fMul (Ec.Wp.Y q) (fMul (fMul (Ec.Wp.Z p) (Ec.Wp.Z p) PR) (Ec.Wp.Z p) PR) PR) (fMul (Ec.Wp.Y p) (fMul (fMul (Ec.Wp.Z q) (Ec.Wp.Z q) PR) (Ec.Wp.Z q) PR) PR) PR)) 24)] 24 (.tmp 14) (.tmp 73) b5 (0) Z4 (Value.cells (uv (fMul (fMul (fSub (fMul (Ec.Wp.X q) (fMul (Ec.Wp.Z p) (Ec.Wp.Z p) PR) PR) (fMul (Ec.Wp.X p) (fMul (Ec.Wp.Z q) (Ec.Wp.Z q) PR) PR) PR) (fSub (fMul (Ec.Wp.X q) (fMul (Ec.Wp.Z p) (Ec.Wp.Z p) PR) PR) (fMul (Ec.Wp.X p) (fMul (Ec.Wp.Z q) (Ec.Wp.Z q) PR) PR) PR) PR) (fSub (fMul (Ec.Wp.X q) (fMul (Ec.Wp.Z p) (Ec.Wp.Z p) PR) PR) (fMul (Ec.Wp.X p) (fMul (Ec.Wp.Z q) (Ec.Wp.Z q) PR) PR) PR) PR))) 24 (uv (fMul (fMul (fSub (fMul (Ec.Wp.X q) (fMul (Ec.Wp.Z p) (Ec.Wp.Z p) PR) PR) (fMul (Ec.Wp.X p) (fMul (Ec.Wp.Z q) (Ec.Wp.Z q) PR) PR) PR) (fSub (fMul (Ec.Wp.X q) (fMul (Ec.Wp.Z p) (Ec.Wp.Z p) PR) PR) (fMul (Ec.Wp.X p) (fMul (Ec.Wp.Z q) (Ec.Wp.Z q) PR) PR) PR) PR) (fSub (fMul (Ec.Wp.X q) (fMul (Ec.Wp.Z p) (Ec.Wp.Z p) PR) PR) (fMul (Ec.Wp.X p) (fMul (Ec.Wp.Z q) (Ec.Wp.Z q) PR) PR) PR) PR)) kr kr kr kr kr kr (of_decide_eq_true kr) kr kr ?_
        intro w17 H17; clear H16
        refine s_nil ?_
        refine g_sreg [0, 1, 2, 3] kr kr ?_
        refine s_load H17 (some 74) 24 (.tmp 7) 7 (G5 10).b (Value.cells (uv (fMul (Ec.Wp.X p) (fMul (Ec.Wp.Z q) (Ec.Wp.Z q) PR) PR))) 24 (0, 0) kr kr kr kr kr ?_
        refine s_load H17 (some 75) 24 (.tmp 13) 1 b4 (Value.cells (uv (fMul (fSub (fMul (Ec.Wp.X q) (fMul (Ec.Wp.Z p) (Ec.Wp.Z p) PR) PR) (fMul (Ec.Wp.X p) (fMul (Ec.Wp.Z q) (Ec.Wp.Z q) PR) PR) PR) (fSub (fMul (Ec.Wp.X q) (fMul (Ec.Wp.Z p) (Ec.Wp.Z p) PR) PR) (fMul (Ec.Wp.X p) (fMul (Ec.Wp.Z q) (Ec.Wp.Z q) PR) PR) PR) PR))) 24 (0, 0) kr kr kr kr kr ?_
        refine s_call H17 (some 76) 31 #[uv (fMul (Ec.Wp.X p) (fMul (Ec.Wp.Z q) (Ec.Wp.Z q) PR) PR), uv (fMul (fSub (fMul (Ec.Wp.X q) (fMul (Ec.Wp.Z p) (Ec.Wp.Z p) PR) PR) (fMul (Ec.Wp.X p) (fMul (Ec.Wp.Z q) (Ec.Wp.Z q) PR) PR) PR) (fSub (fMul (Ec.Wp.X q) (fMul (Ec.Wp.Z p) (Ec.Wp.Z p) PR) PR) (fMul (Ec.Wp.X p) (fMul (Ec.Wp.Z q) (Ec.Wp.Z q) PR) PR) PR) PR)] (uv (fMul (fMul (Ec.Wp.X p) (fMul (Ec.Wp.Z q) (Ec.Wp.Z q) PR) PR) (fMul (fSub (fMul (Ec.Wp.X q) (fMul (Ec.Wp.Z p) (Ec.Wp.Z p) PR) PR) (fMul (Ec.Wp.X p) (fMul (Ec.Wp.Z q) (Ec.Wp.Z q) PR) PR) PR) (fSub (fMul (Ec.Wp.X q) (fMul (Ec.Wp.Z p) (Ec.Wp.Z p) PR) PR) (fMul (Ec.Wp.X p) (fMul (Ec.Wp.Z q) (Ec.Wp.Z q) PR) PR) PR) PR) PR)) (pmul_fn (fMul (Ec.Wp.X p) (fMul (Ec.Wp.Z q) (Ec.Wp.Z q) PR) PR) (fMul (fSub (fMul (Ec.Wp.X q) (fMul (Ec.Wp.Z p) (Ec.Wp.Z p) PR) PR) (fMul (Ec.Wp.X p) (fMul (Ec.Wp.Z q) (Ec.Wp.Z q) PR) PR) PR) (fSub (fMul (Ec.Wp.X q) (fMul (Ec.Wp.Z p) (Ec.Wp.Z p) PR) PR) (fMul (Ec.Wp.X p) (fMul (Ec.Wp.Z q) (Ec.Wp.Z q) PR) PR) PR) PR) (fMul_lt pr_ok) (fMul_lt pr_ok)) (fun w => kr) kr ?_
        intro w18 H18; clear H17
        refine s_store H18 7 [(b5, Oc (uv (fMul (fMul (fSub (fMul (Ec.Wp.X q) (fMul (Ec.Wp.Z p) (Ec.Wp.Z p) PR) PR) (fMul (Ec.Wp.X p) (fMul (Ec.Wp.Z q) (Ec.Wp.Z q) PR) PR) PR) (fSub (fMul (Ec.Wp.X q) (fMul (Ec.Wp.Z p) (Ec.Wp.Z p) PR) PR) (fMul (Ec.Wp.X p) (fMul (Ec.Wp.Z q) (Ec.Wp.Z q) PR) PR) PR) PR) (fSub (fMul (Ec.Wp.X q) (fMul (Ec.Wp.Z p) (Ec.Wp.Z p) PR) PR) (fMul (Ec.Wp.X p) (fMul (Ec.Wp.Z q) (Ec.Wp.Z q) PR) PR) PR) PR)) 24), (b4, Oc (uv (fMul (fSub (fMul (Ec.Wp.X q) (fMul (Ec.Wp.Z p) (Ec.Wp.Z p) PR) PR) (fMul (Ec.Wp.X p) (fMul (Ec.Wp.Z q) (Ec.Wp.Z q) PR) PR) PR) (fSub (fMul (Ec.Wp.X q) (fMul (Ec.Wp.Z p) (Ec.Wp.Z p) PR) PR) (fMul (Ec.Wp.X p) (fMul (Ec.Wp.Z q) (Ec.Wp.Z q) PR) PR) PR) PR)) 24), (b3, Od Z13 51), (b2, Oc (wv q) 51), (b1, Oc (wv p) 51), ((G4 10).b, Oc (uv (fMul (Ec.Wp.Z p) (Ec.Wp.Z p) PR)) 24), ((G4 11).b, Oc (uv (fMul (Ec.Wp.Z q) (Ec.Wp.Z q) PR)) 24), ((G5 10).b, Oc (uv (fMul (fMul (Ec.Wp.X p) (fMul (Ec.Wp.Z q) (Ec.Wp.Z q) PR) PR) (fMul (fSub (fMul (Ec.Wp.X q) (fMul (Ec.Wp.Z p) (Ec.Wp.Z p) PR) PR) (fMul (Ec.Wp.X p) (fMul (Ec.Wp.Z q) (Ec.Wp.Z q) PR) PR) PR) (fSub (fMul (Ec.Wp.X q) (fMul (Ec.Wp.Z p) (Ec.Wp.Z p) PR) PR) (fMul (Ec.Wp.X p) (fMul (Ec.Wp.Z q) (Ec.Wp.Z q) PR) PR) PR) PR) PR)) 24), ((G5 11).b, Oc (uv (fMul (Ec.Wp.X q) (fMul (Ec.Wp.Z p) (Ec.Wp.Z p) PR) PR)) 24), ((G6 16).b, Oc (uv (fMul (Ec.Wp.Y p) (fMul (fMul (Ec.Wp.Z q) (Ec.Wp.Z q) PR) (Ec.Wp.Z q) PR) PR)) 24), ((G6 17).b, Oc (uv (fMul (Ec.Wp.Y q) (fMul (fMul (Ec.Wp.Z p) (Ec.Wp.Z p) PR) (Ec.Wp.Z p) PR) PR)) 24), ((G7 6).b, Oc (uv (fSub (fMul (Ec.Wp.X q) (fMul (Ec.Wp.Z p) (Ec.Wp.Z p) PR) PR) (fMul (Ec.Wp.X p) (fMul (Ec.Wp.Z q) (Ec.Wp.Z q) PR) PR) PR)) 24), ((G7 7).b, Oc (uv (fSub (fMul (Ec.Wp.Y q) (fMul (fMul (Ec.Wp.Z p) (Ec.Wp.Z p) PR) (Ec.Wp.Z p) PR) PR) (fMul (Ec.Wp.Y p) (fMul (fMul (Ec.Wp.Z q) (Ec.Wp.Z q) PR) (Ec.Wp.Z q) PR) PR) PR)) 24)] 24 (.tmp 7) (.tmp 76) ((G5 10).b) (0) (Value.cells (uv (fMul (Ec.Wp.X p) (fMul (Ec.Wp.Z q) (Ec.Wp.Z q) PR) PR))) (Value.cells (uv (fMul (fMul (Ec.Wp.X p) (fMul (Ec.Wp.Z q) (Ec.Wp.Z q) PR) PR) (fMul (fSub (fMul (Ec.Wp.X q) (fMul (Ec.Wp.Z p) (Ec.Wp.Z p) PR) PR) (fMul (Ec.Wp.X p) (fMul (Ec.Wp.Z q) (Ec.Wp.Z q) PR) PR) PR) (fSub (fMul (Ec.Wp.X q) (fMul (Ec.Wp.Z p) (Ec.Wp.Z p) PR) PR) (fMul (Ec.Wp.X p) (fMul (Ec.Wp.Z q) (Ec.Wp.Z q) PR) PR) PR) PR) PR))) 24 (uv (fMul (fMul (Ec.Wp.X p) (fMul (Ec.Wp.Z q) (Ec.Wp.Z q) PR) PR) (fMul (fSub (fMul (Ec.Wp.X q) (fMul (Ec.Wp.Z p) (Ec.Wp.Z p) PR) PR) (fMul (Ec.Wp.X p) (fMul (Ec.Wp.Z q) (Ec.Wp.Z q) PR) PR) PR) (fSub (fMul (Ec.Wp.X q) (fMul (Ec.Wp.Z p) (Ec.Wp.Z p) PR) PR) (fMul (Ec.Wp.X p) (fMul (Ec.Wp.Z q) (Ec.Wp.Z q) PR) PR) PR) PR) PR)) kr kr kr kr kr kr (of_decide_eq_true kr) kr kr ?_
        intro w19 H19; clear H18
        refine s_nil ?_
        refine D2.g_sdraw [0, 1, 2, 3, 4, 5, 6, 7, 8, 9, 10, 11, 12, 13, 14, 15, 16] [((some 77), fun _ => uv (fSub (fMul (Ec.Wp.Y q) (fMul (fMul (Ec.Wp.Z p) (Ec.Wp.Z p) PR) (Ec.Wp.Z p) PR) PR) (fMul (Ec.Wp.Y p) (fMul (fMul (Ec.Wp.Z q) (Ec.Wp.Z q) PR) (Ec.Wp.Z q) PR) PR) PR)), ((some 78), fun _ => uv (fMul (fMul (Ec.Wp.X p) (fMul (Ec.Wp.Z q) (Ec.Wp.Z q) PR) PR) (fMul (fSub (fMul (Ec.Wp.X q) (fMul (Ec.Wp.Z p) (Ec.Wp.Z p) PR) PR) (fMul (Ec.Wp.X p) (fMul (Ec.Wp.Z q) (Ec.Wp.Z q) PR) PR) PR) (fSub (fMul (Ec.Wp.X q) (fMul (Ec.Wp.Z p) (Ec.Wp.Z p) PR) PR) (fMul (Ec.Wp.X p) (fMul (Ec.Wp.Z q) (Ec.Wp.Z q) PR) PR) PR) PR) PR)), ((some 79), fun _ => uv (fMul (fMul (Ec.Wp.X p) (fMul (Ec.Wp.Z q) (Ec.Wp.Z q) PR) PR) (fMul (fSub (fMul (Ec.Wp.X q) (fMul (Ec.Wp.Z p) (Ec.Wp.Z p) PR) PR) (fMul (Ec.Wp.X p) (fMul (Ec.Wp.Z q) (Ec.Wp.Z q) PR) PR) PR) (fSub (fMul (Ec.Wp.X q) (fMul (Ec.Wp.Z p) (Ec.Wp.Z p) PR) PR) (fMul (Ec.Wp.X p) (fMul (Ec.Wp.Z q) (Ec.Wp.Z q) PR) PR) PR) PR) PR)), ((some 80), fun _ => uv (fMul (fMul (fSub (fMul (Ec.Wp.X q) (fMul (Ec.Wp.Z p) (Ec.Wp.Z p) PR) PR) (fMul (Ec.Wp.X p) (fMul (Ec.Wp.Z q) (Ec.Wp.Z q) PR) PR) PR) (fSub (fMul (Ec.Wp.X q) (fMul (Ec.Wp.Z p) (Ec.Wp.Z p) PR) PR) (fMul (Ec.Wp.X p) (fMul (Ec.Wp.Z q) (Ec.Wp.Z q) PR) PR) PR) PR) (fSub (fMul (Ec.Wp.X q) (fMul (Ec.Wp.Z p) (Ec.Wp.Z p) PR) PR) (fMul (Ec.Wp.X p) (fMul (Ec.Wp.Z q) (Ec.Wp.Z q) PR) PR) PR) PR)), ((some 81), fun _ => uv (fAdd (fMul (fMul (Ec.Wp.X p) (fMul (Ec.Wp.Z q) (Ec.Wp.Z q) PR) PR) (fMul (fSub (fMul (Ec.Wp.X q) (fMul (Ec.Wp.Z p) (Ec.Wp.Z p) PR) PR) (fMul (Ec.Wp.X p) (fMul (Ec.Wp.Z q) (Ec.Wp.Z q) PR) PR) PR) (fSub (fMul (Ec.Wp.X q) (fMul (Ec.Wp.Z p) (Ec.Wp.Z p) PR) PR) (fMul (Ec.Wp.X p) (fMul (Ec.Wp.Z q) (Ec.Wp.Z q) PR) PR) PR) PR) PR) (fMul (fMul (fSub (fMul (Ec.Wp.X q) (fMul (Ec.Wp.Z p) (Ec.Wp.Z p) PR) PR) (fMul (Ec.Wp.X p) (fMul (Ec.Wp.Z q) (Ec.Wp.Z q) PR) PR) PR) (fSub (fMul (Ec.Wp.X q) (fMul (Ec.Wp.Z p) (Ec.Wp.Z p) PR) PR) (fMul (Ec.Wp.X p) (fMul (Ec.Wp.Z q) (Ec.Wp.Z q) PR) PR) PR) PR) (fSub (fMul (Ec.Wp.X q) (fMul (Ec.Wp.Z p) (Ec.Wp.Z p) PR) PR) (fMul (Ec.Wp.X p) (fMul (Ec.Wp.Z q) (Ec.Wp.Z q) PR) PR) PR) PR) PR)), ((some 82), fun _ => uv (fMul (Ec.Wp.Y p) (fMul (fMul (Ec.Wp.Z q) (Ec.Wp.Z q) PR) (Ec.Wp.Z q) PR) PR)), ((some 83), fun _ => uv (fMul (fMul (fSub (fMul (Ec.Wp.X q) (fMul (Ec.Wp.Z p) (Ec.Wp.Z p) PR) PR) (fMul (Ec.Wp.X p) (fMul (Ec.Wp.Z q) (Ec.Wp.Z q) PR) PR) PR) (fSub (fMul (Ec.Wp.X q) (fMul (Ec.Wp.Z p) (Ec.Wp.Z p) PR) PR) (fMul (Ec.Wp.X p) (fMul (Ec.Wp.Z q) (Ec.Wp.Z q) PR) PR) PR) PR) (fSub (fMul (Ec.Wp.X q) (fMul (Ec.Wp.Z p) (Ec.Wp.Z p) PR) PR) (fMul (Ec.Wp.X p) (fMul (Ec.Wp.Z q) (Ec.Wp.Z q) PR) PR) PR) PR)), ((some 84), fun _ => uv (fMul (fMul (Ec.Wp.Y p) (fMul (fMul (Ec.Wp.Z q) (Ec.Wp.Z q) PR) (Ec.Wp.Z q) PR) PR) (fMul (fMul (fSub (fMul (Ec.Wp.X q) (fMul (Ec.Wp.Z p) (Ec.Wp.Z p) PR) PR) (fMul (Ec.Wp.X p) (fMul (Ec.Wp.Z q) (Ec.Wp.Z q) PR) PR) PR) (fSub (fMul (Ec.Wp.X q) (fMul (Ec.Wp.Z p) (Ec.Wp.Z p) PR) PR) (fMul (Ec.Wp.X p) (fMul (Ec.Wp.Z q) (Ec.Wp.Z q) PR) PR) PR) PR) (fSub (fMul (Ec.Wp.X q) (fMul (Ec.Wp.Z p) (Ec.Wp.Z p) PR) PR) (fMul (Ec.Wp.X p) (fMul (Ec.Wp.Z q) (Ec.Wp.Z q) PR) PR) PR) PR) PR)), ((some 85), fun _ => .pointer (some ⟨b1, 9, none⟩)), ((some 86), fun _ => uv (Ec.Wp.Z p)), ((some 87), fun _ => .pointer (some ⟨b2, 9, none⟩)), ((some 88), fun _ => uv (Ec.Wp.Z q)), ((some 89), fun _ => uv (fMul (Ec.Wp.Z p) (Ec.Wp.Z q) PR)), ((some 90), fun _ => uv (fSub (fMul (Ec.Wp.X q) (fMul (Ec.Wp.Z p) (Ec.Wp.Z p) PR) PR) (fMul (Ec.Wp.X p) (fMul (Ec.Wp.Z q) (Ec.Wp.Z q) PR) PR) PR)), ((some 91), fun _ => uv (fMul (fMul (Ec.Wp.Z p) (Ec.Wp.Z q) PR) (fSub (fMul (Ec.Wp.X q) (fMul (Ec.Wp.Z p) (Ec.Wp.Z p) PR) PR) (fMul (Ec.Wp.X p) (fMul (Ec.Wp.Z q) (Ec.Wp.Z q) PR) PR) PR) PR)), ((some 92), fun _ => wv (Ec.thirdW (fSub (fMul (Ec.Wp.Y q) (fMul (fMul (Ec.Wp.Z p) (Ec.Wp.Z p) PR) (Ec.Wp.Z p) PR) PR) (fMul (Ec.Wp.Y p) (fMul (fMul (Ec.Wp.Z q) (Ec.Wp.Z q) PR) (Ec.Wp.Z q) PR) PR) PR) (fMul (fMul (Ec.Wp.X p) (fMul (Ec.Wp.Z q) (Ec.Wp.Z q) PR) PR) (fMul (fSub (fMul (Ec.Wp.X q) (fMul (Ec.Wp.Z p) (Ec.Wp.Z p) PR) PR) (fMul (Ec.Wp.X p) (fMul (Ec.Wp.Z q) (Ec.Wp.Z q) PR) PR) PR) (fSub (fMul (Ec.Wp.X q) (fMul (Ec.Wp.Z p) (Ec.Wp.Z p) PR) PR) (fMul (Ec.Wp.X p) (fMul (Ec.Wp.Z q) (Ec.Wp.Z q) PR) PR) PR) PR) PR) (fAdd (fMul (fMul (Ec.Wp.X p) (fMul (Ec.Wp.Z q) (Ec.Wp.Z q) PR) PR) (fMul (fSub (fMul (Ec.Wp.X q) (fMul (Ec.Wp.Z p) (Ec.Wp.Z p) PR) PR) (fMul (Ec.Wp.X p) (fMul (Ec.Wp.Z q) (Ec.Wp.Z q) PR) PR) PR) (fSub (fMul (Ec.Wp.X q) (fMul (Ec.Wp.Z p) (Ec.Wp.Z p) PR) PR) (fMul (Ec.Wp.X p) (fMul (Ec.Wp.Z q) (Ec.Wp.Z q) PR) PR) PR) PR) PR) (fMul (fMul (fSub (fMul (Ec.Wp.X q) (fMul (Ec.Wp.Z p) (Ec.Wp.Z p) PR) PR) (fMul (Ec.Wp.X p) (fMul (Ec.Wp.Z q) (Ec.Wp.Z q) PR) PR) PR) (fSub (fMul (Ec.Wp.X q) (fMul (Ec.Wp.Z p) (Ec.Wp.Z p) PR) PR) (fMul (Ec.Wp.X p) (fMul (Ec.Wp.Z q) (Ec.Wp.Z q) PR) PR) PR) PR) (fSub (fMul (Ec.Wp.X q) (fMul (Ec.Wp.Z p) (Ec.Wp.Z p) PR) PR) (fMul (Ec.Wp.X p) (fMul (Ec.Wp.Z q) (Ec.Wp.Z q) PR) PR) PR) PR) PR) (fMul (fMul (Ec.Wp.Y p) (fMul (fMul (Ec.Wp.Z q) (Ec.Wp.Z q) PR) (Ec.Wp.Z q) PR) PR) (fMul (fMul (fSub (fMul (Ec.Wp.X q) (fMul (Ec.Wp.Z p) (Ec.Wp.Z p) PR) PR) (fMul (Ec.Wp.X p) (fMul (Ec.Wp.Z q) (Ec.Wp.Z q) PR) PR) PR) (fSub (fMul (Ec.Wp.X q) (fMul (Ec.Wp.Z p) (Ec.Wp.Z p) PR) PR) (fMul (Ec.Wp.X p) (fMul (Ec.Wp.Z q) (Ec.Wp.Z q) PR) PR) PR) PR) (fSub (fMul (Ec.Wp.X q) (fMul (Ec.Wp.Z p) (Ec.Wp.Z p) PR) PR) (fMul (Ec.Wp.X p) (fMul (Ec.Wp.Z q) (Ec.Wp.Z q) PR) PR) PR) PR) PR) (fMul (fMul (Ec.Wp.Z p) (Ec.Wp.Z q) PR) (fSub (fMul (Ec.Wp.X q) (fMul (Ec.Wp.Z p) (Ec.Wp.Z p) PR) PR) (fMul (Ec.Wp.X p) (fMul (Ec.Wp.Z q) (Ec.Wp.Z q) PR) PR) PR) PR))), (none, fun _ => undef)] (D2.Pre w.heap.size w (fun L g => [(true, (b5, Oc (uv (fMul (fMul (fSub (fMul (Ec.Wp.X q) (fMul (Ec.Wp.Z p) (Ec.Wp.Z p) PR) PR) (fMul (Ec.Wp.X p) (fMul (Ec.Wp.Z q) (Ec.Wp.Z q) PR) PR) PR) (fSub (fMul (Ec.Wp.X q) (fMul (Ec.Wp.Z p) (Ec.Wp.Z p) PR) PR) (fMul (Ec.Wp.X p) (fMul (Ec.Wp.Z q) (Ec.Wp.Z q) PR) PR) PR) PR) (fSub (fMul (Ec.Wp.X q) (fMul (Ec.Wp.Z p) (Ec.Wp.Z p) PR) PR) (fMul (Ec.Wp.X p) (fMul (Ec.Wp.Z q) (Ec.Wp.Z q) PR) PR) PR) PR)) 24)), (true, (b4, Oc (uv (fMul (fSub (fMul (Ec.Wp.X q) (fMul (Ec.Wp.Z p) (Ec.Wp.Z p) PR) PR) (fMul (Ec.Wp.X p) (fMul (Ec.Wp.Z q) (Ec.Wp.Z q) PR) PR) PR) (fSub (fMul (Ec.Wp.X q) (fMul (Ec.Wp.Z p) (Ec.Wp.Z p) PR) PR) (fMul (Ec.Wp.X p) (fMul (Ec.Wp.Z q) (Ec.Wp.Z q) PR) PR) PR) PR)) 24)), (true, (bif L 16 then (b3, Obj.cells (Value.cells (wv (Ec.thirdW (fSub (fMul (Ec.Wp.Y q) (fMul (fMul (Ec.Wp.Z p) (Ec.Wp.Z p) PR) (Ec.Wp.Z p) PR) PR) (fMul (Ec.Wp.Y p) (fMul (fMul (Ec.Wp.Z q) (Ec.Wp.Z q) PR) (Ec.Wp.Z q) PR) PR) PR) (fMul (fMul (Ec.Wp.X p) (fMul (Ec.Wp.Z q) (Ec.Wp.Z q) PR) PR) (fMul (fSub (fMul (Ec.Wp.X q) (fMul (Ec.Wp.Z p) (Ec.Wp.Z p) PR) PR) (fMul (Ec.Wp.X p) (fMul (Ec.Wp.Z q) (Ec.Wp.Z q) PR) PR) PR) (fSub (fMul (Ec.Wp.X q) (fMul (Ec.Wp.Z p) (Ec.Wp.Z p) PR) PR) (fMul (Ec.Wp.X p) (fMul (Ec.Wp.Z q) (Ec.Wp.Z q) PR) PR) PR) PR) PR) (fAdd (fMul (fMul (Ec.Wp.X p) (fMul (Ec.Wp.Z q) (Ec.Wp.Z q) PR) PR) (fMul (fSub (fMul (Ec.Wp.X q) (fMul (Ec.Wp.Z p) (Ec.Wp.Z p) PR) PR) (fMul (Ec.Wp.X p) (fMul (Ec.Wp.Z q) (Ec.Wp.Z q) PR) PR) PR) (fSub (fMul (Ec.Wp.X q) (fMul (Ec.Wp.Z p) (Ec.Wp.Z p) PR) PR) (fMul (Ec.Wp.X p) (fMul (Ec.Wp.Z q) (Ec.Wp.Z q) PR) PR) PR) PR) PR) (fMul (fMul (fSub (fMul (Ec.Wp.X q) (fMul (Ec.Wp.Z p) (Ec.Wp.Z p) PR) PR) (fMul (Ec.Wp.X p) (fMul (Ec.Wp.Z q) (Ec.Wp.Z q) PR) PR) PR) (fSub (fMul (Ec.Wp.X q) (fMul (Ec.Wp.Z p) (Ec.Wp.Z p) PR) PR) (fMul (Ec.Wp.X p) (fMul (Ec.Wp.Z q) (Ec.Wp.Z q) PR) PR) PR) PR) (fSub (fMul (Ec.Wp.X q) (fMul (Ec.Wp.Z p) (Ec.Wp.Z p) PR) PR) (fMul (Ec.Wp.X p) (fMul (Ec.Wp.Z q) (Ec.Wp.Z q) PR) PR) PR) PR) PR) (fMul (fMul (Ec.Wp.Y p) (fMul (fMul (Ec.Wp.Z q) (Ec.Wp.Z q) PR) (Ec.Wp.Z q) PR) PR) (fMul (fMul (fSub (fMul (Ec.Wp.X q) (fMul (Ec.Wp.Z p) (Ec.Wp.Z p) PR) PR) (fMul (Ec.Wp.X p) (fMul (Ec.Wp.Z q) (Ec.Wp.Z q) PR) PR) PR) (fSub (fMul (Ec.Wp.X q) (fMul (Ec.Wp.Z p) (Ec.Wp.Z p) PR) PR) (fMul (Ec.Wp.X p) (fMul (Ec.Wp.Z q) (Ec.Wp.Z q) PR) PR) PR) PR) (fSub (fMul (Ec.Wp.X q) (fMul (Ec.Wp.Z p) (Ec.Wp.Z p) PR) PR) (fMul (Ec.Wp.X p) (fMul (Ec.Wp.Z q) (Ec.Wp.Z q) PR) PR) PR) PR) PR) (fMul (fMul (Ec.Wp.Z p) (Ec.Wp.Z q) PR) (fSub (fMul (Ec.Wp.X q) (fMul (Ec.Wp.Z p) (Ec.Wp.Z p) PR) PR) (fMul (Ec.Wp.X p) (fMul (Ec.Wp.Z q) (Ec.Wp.Z q) PR) PR) PR) PR)))) 51 (0, 0)) else (b3, Od Z13 51))), (true, (b2, Oc (wv q) 51)), (true, (b1, Oc (wv p) 51)), (true, ((G4 10).b, Oc (uv (fMul (Ec.Wp.Z p) (Ec.Wp.Z p) PR)) 24)), (true, ((G4 11).b, Oc (uv (fMul (Ec.Wp.Z q) (Ec.Wp.Z q) PR)) 24)), (true, ((G5 10).b, Oc (uv (fMul (fMul (Ec.Wp.X p) (fMul (Ec.Wp.Z q) (Ec.Wp.Z q) PR) PR) (fMul (fSub (fMul (Ec.Wp.X q) (fMul (Ec.Wp.Z p) (Ec.Wp.Z p) PR) PR) (fMul (Ec.Wp.X p) (fMul (Ec.Wp.Z q) (Ec.Wp.Z q) PR) PR) PR) (fSub (fMul (Ec.Wp.X q) (fMul (Ec.Wp.Z p) (Ec.Wp.Z p) PR) PR) (fMul (Ec.Wp.X p) (fMul (Ec.Wp.Z q) (Ec.Wp.Z q) PR) PR) PR) PR) PR)) 24)), (true, ((G5 11).b, Oc (uv (fMul (Ec.Wp.X q) (fMul (Ec.Wp.Z p) (Ec.Wp.Z p) PR) PR)) 24)), (true, ((G6 16).b, Oc (uv (fMul (Ec.Wp.Y p) (fMul (fMul (Ec.Wp.Z q) (Ec.Wp.Z q) PR) (Ec.Wp.Z q) PR) PR)) 24)), (true, ((G6 17).b, Oc (uv (fMul (Ec.Wp.Y q) (fMul (fMul (Ec.Wp.Z p) (Ec.Wp.Z p) PR) (Ec.Wp.Z p) PR) PR)) 24)), (true, ((G7 6).b, Oc (uv (fSub (fMul (Ec.Wp.X q) (fMul (Ec.Wp.Z p) (Ec.Wp.Z p) PR) PR) (fMul (Ec.Wp.X p) (fMul (Ec.Wp.Z q) (Ec.Wp.Z q) PR) PR) PR)) 24)), (true, ((G7 7).b, Oc (uv (fSub (fMul (Ec.Wp.Y q) (fMul (fMul (Ec.Wp.Z p) (Ec.Wp.Z p) PR) (Ec.Wp.Z p) PR) PR) (fMul (Ec.Wp.Y p) (fMul (fMul (Ec.Wp.Z q) (Ec.Wp.Z q) PR) (Ec.Wp.Z q) PR) PR) PR)) 24))]) (fun L g => True)) kr kr kr kr ⟨D2.StE.of H19.drew _ kr, trivial⟩ ⟨?_, ?_, ?_, ?_, ?_, ?_, ?_, ?_, ?_, ?_, ?_, ?_, ?_, ?_, ?_, ?_, ?_, trivial⟩ ?_
        · exact D2.gv_load 24 (.tmp 12) 12 (fun g => (G7 7).b) (Value.cells (uv (fSub (fMul (Ec.Wp.Y q) (fMul (fMul (Ec.Wp.Z p) (Ec.Wp.Z p) PR) (Ec.Wp.Z p) PR) PR) (fMul (Ec.Wp.Y p) (fMul (fMul (Ec.Wp.Z q) (Ec.Wp.Z q) PR) (Ec.Wp.Z q) PR) PR) PR))) 24 (0, 0) (fun _ _ _ h => h) (fun g => kr) (fun g => kr) (fun L g hN => kr) kr
        · exact D2.gv_load 24 (.tmp 7) 7 (fun g => (G5 10).b) (Value.cells (uv (fMul (fMul (Ec.Wp.X p) (fMul (Ec.Wp.Z q) (Ec.Wp.Z q) PR) PR) (fMul (fSub (fMul (Ec.Wp.X q) (fMul (Ec.Wp.Z p) (Ec.Wp.Z p) PR) PR) (fMul (Ec.Wp.X p) (fMul (Ec.Wp.Z q) (Ec.Wp.Z q) PR) PR) PR) (fSub (fMul (Ec.Wp.X q) (fMul (Ec.Wp.Z p) (Ec.Wp.Z p) PR) PR) (fMul (Ec.Wp.X p) (fMul (Ec.Wp.Z q) (Ec.Wp.Z q) PR) PR) PR) PR) PR))) 24 (0, 0) (fun _ _ _ h => h) (fun g => kr) (fun g => kr) (fun L g hN => kr) kr
        · exact D2.gv_load 24 (.tmp 7) 7 (fun g => (G5 10).b) (Value.cells (uv (fMul (fMul (Ec.Wp.X p) (fMul (Ec.Wp.Z q) (Ec.Wp.Z q) PR) PR) (fMul (fSub (fMul (Ec.Wp.X q) (fMul (Ec.Wp.Z p) (Ec.Wp.Z p) PR) PR) (fMul (Ec.Wp.X p) (fMul (Ec.Wp.Z q) (Ec.Wp.Z q) PR) PR) PR) (fSub (fMul (Ec.Wp.X q) (fMul (Ec.Wp.Z p) (Ec.Wp.Z p) PR) PR) (fMul (Ec.Wp.X p) (fMul (Ec.Wp.Z q) (Ec.Wp.Z q) PR) PR) PR) PR) PR))) 24 (0, 0) (fun _ _ _ h => h) (fun g => kr) (fun g => kr) (fun L g hN => kr) kr
        · exact D2.gv_load 24 (.tmp 14) 0 (fun g => b5) (Value.cells (uv (fMul (fMul (fSub (fMul (Ec.Wp.X q) (fMul (Ec.Wp.Z p) (Ec.Wp.Z p) PR) PR) (fMul (Ec.Wp.X p) (fMul (Ec.Wp.Z q) (Ec.Wp.Z q) PR) PR) PR) (fSub (fMul (Ec.Wp.X q) (fMul (Ec.Wp.Z p) (Ec.Wp.Z p) PR) PR) (fMul (Ec.Wp.X p) (fMul (Ec.Wp.Z q) (Ec.Wp.Z q) PR) PR) PR) PR) (fSub (fMul (Ec.Wp.X q) (fMul (Ec.Wp.Z p) (Ec.Wp.Z p) PR) PR) (fMul (Ec.Wp.X p) (fMul (Ec.Wp.Z q) (Ec.Wp.Z q) PR) PR) PR) PR))) 24 (0, 0) (fun _ _ _ h => h) (fun g => kr) (fun g => kr) (fun L g hN => kr) kr
        · exact D2.gv_call 52 #[uv (fMul (fMul (Ec.Wp.X p) (fMul (Ec.Wp.Z q) (Ec.Wp.Z q) PR) PR) (fMul (fSub (fMul (Ec.Wp.X q) (fMul (Ec.Wp.Z p) (Ec.Wp.Z p) PR) PR) (fMul (Ec.Wp.X p) (fMul (Ec.Wp.Z q) (Ec.Wp.Z q) PR) PR) PR) (fSub (fMul (Ec.Wp.X q) (fMul (Ec.Wp.Z p) (Ec.Wp.Z p) PR) PR) (fMul (Ec.Wp.X p) (fMul (Ec.Wp.Z q) (Ec.Wp.Z q) PR) PR) PR) PR) PR), uv (fMul (fMul (fSub (fMul (Ec.Wp.X q) (fMul (Ec.Wp.Z p) (Ec.Wp.Z p) PR) PR) (fMul (Ec.Wp.X p) (fMul (Ec.Wp.Z q) (Ec.Wp.Z q) PR) PR) PR) (fSub (fMul (Ec.Wp.X q) (fMul (Ec.Wp.Z p) (Ec.Wp.Z p) PR) PR) (fMul (Ec.Wp.X p) (fMul (Ec.Wp.Z q) (Ec.Wp.Z q) PR) PR) PR) PR) (fSub (fMul (Ec.Wp.X q) (fMul (Ec.Wp.Z p) (Ec.Wp.Z p) PR) PR) (fMul (Ec.Wp.X p) (fMul (Ec.Wp.Z q) (Ec.Wp.Z q) PR) PR) PR) PR)] (fun _ _ _ h => h) (psum_fn (fMul (fMul (Ec.Wp.X p) (fMul (Ec.Wp.Z q) (Ec.Wp.Z q) PR) PR) (fMul (fSub (fMul (Ec.Wp.X q) (fMul (Ec.Wp.Z p) (Ec.Wp.Z p) PR) PR) (fMul (Ec.Wp.X p) (fMul (Ec.Wp.Z q) (Ec.Wp.Z q) PR) PR) PR) (fSub (fMul (Ec.Wp.X q) (fMul (Ec.Wp.Z p) (Ec.Wp.Z p) PR) PR) (fMul (Ec.Wp.X p) (fMul (Ec.Wp.Z q) (Ec.Wp.Z q) PR) PR) PR) PR) PR) (fMul (fMul (fSub (fMul (Ec.Wp.X q) (fMul (Ec.Wp.Z p) (Ec.Wp.Z p) PR) PR) (fMul (Ec.Wp.X p) (fMul (Ec.Wp.Z q) (Ec.Wp.Z q) PR) PR) PR) (fSub (fMul (Ec.Wp.X q) (fMul (Ec.Wp.Z p) (Ec.Wp.Z p) PR) PR) (fMul (Ec.Wp.X p) (fMul (Ec.Wp.Z q) (Ec.Wp.Z q) PR) PR) PR) PR) (fSub (fMul (Ec.Wp.X q) (fMul (Ec.Wp.Z p) (Ec.Wp.Z p) PR) PR) (fMul (Ec.Wp.X p) (fMul (Ec.Wp.Z q) (Ec.Wp.Z q) PR) PR) PR) PR) (fMul_lt pr_ok) (fMul_lt pr_ok)) (fun g w => kr)
        · exact D2.gv_load 24 (.tmp 9) 9 (fun g => (G6 16).b) (Value.cells (uv (fMul (Ec.Wp.Y p) (fMul (fMul (Ec.Wp.Z q) (Ec.Wp.Z q) PR) (Ec.Wp.Z q) PR) PR))) 24 (0, 0) (fun _ _ _ h => h) (fun g => kr) (fun g => kr) (fun L g hN => kr) kr
        · exact D2.gv_load 24 (.tmp 14) 0 (fun g => b5) (Value.cells (uv (fMul (fMul (fSub (fMul (Ec.Wp.X q) (fMul (Ec.Wp.Z p) (Ec.Wp.Z p) PR) PR) (fMul (Ec.Wp.X p) (fMul (Ec.Wp.Z q) (Ec.Wp.Z q) PR) PR) PR) (fSub (fMul (Ec.Wp.X q) (fMul (Ec.Wp.Z p) (Ec.Wp.Z p) PR) PR) (fMul (Ec.Wp.X p) (fMul (Ec.Wp.Z q) (Ec.Wp.Z q) PR) PR) PR) PR) (fSub (fMul (Ec.Wp.X q) (fMul (Ec.Wp.Z p) (Ec.Wp.Z p) PR) PR) (fMul (Ec.Wp.X p) (fMul (Ec.Wp.Z q) (Ec.Wp.Z q) PR) PR) PR) PR))) 24 (0, 0) (fun _ _ _ h => h) (fun g => kr) (fun g => kr) (fun L g hN => kr) kr
        · exact D2.gv_call 31 #[uv (fMul (Ec.Wp.Y p) (fMul (fMul (Ec.Wp.Z q) (Ec.Wp.Z q) PR) (Ec.Wp.Z q) PR) PR), uv (fMul (fMul (fSub (fMul (Ec.Wp.X q) (fMul (Ec.Wp.Z p) (Ec.Wp.Z p) PR) PR) (fMul (Ec.Wp.X p) (fMul (Ec.Wp.Z q) (Ec.Wp.Z q) PR) PR) PR) (fSub (fMul (Ec.Wp.X q) (fMul (Ec.Wp.Z p) (Ec.Wp.Z p) PR) PR) (fMul (Ec.Wp.X p) (fMul (Ec.Wp.Z q) (Ec.Wp.Z q) PR) PR) PR) PR) (fSub (fMul (Ec.Wp.X q) (fMul (Ec.Wp.Z p) (Ec.Wp.Z p) PR) PR) (fMul (Ec.Wp.X p) (fMul (Ec.Wp.Z q) (Ec.Wp.Z q) PR) PR) PR) PR)] (fun _ _ _ h => h) (pmul_fn (fMul (Ec.Wp.Y p) (fMul (fMul (Ec.Wp.Z q) (Ec.Wp.Z q) PR) (Ec.Wp.Z q) PR) PR) (fMul (fMul (fSub (fMul (Ec.Wp.X q) (fMul (Ec.Wp.Z p) (Ec.Wp.Z p) PR) PR) (fMul (Ec.Wp.X p) (fMul (Ec.Wp.Z q) (Ec.Wp.Z q) PR) PR) PR) (fSub (fMul (Ec.Wp.X q) (fMul (Ec.Wp.Z p) (Ec.Wp.Z p) PR) PR) (fMul (Ec.Wp.X p) (fMul (Ec.Wp.Z q) (Ec.Wp.Z q) PR) PR) PR) PR) (fSub (fMul (Ec.Wp.X q) (fMul (Ec.Wp.Z p) (Ec.Wp.Z p) PR) PR) (fMul (Ec.Wp.X p) (fMul (Ec.Wp.Z q) (Ec.Wp.Z q) PR) PR) PR) PR) (fMul_lt pr_ok) (fMul_lt pr_ok)) (fun g w => kr)
        · exact D2.gv_val (fun _ _ _ h => h) (fun g w => kr)
        · exact D2.gv_loadp 24 (.tmp 85) 4 (fun g => b1) 9 4 (Value.cells (wv p)) (Value.cells (uv (Ec.Wp.Z p))) 51 (0, 0) (fun _ _ _ h => h) (fun g => kr) (fun g => kr) (fun L g hN => kr) kr (of_decide_eq_true kr) kr
        · exact D2.gv_val (fun _ _ _ h => h) (fun g w => kr)
        · exact D2.gv_loadp 24 (.tmp 87) 3 (fun g => b2) 9 4 (Value.cells (wv q)) (Value.cells (uv (Ec.Wp.Z q))) 51 (0, 0) (fun _ _ _ h => h) (fun g => kr) (fun g => kr) (fun L g hN => kr) kr (of_decide_eq_true kr) kr
        · exact D2.gv_call 31 #[uv (Ec.Wp.Z p), uv (Ec.Wp.Z q)] (fun _ _ _ h => h) (pmul_fn (Ec.Wp.Z p) (Ec.Wp.Z q) hp.Z hq.Z) (fun g w => kr)
        · exact D2.gv_load 24 (.tmp 11) 11 (fun g => (G7 6).b) (Value.cells (uv (fSub (fMul (Ec.Wp.X q) (fMul (Ec.Wp.Z p) (Ec.Wp.Z p) PR) PR) (fMul (Ec.Wp.X p) (fMul (Ec.Wp.Z q) (Ec.Wp.Z q) PR) PR) PR))) 24 (0, 0) (fun _ _ _ h => h) (fun g => kr) (fun g => kr) (fun L g hN => kr) kr
        · exact D2.gv_call 31 #[uv (fMul (Ec.Wp.Z p) (Ec.Wp.Z q) PR), uv (fSub (fMul (Ec.Wp.X q) (fMul (Ec.Wp.Z p) (Ec.Wp.Z p) PR) PR) (fMul (Ec.Wp.X p) (fMul (Ec.Wp.Z q) (Ec.Wp.Z q) PR) PR) PR)] (fun _ _ _ h => h) (pmul_fn (fMul (Ec.Wp.Z p) (Ec.Wp.Z q) PR) (fSub (fMul (Ec.Wp.X q) (fMul (Ec.Wp.Z p) (Ec.Wp.Z p) PR) PR) (fMul (Ec.Wp.X p) (fMul (Ec.Wp.Z q) (Ec.Wp.Z q) PR) PR) PR) (fMul_lt pr_ok) (fSub_lt pr_ok)) (fun g w => kr)
        · exact D2.gv_call 55 #[uv (fSub (fMul (Ec.Wp.Y q) (fMul (fMul (Ec.Wp.Z p) (Ec.Wp.Z p) PR) (Ec.Wp.Z p) PR) PR) (fMul (Ec.Wp.Y p) (fMul (fMul (Ec.Wp.Z q) (Ec.Wp.Z q) PR) (Ec.Wp.Z q) PR) PR) PR), uv (fMul (fMul (Ec.Wp.X p) (fMul (Ec.Wp.Z q) (Ec.Wp.Z q) PR) PR) (fMul (fSub (fMul (Ec.Wp.X q) (fMul (Ec.Wp.Z p) (Ec.Wp.Z p) PR) PR) (fMul (Ec.Wp.X p) (fMul (Ec.Wp.Z q) (Ec.Wp.Z q) PR) PR) PR) (fSub (fMul (Ec.Wp.X q) (fMul (Ec.Wp.Z p) (Ec.Wp.Z p) PR) PR) (fMul (Ec.Wp.X p) (fMul (Ec.Wp.Z q) (Ec.Wp.Z q) PR) PR) PR) PR) PR), uv (fAdd (fMul (fMul (Ec.Wp.X p) (fMul (Ec.Wp.Z q) (Ec.Wp.Z q) PR) PR) (fMul (fSub (fMul (Ec.Wp.X q) (fMul (Ec.Wp.Z p) (Ec.Wp.Z p) PR) PR) (fMul (Ec.Wp.X p) (fMul (Ec.Wp.Z q) (Ec.Wp.Z q) PR) PR) PR) (fSub (fMul (Ec.Wp.X q) (fMul (Ec.Wp.Z p) (Ec.Wp.Z p) PR) PR) (fMul (Ec.Wp.X p) (fMul (Ec.Wp.Z q) (Ec.Wp.Z q) PR) PR) PR) PR) PR) (fMul (fMul (fSub (fMul (Ec.Wp.X q) (fMul (Ec.Wp.Z p) (Ec.Wp.Z p) PR) PR) (fMul (Ec.Wp.X p) (fMul (Ec.Wp.Z q) (Ec.Wp.Z q) PR) PR) PR) (fSub (fMul (Ec.Wp.X q) (fMul (Ec.Wp.Z p) (Ec.Wp.Z p) PR) PR) (fMul (Ec.Wp.X p) (fMul (Ec.Wp.Z q) (Ec.Wp.Z q) PR) PR) PR) PR) (fSub (fMul (Ec.Wp.X q) (fMul (Ec.Wp.Z p) (Ec.Wp.Z p) PR) PR) (fMul (Ec.Wp.X p) (fMul (Ec.Wp.Z q) (Ec.Wp.Z q) PR) PR) PR) PR) PR), uv (fMul (fMul (Ec.Wp.Y p) (fMul (fMul (Ec.Wp.Z q) (Ec.Wp.Z q) PR) (Ec.Wp.Z q) PR) PR) (fMul (fMul (fSub (fMul (Ec.Wp.X q) (fMul (Ec.Wp.Z p) (Ec.Wp.Z p) PR) PR) (fMul (Ec.Wp.X p) (fMul (Ec.Wp.Z q) (Ec.Wp.Z q) PR) PR) PR) (fSub (fMul (Ec.Wp.X q) (fMul (Ec.Wp.Z p) (Ec.Wp.Z p) PR) PR) (fMul (Ec.Wp.X p) (fMul (Ec.Wp.Z q) (Ec.Wp.Z q) PR) PR) PR) PR) (fSub (fMul (Ec.Wp.X q) (fMul (Ec.Wp.Z p) (Ec.Wp.Z p) PR) PR) (fMul (Ec.Wp.X p) (fMul (Ec.Wp.Z q) (Ec.Wp.Z q) PR) PR) PR) PR) PR), uv (fMul (fMul (Ec.Wp.Z p) (Ec.Wp.Z q) PR) (fSub (fMul (Ec.Wp.X q) (fMul (Ec.Wp.Z p) (Ec.Wp.Z p) PR) PR) (fMul (Ec.Wp.X p) (fMul (Ec.Wp.Z q) (Ec.Wp.Z q) PR) PR) PR) PR)] (fun _ _ _ h => h) (third_fn (fSub (fMul (Ec.Wp.Y q) (fMul (fMul (Ec.Wp.Z p) (Ec.Wp.Z p) PR) (Ec.Wp.Z p) PR) PR) (fMul (Ec.Wp.Y p) (fMul (fMul (Ec.Wp.Z q) (Ec.Wp.Z q) PR) (Ec.Wp.Z q) PR) PR) PR) (fMul (fMul (Ec.Wp.X p) (fMul (Ec.Wp.Z q) (Ec.Wp.Z q) PR) PR) (fMul (fSub (fMul (Ec.Wp.X q) (fMul (Ec.Wp.Z p) (Ec.Wp.Z p) PR) PR) (fMul (Ec.Wp.X p) (fMul (Ec.Wp.Z q) (Ec.Wp.Z q) PR) PR) PR) (fSub (fMul (Ec.Wp.X q) (fMul (Ec.Wp.Z p) (Ec.Wp.Z p) PR) PR) (fMul (Ec.Wp.X p) (fMul (Ec.Wp.Z q) (Ec.Wp.Z q) PR) PR) PR) PR) PR) (fAdd (fMul (fMul (Ec.Wp.X p) (fMul (Ec.Wp.Z q) (Ec.Wp.Z q) PR) PR) (fMul (fSub (fMul (Ec.Wp.X q) (fMul (Ec.Wp.Z p) (Ec.Wp.Z p) PR) PR) (fMul (Ec.Wp.X p) (fMul (Ec.Wp.Z q) (Ec.Wp.Z q) PR) PR) PR) (fSub (fMul (Ec.Wp.X q) (fMul (Ec.Wp.Z p) (Ec.Wp.Z p) PR) PR) (fMul (Ec.Wp.X p) (fMul (Ec.Wp.Z q) (Ec.Wp.Z q) PR) PR) PR) PR) PR) (fMul (fMul (fSub (fMul (Ec.Wp.X q) (fMul (Ec.Wp.Z p) (Ec.Wp.Z p) PR) PR) (fMul (Ec.Wp.X p) (fMul (Ec.Wp.Z q) (Ec.Wp.Z q) PR) PR) PR) (fSub (fMul (Ec.Wp.X q) (fMul (Ec.Wp.Z p) (Ec.Wp.Z p) PR) PR) (fMul (Ec.Wp.X p) (fMul (Ec.Wp.Z q) (Ec.Wp.Z q) PR) PR) PR) PR) (fSub (fMul (Ec.Wp.X q) (fMul (Ec.Wp.Z p) (Ec.Wp.Z p) PR) PR) (fMul (Ec.Wp.X p) (fMul (Ec.Wp.Z q) (Ec.Wp.Z q) PR) PR) PR) PR) PR) (fMul (fMul (Ec.Wp.Y p) (fMul (fMul (Ec.Wp.Z q) (Ec.Wp.Z q) PR) (Ec.Wp.Z q) PR) PR) (fMul (fMul (fSub (fMul (Ec.Wp.X q) (fMul (Ec.Wp.Z p) (Ec.Wp.Z p) PR) PR) (fMul (Ec.Wp.X p) (fMul (Ec.Wp.Z q) (Ec.Wp.Z q) PR) PR) PR) (fSub (fMul (Ec.Wp.X q) (fMul (Ec.Wp.Z p) (Ec.Wp.Z p) PR) PR) (fMul (Ec.Wp.X p) (fMul (Ec.Wp.Z q) (Ec.Wp.Z q) PR) PR) PR) PR) (fSub (fMul (Ec.Wp.X q) (fMul (Ec.Wp.Z p) (Ec.Wp.Z p) PR) PR) (fMul (Ec.Wp.X p) (fMul (Ec.Wp.Z q) (Ec.Wp.Z q) PR) PR) PR) PR) PR) (fMul (fMul (Ec.Wp.Z p) (Ec.Wp.Z q) PR) (fSub (fMul (Ec.Wp.X q) (fMul (Ec.Wp.Z p) (Ec.Wp.Z p) PR) PR) (fMul (Ec.Wp.X p) (fMul (Ec.Wp.Z q) (Ec.Wp.Z q) PR) PR) PR) PR) (fSub_lt pr_ok) (fMul_lt pr_ok) (fAdd_lt pr_ok) (fMul_lt pr_ok) (fMul_lt pr_ok)) (fun g w => kr)
        · exact D2.gv_store 2 51 (.tmp 4) (.tmp 92) (fun g => b3) (fun g => 0) Z13 (Value.cells (wv (Ec.thirdW (fSub (fMul (Ec.Wp.Y q) (fMul (fMul (Ec.Wp.Z p) (Ec.Wp.Z p) PR) (Ec.Wp.Z p) PR) PR) (fMul (Ec.Wp.Y p) (fMul (fMul (Ec.Wp.Z q) (Ec.Wp.Z q) PR) (Ec.Wp.Z q) PR) PR) PR) (fMul (fMul (Ec.Wp.X p) (fMul (Ec.Wp.Z q) (Ec.Wp.Z q) PR) PR) (fMul (fSub (fMul (Ec.Wp.X q) (fMul (Ec.Wp.Z p) (Ec.Wp.Z p) PR) PR) (fMul (Ec.Wp.X p) (fMul (Ec.Wp.Z q) (Ec.Wp.Z q) PR) PR) PR) (fSub (fMul (Ec.Wp.X q) (fMul (Ec.Wp.Z p) (Ec.Wp.Z p) PR) PR) (fMul (Ec.Wp.X p) (fMul (Ec.Wp.Z q) (Ec.Wp.Z q) PR) PR) PR) PR) PR) (fAdd (fMul (fMul (Ec.Wp.X p) (fMul (Ec.Wp.Z q) (Ec.Wp.Z q) PR) PR) (fMul (fSub (fMul (Ec.Wp.X q) (fMul (Ec.Wp.Z p) (Ec.Wp.Z p) PR) PR) (fMul (Ec.Wp.X p) (fMul (Ec.Wp.Z q) (Ec.Wp.Z q) PR) PR) PR) (fSub (fMul (Ec.Wp.X q) (fMul (Ec.Wp.Z p) (Ec.Wp.Z p) PR) PR) (fMul (Ec.Wp.X p) (fMul (Ec.Wp.Z q) (Ec.Wp.Z q) PR) PR) PR) PR) PR) (fMul (fMul (fSub (fMul (Ec.Wp.X q) (fMul (Ec.Wp.Z p) (Ec.Wp.Z p) PR) PR) (fMul (Ec.Wp.X p) (fMul (Ec.Wp.Z q) (Ec.Wp.Z q) PR) PR) PR) (fSub (fMul (Ec.Wp.X q) (fMul (Ec.Wp.Z p) (Ec.Wp.Z p) PR) PR) (fMul (Ec.Wp.X p) (fMul (Ec.Wp.Z q) (Ec.Wp.Z q) PR) PR) PR) PR) (fSub (fMul (Ec.Wp.X q) (fMul (Ec.Wp.Z p) (Ec.Wp.Z p) PR) PR) (fMul (Ec.Wp.X p) (fMul (Ec.Wp.Z q) (Ec.Wp.Z q) PR) PR) PR) PR) PR) (fMul (fMul (Ec.Wp.Y p) (fMul (fMul (Ec.Wp.Z q) (Ec.Wp.Z q) PR) (Ec.Wp.Z q) PR) PR) (fMul (fMul (fSub (fMul (Ec.Wp.X q) (fMul (Ec.Wp.Z p) (Ec.Wp.Z p) PR) PR) (fMul (Ec.Wp.X p) (fMul (Ec.Wp.Z q) (Ec.Wp.Z q) PR) PR) PR) (fSub (fMul (Ec.Wp.X q) (fMul (Ec.Wp.Z p) (Ec.Wp.Z p) PR) PR) (fMul (Ec.Wp.X p) (fMul (Ec.Wp.Z q) (Ec.Wp.Z q) PR) PR) PR) PR) (fSub (fMul (Ec.Wp.X q) (fMul (Ec.Wp.Z p) (Ec.Wp.Z p) PR) PR) (fMul (Ec.Wp.X p) (fMul (Ec.Wp.Z q) (Ec.Wp.Z q) PR) PR) PR) PR) PR) (fMul (fMul (Ec.Wp.Z p) (Ec.Wp.Z q) PR) (fSub (fMul (Ec.Wp.X q) (fMul (Ec.Wp.Z p) (Ec.Wp.Z p) PR) PR) (fMul (Ec.Wp.X p) (fMul (Ec.Wp.Z q) (Ec.Wp.Z q) PR) PR) PR) PR)))) 51 (wv (Ec.thirdW (fSub (fMul (Ec.Wp.Y q) (fMul (fMul (Ec.Wp.Z p) (Ec.Wp.Z p) PR) (Ec.Wp.Z p) PR) PR) (fMul (Ec.Wp.Y p) (fMul (fMul (Ec.Wp.Z q) (Ec.Wp.Z q) PR) (Ec.Wp.Z q) PR) PR) PR) (fMul (fMul (Ec.Wp.X p) (fMul (Ec.Wp.Z q) (Ec.Wp.Z q) PR) PR) (fMul (fSub (fMul (Ec.Wp.X q) (fMul (Ec.Wp.Z p) (Ec.Wp.Z p) PR) PR) (fMul (Ec.Wp.X p) (fMul (Ec.Wp.Z q) (Ec.Wp.Z q) PR) PR) PR) (fSub (fMul (Ec.Wp.X q) (fMul (Ec.Wp.Z p) (Ec.Wp.Z p) PR) PR) (fMul (Ec.Wp.X p) (fMul (Ec.Wp.Z q) (Ec.Wp.Z q) PR) PR) PR) PR) PR) (fAdd (fMul (fMul (Ec.Wp.X p) (fMul (Ec.Wp.Z q) (Ec.Wp.Z q) PR) PR) (fMul (fSub (fMul (Ec.Wp.X q) (fMul (Ec.Wp.Z p) (Ec.Wp.Z p) PR) PR) (fMul (Ec.Wp.X p) (fMul (Ec.Wp.Z q) (Ec.Wp.Z q) PR) PR) PR) (fSub (fMul (Ec.Wp.X q) (fMul (Ec.Wp.Z p) (Ec.Wp.Z p) PR) PR) (fMul (Ec.Wp.X p) (fMul (Ec.Wp.Z q) (Ec.Wp.Z q) PR) PR) PR) PR) PR) (fMul (fMul (fSub (fMul (Ec.Wp.X q) (fMul (Ec.Wp.Z p) (Ec.Wp.Z p) PR) PR) (fMul (Ec.Wp.X p) (fMul (Ec.Wp.Z q) (Ec.Wp.Z q) PR) PR) PR) (fSub (fMul (Ec.Wp.X q) (fMul (Ec.Wp.Z p) (Ec.Wp.Z p) PR) PR) (fMul (Ec.Wp.X p) (fMul (Ec.Wp.Z q) (Ec.Wp.Z q) PR) PR) PR) PR) (fSub (fMul (Ec.Wp.X q) (fMul (Ec.Wp.Z p) (Ec.Wp.Z p) PR) PR) (fMul (Ec.Wp.X p) (fMul (Ec.Wp.Z q) (Ec.Wp.Z q) PR) PR) PR) PR) PR) (fMul (fMul (Ec.Wp.Y p) (fMul (fMul (Ec.Wp.Z q) (Ec.Wp.Z q) PR) (Ec.Wp.Z q) PR) PR) (fMul (fMul (fSub (fMul (Ec.Wp.X q) (fMul (Ec.Wp.Z p) (Ec.Wp.Z p) PR) PR) (fMul (Ec.Wp.X p) (fMul (Ec.Wp.Z q) (Ec.Wp.Z q) PR) PR) PR) (fSub (fMul (Ec.Wp.X q) (fMul (Ec.Wp.Z p) (Ec.Wp.Z p) PR) PR) (fMul (Ec.Wp.X p) (fMul (Ec.Wp.Z q) (Ec.Wp.Z q) PR) PR) PR) PR) (fSub (fMul (Ec.Wp.X q) (fMul (Ec.Wp.Z p) (Ec.Wp.Z p) PR) PR) (fMul (Ec.Wp.X p) (fMul (Ec.Wp.Z q) (Ec.Wp.Z q) PR) PR) PR) PR) PR) (fMul (fMul (Ec.Wp.Z p) (Ec.Wp.Z q) PR) (fSub (fMul (Ec.Wp.X q) (fMul (Ec.Wp.Z p) (Ec.Wp.Z p) PR) PR) (fMul (Ec.Wp.X p) (fMul (Ec.Wp.Z q) (Ec.Wp.Z q) PR) PR) PR) PR))) (fun g => kr) (fun g => kr) (fun g => kr) kr kr (fun g => (of_decide_eq_true kr)) (fun g => kr) (fun L g hN => ⟨(by have hL16 : L 16 = false := hN.1; exact D2.ent_get' (p := true) (e := (bif L 16 then (b3, Obj.cells (Value.cells (wv (Ec.thirdW (fSub (fMul (Ec.Wp.Y q) (fMul (fMul (Ec.Wp.Z p) (Ec.Wp.Z p) PR) (Ec.Wp.Z p) PR) PR) (fMul (Ec.Wp.Y p) (fMul (fMul (Ec.Wp.Z q) (Ec.Wp.Z q) PR) (Ec.Wp.Z q) PR) PR) PR) (fMul (fMul (Ec.Wp.X p) (fMul (Ec.Wp.Z q) (Ec.Wp.Z q) PR) PR) (fMul (fSub (fMul (Ec.Wp.X q) (fMul (Ec.Wp.Z p) (Ec.Wp.Z p) PR) PR) (fMul (Ec.Wp.X p) (fMul (Ec.Wp.Z q) (Ec.Wp.Z q) PR) PR) PR) (fSub (fMul (Ec.Wp.X q) (fMul (Ec.Wp.Z p) (Ec.Wp.Z p) PR) PR) (fMul (Ec.Wp.X p) (fMul (Ec.Wp.Z q) (Ec.Wp.Z q) PR) PR) PR) PR) PR) (fAdd (fMul (fMul (Ec.Wp.X p) (fMul (Ec.Wp.Z q) (Ec.Wp.Z q) PR) PR) (fMul (fSub (fMul (Ec.Wp.X q) (fMul (Ec.Wp.Z p) (Ec.Wp.Z p) PR) PR) (fMul (Ec.Wp.X p) (fMul (Ec.Wp.Z q) (Ec.Wp.Z q) PR) PR) PR) (fSub (fMul (Ec.Wp.X q) (fMul (Ec.Wp.Z p) (Ec.Wp.Z p) PR) PR) (fMul (Ec.Wp.X p) (fMul (Ec.Wp.Z q) (Ec.Wp.Z q) PR) PR) PR) PR) PR) (fMul (fMul (fSub (fMul (Ec.Wp.X q) (fMul (Ec.Wp.Z p) (Ec.Wp.Z p) PR) PR) (fMul (Ec.Wp.X p) (fMul (Ec.Wp.Z q) (Ec.Wp.Z q) PR) PR) PR) (fSub (fMul (Ec.Wp.X q) (fMul (Ec.Wp.Z p) (Ec.Wp.Z p) PR) PR) (fMul (Ec.Wp.X p) (fMul (Ec.Wp.Z q) (Ec.Wp.Z q) PR) PR) PR) PR) (fSub (fMul (Ec.Wp.X q) (fMul (Ec.Wp.Z p) (Ec.Wp.Z p) PR) PR) (fMul (Ec.Wp.X p) (fMul (Ec.Wp.Z q) (Ec.Wp.Z q) PR) PR) PR) PR) PR) (fMul (fMul (Ec.Wp.Y p) (fMul (fMul (Ec.Wp.Z q) (Ec.Wp.Z q) PR) (Ec.Wp.Z q) PR) PR) (fMul (fMul (fSub (fMul (Ec.Wp.X q) (fMul (Ec.Wp.Z p) (Ec.Wp.Z p) PR) PR) (fMul (Ec.Wp.X p) (fMul (Ec.Wp.Z q) (Ec.Wp.Z q) PR) PR) PR) (fSub (fMul (Ec.Wp.X q) (fMul (Ec.Wp.Z p) (Ec.Wp.Z p) PR) PR) (fMul (Ec.Wp.X p) (fMul (Ec.Wp.Z q) (Ec.Wp.Z q) PR) PR) PR) PR) (fSub (fMul (Ec.Wp.X q) (fMul (Ec.Wp.Z p) (Ec.Wp.Z p) PR) PR) (fMul (Ec.Wp.X p) (fMul (Ec.Wp.Z q) (Ec.Wp.Z q) PR) PR) PR) PR) PR) (fMul (fMul (Ec.Wp.Z p) (Ec.Wp.Z q) PR) (fSub (fMul (Ec.Wp.X q) (fMul (Ec.Wp.Z p) (Ec.Wp.Z p) PR) PR) (fMul (Ec.Wp.X p) (fMul (Ec.Wp.Z q) (Ec.Wp.Z q) PR) PR) PR) PR)))) 51 (0, 0)) else (b3, Od Z13 51))) kr (by rfl) (by simp only [hL16, cond_true, cond_false] <;> rfl)), kr⟩) (fun L g hN hF => hF)
        intro L0 G20 w20 hall HL; clear H19
        have H20 : St w.heap.size w w20 [(b5, Oc (uv (fMul (fMul (fSub (fMul (Ec.Wp.X q) (fMul (Ec.Wp.Z p) (Ec.Wp.Z p) PR) PR) (fMul (Ec.Wp.X p) (fMul (Ec.Wp.Z q) (Ec.Wp.Z q) PR) PR) PR) (fSub (fMul (Ec.Wp.X q) (fMul (Ec.Wp.Z p) (Ec.Wp.Z p) PR) PR) (fMul (Ec.Wp.X p) (fMul (Ec.Wp.Z q) (Ec.Wp.Z q) PR) PR) PR) PR) (fSub (fMul (Ec.Wp.X q) (fMul (Ec.Wp.Z p) (Ec.Wp.Z p) PR) PR) (fMul (Ec.Wp.X p) (fMul (Ec.Wp.Z q) (Ec.Wp.Z q) PR) PR) PR) PR)) 24), (b4, Oc (uv (fMul (fSub (fMul (Ec.Wp.X q) (fMul (Ec.Wp.Z p) (Ec.Wp.Z p) PR) PR) (fMul (Ec.Wp.X p) (fMul (Ec.Wp.Z q) (Ec.Wp.Z q) PR) PR) PR) (fSub (fMul (Ec.Wp.X q) (fMul (Ec.Wp.Z p) (Ec.Wp.Z p) PR) PR) (fMul (Ec.Wp.X p) (fMul (Ec.Wp.Z q) (Ec.Wp.Z q) PR) PR) PR) PR)) 24), (b3, Obj.cells (Value.cells (wv (Ec.thirdW (fSub (fMul (Ec.Wp.Y q) (fMul (fMul (Ec.Wp.Z p) (Ec.Wp.Z p) PR) (Ec.Wp.Z p) PR) PR) (fMul (Ec.Wp.Y p) (fMul (fMul (Ec.Wp.Z q) (Ec.Wp.Z q) PR) (Ec.Wp.Z q) PR) PR) PR) (fMul (fMul (Ec.Wp.X p) (fMul (Ec.Wp.Z q) (Ec.Wp.Z q) PR) PR) (fMul (fSub (fMul (Ec.Wp.X q) (fMul (Ec.Wp.Z p) (Ec.Wp.Z p) PR) PR) (fMul (Ec.Wp.X p) (fMul (Ec.Wp.Z q) (Ec.Wp.Z q) PR) PR) PR) (fSub (fMul (Ec.Wp.X q) (fMul (Ec.Wp.Z p) (Ec.Wp.Z p) PR) PR) (fMul (Ec.Wp.X p) (fMul (Ec.Wp.Z q) (Ec.Wp.Z q) PR) PR) PR) PR) PR) (fAdd (fMul (fMul (Ec.Wp.X p) (fMul (Ec.Wp.Z q) (Ec.Wp.Z q) PR) PR) (fMul (fSub (fMul (Ec.Wp.X q) (fMul (Ec.Wp.Z p) (Ec.Wp.Z p) PR) PR) (fMul (Ec.Wp.X p) (fMul (Ec.Wp.Z q) (Ec.Wp.Z q) PR) PR) PR) (fSub (fMul (Ec.Wp.X q) (fMul (Ec.Wp.Z p) (Ec.Wp.Z p) PR) PR) (fMul (Ec.Wp.X p) (fMul (Ec.Wp.Z q) (Ec.Wp.Z q) PR) PR) PR) PR) PR) (fMul (fMul (fSub (fMul (Ec.Wp.X q) (fMul (Ec.Wp.Z p) (Ec.Wp.Z p) PR) PR) (fMul (Ec.Wp.X p) (fMul (Ec.Wp.Z q) (Ec.Wp.Z q) PR) PR) PR) (fSub (fMul (Ec.Wp.X q) (fMul (Ec.Wp.Z p) (Ec.Wp.Z p) PR) PR) (fMul (Ec.Wp.X p) (fMul (Ec.Wp.Z q) (Ec.Wp.Z q) PR) PR) PR) PR) (fSub (fMul (Ec.Wp.X q) (fMul (Ec.Wp.Z p) (Ec.Wp.Z p) PR) PR) (fMul (Ec.Wp.X p) (fMul (Ec.Wp.Z q) (Ec.Wp.Z q) PR) PR) PR) PR) PR) (fMul (fMul (Ec.Wp.Y p) (fMul (fMul (Ec.Wp.Z q) (Ec.Wp.Z q) PR) (Ec.Wp.Z q) PR) PR) (fMul (fMul (fSub (fMul (Ec.Wp.X q) (fMul (Ec.Wp.Z p) (Ec.Wp.Z p) PR) PR) (fMul (Ec.Wp.X p) (fMul (Ec.Wp.Z q) (Ec.Wp.Z q) PR) PR) PR) (fSub (fMul (Ec.Wp.X q) (fMul (Ec.Wp.Z p) (Ec.Wp.Z p) PR) PR) (fMul (Ec.Wp.X p) (fMul (Ec.Wp.Z q) (Ec.Wp.Z q) PR) PR) PR) PR) (fSub (fMul (Ec.Wp.X q) (fMul (Ec.Wp.Z p) (Ec.Wp.Z p) PR) PR) (fMul (Ec.Wp.X p) (fMul (Ec.Wp.Z q) (Ec.Wp.Z q) PR) PR) PR) PR) PR) (fMul (fMul (Ec.Wp.Z p) (Ec.Wp.Z q) PR) (fSub (fMul (Ec.Wp.X q) (fMul (Ec.Wp.Z p) (Ec.Wp.Z p) PR) PR) (fMul (Ec.Wp.X p) (fMul (Ec.Wp.Z q) (Ec.Wp.Z q) PR) PR) PR) PR)))) 51 (0, 0)), (b2, Oc (wv q) 51), (b1, Oc (wv p) 51), ((G4 10).b, Oc (uv (fMul (Ec.Wp.Z p) (Ec.Wp.Z p) PR)) 24), ((G4 11).b, Oc (uv (fMul (Ec.Wp.Z q) (Ec.Wp.Z q) PR)) 24), ((G5 10).b, Oc (uv (fMul (fMul (Ec.Wp.X p) (fMul (Ec.Wp.Z q) (Ec.Wp.Z q) PR) PR) (fMul (fSub (fMul (Ec.Wp.X q) (fMul (Ec.Wp.Z p) (Ec.Wp.Z p) PR) PR) (fMul (Ec.Wp.X p) (fMul (Ec.Wp.Z q) (Ec.Wp.Z q) PR) PR) PR) (fSub (fMul (Ec.Wp.X q) (fMul (Ec.Wp.Z p) (Ec.Wp.Z p) PR) PR) (fMul (Ec.Wp.X p) (fMul (Ec.Wp.Z q) (Ec.Wp.Z q) PR) PR) PR) PR) PR)) 24), ((G5 11).b, Oc (uv (fMul (Ec.Wp.X q) (fMul (Ec.Wp.Z p) (Ec.Wp.Z p) PR) PR)) 24), ((G6 16).b, Oc (uv (fMul (Ec.Wp.Y p) (fMul (fMul (Ec.Wp.Z q) (Ec.Wp.Z q) PR) (Ec.Wp.Z q) PR) PR)) 24), ((G6 17).b, Oc (uv (fMul (Ec.Wp.Y q) (fMul (fMul (Ec.Wp.Z p) (Ec.Wp.Z p) PR) (Ec.Wp.Z p) PR) PR)) 24), ((G7 6).b, Oc (uv (fSub (fMul (Ec.Wp.X q) (fMul (Ec.Wp.Z p) (Ec.Wp.Z p) PR) PR) (fMul (Ec.Wp.X p) (fMul (Ec.Wp.Z q) (Ec.Wp.Z q) PR) PR) PR)) 24), ((G7 7).b, Oc (uv (fSub (fMul (Ec.Wp.Y q) (fMul (fMul (Ec.Wp.Z p) (Ec.Wp.Z p) PR) (Ec.Wp.Z p) PR) PR) (fMul (Ec.Wp.Y p) (fMul (fMul (Ec.Wp.Z q) (Ec.Wp.Z q) PR) (Ec.Wp.Z q) PR) PR) PR)) 24)] := by have e16 := hall 16 (Nat.le_of_ble_eq_true kr); have hS := D2.StE.st HL.1; simp only [e16, cond_true, D2.pres] at hS; exact hS
        clear HL hall
        refine g_ret kr ?_
        show ∃ vs, Res _ _ _ _ vs ∧ _
        refine ⟨[wv (Ec.thirdW (fSub (fMul (Ec.Wp.Y q) (fMul (fMul (Ec.Wp.Z p) (Ec.Wp.Z p) PR) (Ec.Wp.Z p) PR) PR) (fMul (Ec.Wp.Y p) (fMul (fMul (Ec.Wp.Z q) (Ec.Wp.Z q) PR) (Ec.Wp.Z q) PR) PR) PR) (fMul (fMul (Ec.Wp.X p) (fMul (Ec.Wp.Z q) (Ec.Wp.Z q) PR) PR) (fMul (fSub (fMul (Ec.Wp.X q) (fMul (Ec.Wp.Z p) (Ec.Wp.Z p) PR) PR) (fMul (Ec.Wp.X p) (fMul (Ec.Wp.Z q) (Ec.Wp.Z q) PR) PR) PR) (fSub (fMul (Ec.Wp.X q) (fMul (Ec.Wp.Z p) (Ec.Wp.Z p) PR) PR) (fMul (Ec.Wp.X p) (fMul (Ec.Wp.Z q) (Ec.Wp.Z q) PR) PR) PR) PR) PR) (fAdd (fMul (fMul (Ec.Wp.X p) (fMul (Ec.Wp.Z q) (Ec.Wp.Z q) PR) PR) (fMul (fSub (fMul (Ec.Wp.X q) (fMul (Ec.Wp.Z p) (Ec.Wp.Z p) PR) PR) (fMul (Ec.Wp.X p) (fMul (Ec.Wp.Z q) (Ec.Wp.Z q) PR) PR) PR) (fSub (fMul (Ec.Wp.X q) (fMul (Ec.Wp.Z p) (Ec.Wp.Z p) PR) PR) (fMul (Ec.Wp.X p) (fMul (Ec.Wp.Z q) (Ec.Wp.Z q) PR) PR) PR) PR) PR) (fMul (fMul (fSub (fMul (Ec.Wp.X q) (fMul (Ec.Wp.Z p) (Ec.Wp.Z p) PR) PR) (fMul (Ec.Wp.X p) (fMul (Ec.Wp.Z q) (Ec.Wp.Z q) PR) PR) PR) (fSub (fMul (Ec.Wp.X q) (fMul (Ec.Wp.Z p) (Ec.Wp.Z p) PR) PR) (fMul (Ec.Wp.X p) (fMul (Ec.Wp.Z q) (Ec.Wp.Z q) PR) PR) PR) PR) (fSub (fMul (Ec.Wp.X q) (fMul (Ec.Wp.Z p) (Ec.Wp.Z p) PR) PR) (fMul (Ec.Wp.X p) (fMul (Ec.Wp.Z q) (Ec.Wp.Z q) PR) PR) PR) PR) PR) (fMul (fMul (Ec.Wp.Y p) (fMul (fMul (Ec.Wp.Z q) (Ec.Wp.Z q) PR) (Ec.Wp.Z q) PR) PR) (fMul (fMul (fSub (fMul (Ec.Wp.X q) (fMul (Ec.Wp.Z p) (Ec.Wp.Z p) PR) PR) (fMul (Ec.Wp.X p) (fMul (Ec.Wp.Z q) (Ec.Wp.Z q) PR) PR) PR) (fSub (fMul (Ec.Wp.X q) (fMul (Ec.Wp.Z p) (Ec.Wp.Z p) PR) PR) (fMul (Ec.Wp.X p) (fMul (Ec.Wp.Z q) (Ec.Wp.Z q) PR) PR) PR) PR) (fSub (fMul (Ec.Wp.X q) (fMul (Ec.Wp.Z p) (Ec.Wp.Z p) PR) PR) (fMul (Ec.Wp.X p) (fMul (Ec.Wp.Z q) (Ec.Wp.Z q) PR) PR) PR) PR) PR) (fMul (fMul (Ec.Wp.Z p) (Ec.Wp.Z q) PR) (fSub (fMul (Ec.Wp.X q) (fMul (Ec.Wp.Z p) (Ec.Wp.Z p) PR) PR) (fMul (Ec.Wp.X p) (fMul (Ec.Wp.Z q) (Ec.Wp.Z q) PR) PR) PR) PR))], (.agg (b := b3) (Value.cells (wv (Ec.thirdW (fSub (fMul (Ec.Wp.Y q) (fMul (fMul (Ec.Wp.Z p) (Ec.Wp.Z p) PR) (Ec.Wp.Z p) PR) PR) (fMul (Ec.Wp.Y p) (fMul (fMul (Ec.Wp.Z q) (Ec.Wp.Z q) PR) (Ec.Wp.Z q) PR) PR) PR) (fMul (fMul (Ec.Wp.X p) (fMul (Ec.Wp.Z q) (Ec.Wp.Z q) PR) PR) (fMul (fSub (fMul (Ec.Wp.X q) (fMul (Ec.Wp.Z p) (Ec.Wp.Z p) PR) PR) (fMul (Ec.Wp.X p) (fMul (Ec.Wp.Z q) (Ec.Wp.Z q) PR) PR) PR) (fSub (fMul (Ec.Wp.X q) (fMul (Ec.Wp.Z p) (Ec.Wp.Z p) PR) PR) (fMul (Ec.Wp.X p) (fMul (Ec.Wp.Z q) (Ec.Wp.Z q) PR) PR) PR) PR) PR) (fAdd (fMul (fMul (Ec.Wp.X p) (fMul (Ec.Wp.Z q) (Ec.Wp.Z q) PR) PR) (fMul (fSub (fMul (Ec.Wp.X q) (fMul (Ec.Wp.Z p) (Ec.Wp.Z p) PR) PR) (fMul (Ec.Wp.X p) (fMul (Ec.Wp.Z q) (Ec.Wp.Z q) PR) PR) PR) (fSub (fMul (Ec.Wp.X q) (fMul (Ec.Wp.Z p) (Ec.Wp.Z p) PR) PR) (fMul (Ec.Wp.X p) (fMul (Ec.Wp.Z q) (Ec.Wp.Z q) PR) PR) PR) PR) PR) (fMul (fMul (fSub (fMul (Ec.Wp.X q) (fMul (Ec.Wp.Z p) (Ec.Wp.Z p) PR) PR) (fMul (Ec.Wp.X p) (fMul (Ec.Wp.Z q) (Ec.Wp.Z q) PR) PR) PR) (fSub (fMul (Ec.Wp.X q) (fMul (Ec.Wp.Z p) (Ec.Wp.Z p) PR) PR) (fMul (Ec.Wp.X p) (fMul (Ec.Wp.Z q) (Ec.Wp.Z q) PR) PR) PR) PR) (fSub (fMul (Ec.Wp.X q) (fMul (Ec.Wp.Z p) (Ec.Wp.Z p) PR) PR) (fMul (Ec.Wp.X p) (fMul (Ec.Wp.Z q) (Ec.Wp.Z q) PR) PR) PR) PR) PR) (fMul (fMul (Ec.Wp.Y p) (fMul (fMul (Ec.Wp.Z q) (Ec.Wp.Z q) PR) (Ec.Wp.Z q) PR) PR) (fMul (fMul (fSub (fMul (Ec.Wp.X q) (fMul (Ec.Wp.Z p) (Ec.Wp.Z p) PR) PR) (fMul (Ec.Wp.X p) (fMul (Ec.Wp.Z q) (Ec.Wp.Z q) PR) PR) PR) (fSub (fMul (Ec.Wp.X q) (fMul (Ec.Wp.Z p) (Ec.Wp.Z p) PR) PR) (fMul (Ec.Wp.X p) (fMul (Ec.Wp.Z q) (Ec.Wp.Z q) PR) PR) PR) PR) (fSub (fMul (Ec.Wp.X q) (fMul (Ec.Wp.Z p) (Ec.Wp.Z p) PR) PR) (fMul (Ec.Wp.X p) (fMul (Ec.Wp.Z q) (Ec.Wp.Z q) PR) PR) PR) PR) PR) (fMul (fMul (Ec.Wp.Z p) (Ec.Wp.Z q) PR) (fSub (fMul (Ec.Wp.X q) (fMul (Ec.Wp.Z p) (Ec.Wp.Z p) PR) PR) (fMul (Ec.Wp.X p) (fMul (Ec.Wp.Z q) (Ec.Wp.Z q) PR) PR) PR) PR)))) 51 (0, 0) kr (H20.get 2 kr) kr .nil), ?_, H20.below⟩
        exact congrArg wv (Ec.plusW_3 hb1 hb2 he1).symm
    · skip
      refine g_cond_t kr kr ?_
      refine g_sreg [0, 1] kr kr ?_
      refine s_load H3 (some 22) 51 (.tmp 2) 2 b1 (Value.cells (wv p)) 51 (0, 0) kr kr kr kr kr ?_
      refine s_store H3 0 [(b3, Oc (wv p) 51), (b2, Oc (wv q) 51), (b1, Oc (wv p) 51)] 51 (.tmp 4) (.tmp 22) b3 (0) Z13 (Value.cells (wv p)) 51 (wv p) kr kr kr kr kr kr (of_decide_eq_true kr) kr kr ?_
      intro w21 H21; clear H3
      refine s_nil ?_
      refine g_ret kr ?_
      show ∃ vs, Res _ _ _ _ vs ∧ _
      refine ⟨[wv p], (.agg (b := b3) (Value.cells (wv p)) 51 (0, 0) kr (H21.get 0 kr) kr .nil), ?_, H21.below⟩
      exact congrArg wv (Ec.plusW_2 hb1 hb2).symm
  · skip
    refine g_cond_t kr kr ?_
    refine g_sreg [0, 1] kr kr ?_
    refine s_load H3 (some 18) 51 (.tmp 3) 1 b2 (Value.cells (wv q)) 51 (0, 0) kr kr kr kr kr ?_
    refine s_store H3 0 [(b3, Oc (wv q) 51), (b2, Oc (wv q) 51), (b1, Oc (wv p) 51)] 51 (.tmp 4) (.tmp 18) b3 (0) Z13 (Value.cells (wv q)) 51 (wv q) kr kr kr kr kr kr (of_decide_eq_true kr) kr kr ?_
    intro w22 H22; clear H3
    refine s_nil ?_
    refine g_ret kr ?_
    show ∃ vs, Res _ _ _ _ vs ∧ _
    refine ⟨[wv q], (.agg (b := b3) (Value.cells (wv q)) 51 (0, 0) kr (H22.get 0 kr) kr .nil), ?_, H22.below⟩
    exact congrArg wv (Ec.plusW_1 hb1).symm

theorem plusM_fn (p : Ec.Wp) (hp : p.Ok) (k : Nat) : Fn Try.prog 36 #[wv (Ec.mults p k), wv p] (wv (Ec.mults p (k + 1))) := plus_fn (Ec.mults p k) p (Ec.mults_ok hp k) hp

set_option maxRecDepth 100000 in
set_option maxHeartbeats 2000000 in
theorem narrow_fn (p : Ec.Wp) (hp : p.Ok) (P : Ec.Pt Ec.Fp) (hs : Ec.Stands p P) : Fn Try.prog 37 #[wv p] (pv (Ec.ofPt P)) := by
  refine Fn.intro (c := codeOf Try.f37) [.cell 2 26] 33 Try.func37 kr kr kr fun w => ?_
  have H0 := St.start w
  refine g_sreg [0, 1] kr kr ?_
  refine s_box H0 (some 1) 51 (.tmp 0) (wv p) kr kr kr ?_
  intro b1 w1 H1; clear H0
  refine s_alloc H1 (some 2) 26 (.agg Z9) kr kr kr ?_
  intro b2 w2 H2; clear H1
  refine s_nil ?_
  refine g_seq kr ?_
  refine g_sreg [0, 1, 2] kr kr ?_
  refine s_val (some 6) (.pointer (some ⟨b1, 0, none⟩)) (fun w => kr) kr ?_
  refine s_val (some 7) (.pointer (some ⟨b1, 8, none⟩)) (fun w => kr) kr ?_
  refine s_load1 H2 (some 8) 4 (.tmp 7) 1 b1 8 (Value.cells (wv p)) 51 (0, 0) (.bool (Ec.Wp.b p)) kr kr kr kr kr kr ?_
  refine s_nil ?_
  cases hb1 : Ec.Wp.b p
  · skip
    refine g_cond_f kr kr ?_
    refine g_skip kr ?_
    show WP _ _ _ _ _ _
    refine g_sreg [0, 1, 2, 3, 4, 5, 6, 7, 8] kr kr ?_
    refine s_val (some 12) (.pointer (some ⟨b1, 9, none⟩)) (fun w => kr) kr ?_
    refine s_loadp H2 (some 13) 24 (.tmp 12) 1 b1 9 4 (Value.cells (wv p)) (Value.cells (uv (Ec.Wp.Z p))) 51 (0, 0) kr kr kr kr kr (of_decide_eq_true kr) kr ?_
    refine s_call H2 (some 14) 57 #[uv (Ec.Wp.Z p), .int .i64 0] (.tuple #[uv (finv (Ec.Wp.Z p) PR), .int .i64 0]) (inv0_fn (Ec.Wp.Z p) hp.Z (Ec.stands_nz hs hb1)) (fun w => kr) kr ?_
    intro w3 H3; clear H2
    refine s_val (some 11) (.tuple #[uv (finv (Ec.Wp.Z p) PR), .int .i64 0]) (fun w => kr) kr ?_
    refine s_val (some 15) (uv (finv (Ec.Wp.Z p) PR)) (fun w => kr) kr ?_
    refine s_val (some 16) (.int .i64 0) (fun w => kr) kr ?_
    refine s_alloc H3 (some 3) 24 (.agg Z4) kr kr kr ?_
    intro b3 w4 H4; clear H3
    refine s_store H4 0 [(b3, Oc (uv (finv (Ec.Wp.Z p) PR)) 24), (b2, Od Z9 26), (b1, Oc (wv p) 51)] 24 (.tmp 3) (.tmp 15) b3 (0) Z4 (Value.cells (uv (finv (Ec.Wp.Z p) PR))) 24 (uv (finv (Ec.Wp.Z p) PR)) kr kr kr kr kr kr (of_decide_eq_true kr) kr kr ?_
    intro w5 H5; clear H4
    refine s_val (some 4) (.int .i64 0) (fun w => kr) kr ?_
    refine s_nil ?_
    refine g_sreg [0, 1, 2, 3, 4] kr kr ?_
    refine s_load H5 (some 17) 24 (.tmp 3) 0 b3 (Value.cells (uv (finv (Ec.Wp.Z p) PR))) 24 (0, 0) kr kr kr kr kr ?_
    refine s_load H5 (some 18) 24 (.tmp 3) 0 b3 (Value.cells (uv (finv (Ec.Wp.Z p) PR))) 24 (0, 0) kr kr kr kr kr ?_
    refine s_call H5 (some 19) 31 #[uv (finv (Ec.Wp.Z p) PR), uv (finv (Ec.Wp.Z p) PR)] (uv (fMul (finv (Ec.Wp.Z p) PR) (finv (Ec.Wp.Z p) PR) PR)) (pmul_fn (finv (Ec.Wp.Z p) PR) (finv (Ec.Wp.Z p) PR) (fpw_lt pr_ok) (fpw_lt pr_ok)) (fun w => kr) kr ?_
    intro w6 H6; clear H5
    refine s_alloc H6 (some 5) 24 (.agg Z4) kr kr kr ?_
    intro b4 w7 H7; clear H6
    refine s_store H7 0 [(b4, Oc (uv (fMul (finv (Ec.Wp.Z p) PR) (finv (Ec.Wp.Z p) PR) PR)) 24), (b3, Oc (uv (finv (Ec.Wp.Z p) PR)) 24), (b2, Od Z9 26), (b1, Oc (wv p) 51)] 24 (.tmp 5) (.tmp 19) b4 (0) Z4 (Value.cells (uv (fMul (finv (Ec.Wp.Z p) PR) (finv (Ec.Wp.Z p) PR) PR))) 24 (uv (fMul (finv (Ec.Wp.Z p) PR) (finv (Ec.Wp.Z p) PR) PR)) kr kr kr kr kr kr (of_decide_eq_true kr) kr kr ?_
    intro w8 H8; clear H7
    refine s_nil ?_
    refine D2.g_sdraw [0, 1, 2, 3, 4, 5, 6, 7, 8, 9, 10, 11, 12, 13] [((some 20), fun _ => .pointer (some ⟨b1, 0, none⟩)), ((some 21), fun _ => .pointer (some ⟨b1, 0, none⟩)), ((some 22), fun _ => uv (Ec.Wp.X p)), ((some 23), fun _ => uv (fMul (finv (Ec.Wp.Z p) PR) (finv (Ec.Wp.Z p) PR) PR)), ((some 24), fun _ => uv (fMul (Ec.Wp.X p) (fMul (finv (Ec.Wp.Z p) PR) (finv (Ec.Wp.Z p) PR) PR) PR)), ((some 25), fun _ => .pointer (some ⟨b1, 0, none⟩)), ((some 26), fun _ => .pointer (some ⟨b1, 4, none⟩)), ((some 27), fun _ => uv (Ec.Wp.Y p)), ((some 28), fun _ => uv (fMul (finv (Ec.Wp.Z p) PR) (finv (Ec.Wp.Z p) PR) PR)), ((some 29), fun _ => uv (finv (Ec.Wp.Z p) PR)), ((some 30), fun _ => uv (fMul (fMul (finv (Ec.Wp.Z p) PR) (finv (Ec.Wp.Z p) PR) PR) (finv (Ec.Wp.Z p) PR) PR)), ((some 31), fun _ => uv (fMul (Ec.Wp.Y p) (fMul (fMul (finv (Ec.Wp.Z p) PR) (finv (Ec.Wp.Z p) PR) PR) (finv (Ec.Wp.Z p) PR) PR) PR)), ((some 32), fun _ => pv (Ec.Pd.mk (fMul (Ec.Wp.X p) (fMul (finv (Ec.Wp.Z p) PR) (finv (Ec.Wp.Z p) PR) PR) PR) (fMul (Ec.Wp.Y p) (fMul (fMul (finv (Ec.Wp.Z p) PR) (finv (Ec.Wp.Z p) PR) PR) (finv (Ec.Wp.Z p) PR) PR) PR) false)), (none, fun _ => undef)] (D2.Pre w.heap.size w (fun L g => [(true, (b4, Oc (uv (fMul (finv (Ec.Wp.Z p) PR) (finv (Ec.Wp.Z p) PR) PR)) 24)), (true, (b3, Oc (uv (finv (Ec.Wp.Z p) PR)) 24)), (true, (bif L 13 then (b2, Oc (pv (Ec.Pd.mk (fMul (Ec.Wp.X p) (fMul (finv (Ec.Wp.Z p) PR) (finv (Ec.Wp.Z p) PR) PR) PR) (fMul (Ec.Wp.Y p) (fMul (fMul (finv (Ec.Wp.Z p) PR) (finv (Ec.Wp.Z p) PR) PR) (finv (Ec.Wp.Z p) PR) PR) PR) false)) 26) else (b2, Od Z9 26))), (true, (b1, Oc (wv p) 51))]) (fun L g => True)) kr kr kr kr ⟨D2.StE.of H8.drew _ kr, trivial⟩ ⟨?_, ?_, ?_, ?_, ?_, ?_, ?_, ?_, ?_, ?_, ?_, ?_, ?_, ?_, trivial⟩ ?_
    · exact D2.gv_val (fun _ _ _ h => h) (fun g w => kr)
    · exact D2.gv_val (fun _ _ _ h => h) (fun g w => kr)
    · exact D2.gv_loadp 24 (.tmp 21) 3 (fun g => b1) 0 4 (Value.cells (wv p)) (Value.cells (uv (Ec.Wp.X p))) 51 (0, 0) (fun _ _ _ h => h) (fun g => kr) (fun g => kr) (fun L g hN => kr) kr (of_decide_eq_true kr) kr
    · exact D2.gv_load 24 (.tmp 5) 0 (fun g => b4) (Value.cells (uv (fMul (finv (Ec.Wp.Z p) PR) (finv (Ec.Wp.Z p) PR) PR))) 24 (0, 0) (fun _ _ _ h => h) (fun g => kr) (fun g => kr) (fun L g hN => kr) kr
    · exact D2.gv_call 31 #[uv (Ec.Wp.X p), uv (fMul (finv (Ec.Wp.Z p) PR) (finv (Ec.Wp.Z p) PR) PR)] (fun _ _ _ h => h) (pmul_fn (Ec.Wp.X p) (fMul (finv (Ec.Wp.Z p) PR) (finv (Ec.Wp.Z p) PR) PR) hp.X (fMul_lt pr_ok)) (fun g w => kr)
    · exact D2.gv_val (fun _ _ _ h => h) (fun g w => kr)
    · exact D2.gv_val (fun _ _ _ h => h) (fun g w => kr)
    · exact D2.gv_loadp 24 (.tmp 26) 3 (fun g => b1) 4 4 (Value.cells (wv p)) (Value.cells (uv (Ec.Wp.Y p))) 51 (0, 0) (fun _ _ _ h => h) (fun g => kr) (fun g => kr) (fun L g hN => kr) kr (of_decide_eq_true kr) kr
    · exact D2.gv_load 24 (.tmp 5) 0 (fun g => b4) (Value.cells (uv (fMul (finv (Ec.Wp.Z p) PR) (finv (Ec.Wp.Z p) PR) PR))) 24 (0, 0) (fun _ _ _ h => h) (fun g => kr) (fun g => kr) (fun L g hN => kr) kr
    · exact D2.gv_load 24 (.tmp 3) 1 (fun g => b3) (Value.cells (uv (finv (Ec.Wp.Z p) PR))) 24 (0, 0) (fun _ _ _ h => h) (fun g => kr) (fun g => kr) (fun L g hN => kr) kr
    · exact D2.gv_call 31 #[uv (fMul (finv (Ec.Wp.Z p) PR) (finv (Ec.Wp.Z p) PR) PR), uv (finv (Ec.Wp.Z p) PR)] (fun _ _ _ h => h) (pmul_fn (fMul (finv (Ec.Wp.Z p) PR) (finv (Ec.Wp.Z p) PR) PR) (finv (Ec.Wp.Z p) PR) (fMul_lt pr_ok) (fpw_lt pr_ok)) (fun g w => kr)
    · exact D2.gv_call 31 #[uv (Ec.Wp.Y p), uv (fMul (fMul (finv (Ec.Wp.Z p) PR) (finv (Ec.Wp.Z p) PR) PR) (finv (Ec.Wp.Z p) PR) PR)] (fun _ _ _ h => h) (pmul_fn (Ec.Wp.Y p) (fMul (fMul (finv (Ec.Wp.Z p) PR) (finv (Ec.Wp.Z p) PR) PR) (finv (Ec.Wp.Z p) PR) PR) hp.Y (fMul_lt pr_ok)) (fun g w => kr)
    · exact D2.gv_val (fun _ _ _ h => h) (fun g w => kr)
    · exact D2.gv_store 2 26 (.tmp 2) (.tmp 32) (fun g => b2) (fun g => 0) Z9 (Value.cells (pv (Ec.Pd.mk (fMul (Ec.Wp.X p) (fMul (finv (Ec.Wp.Z p) PR) (finv (Ec.Wp.Z p) PR) PR) PR) (fMul (Ec.Wp.Y p) (fMul (fMul (finv (Ec.Wp.Z p) PR) (finv (Ec.Wp.Z p) PR) PR) (finv (Ec.Wp.Z p) PR) PR) PR) false))) 26 (pv (Ec.Pd.mk (fMul (Ec.Wp.X p) (fMul (finv (Ec.Wp.Z p) PR) (finv (Ec.Wp.Z p) PR) PR) PR) (fMul (Ec.Wp.Y p) (fMul (fMul (finv (Ec.Wp.Z p) PR) (finv (Ec.Wp.Z p) PR) PR) (finv (Ec.Wp.Z p) PR) PR) PR) false)) (fun g => kr) (fun g => kr) (fun g => kr) kr kr (fun g => (of_decide_eq_true kr)) (fun g => kr) (fun L g hN => ⟨(by have hL13 : L 13 = false := hN.1; exact D2.ent_get' (p := true) (e := (bif L 13 then (b2, Oc (pv (Ec.Pd.mk (fMul (Ec.Wp.X p) (fMul (finv (Ec.Wp.Z p) PR) (finv (Ec.Wp.Z p) PR) PR) PR) (fMul (Ec.Wp.Y p) (fMul (fMul (finv (Ec.Wp.Z p) PR) (finv (Ec.Wp.Z p) PR) PR) (finv (Ec.Wp.Z p) PR) PR) PR) false)) 26) else (b2, Od Z9 26))) kr (by rfl) (by simp only [hL13, cond_true, cond_false] <;> rfl)), kr⟩) (fun L g hN hF => hF)
    intro L0 G9 w9 hall HL; clear H8
    have H9 : St w.heap.size w w9 [(b4, Oc (uv (fMul (finv (Ec.Wp.Z p) PR) (finv (Ec.Wp.Z p) PR) PR)) 24), (b3, Oc (uv (finv (Ec.Wp.Z p) PR)) 24), (b2, Oc (pv (Ec.Pd.mk (fMul (Ec.Wp.X p) (fMul (finv (Ec.Wp.Z p) PR) (finv (Ec.Wp.Z p) PR) PR) PR) (fMul (Ec.Wp.Y p) (fMul (fMul (finv (Ec.Wp.Z p) PR) (finv (Ec.Wp.Z p) PR) PR) (finv (Ec.Wp.Z p) PR) PR) PR) false)) 26), (b1, Oc (wv p) 51)] := by have e13 := hall 13 (Nat.le_of_ble_eq_true kr); have hS := D2.StE.st HL.1; simp only [e13, cond_true, D2.pres] at hS; exact hS
    clear HL hall
    refine g_ret kr ?_
    show ∃ vs, Res _ _ _ _ vs ∧ _
    refine ⟨[pv (Ec.Pd.mk (fMul (Ec.Wp.X p) (fMul (finv (Ec.Wp.Z p) PR) (finv (Ec.Wp.Z p) PR) PR) PR) (fMul (Ec.Wp.Y p) (fMul (fMul (finv (Ec.Wp.Z p) PR) (finv (Ec.Wp.Z p) PR) PR) (finv (Ec.Wp.Z p) PR) PR) PR) false)], (.agg (b := b2) (Value.cells (pv (Ec.Pd.mk (fMul (Ec.Wp.X p) (fMul (finv (Ec.Wp.Z p) PR) (finv (Ec.Wp.Z p) PR) PR) PR) (fMul (Ec.Wp.Y p) (fMul (fMul (finv (Ec.Wp.Z p) PR) (finv (Ec.Wp.Z p) PR) PR) (finv (Ec.Wp.Z p) PR) PR) PR) false))) 26 (0, 0) kr (H9.get 2 kr) kr .nil), ?_, H9.below⟩
    have e : Ec.narrowW p = Ec.narrowF p := by unfold Ec.narrowW; rw [hb1]; rfl
    rw [← Ec.narrow_rep hs, e]; rfl
  · skip
    refine g_cond_t kr kr ?_
    refine g_sreg [0, 1, 2] kr kr ?_
    refine s_val (some 9) (.pointer (some ⟨b1, 0, none⟩)) (fun w => kr) kr ?_
    refine s_loadp H2 (some 10) 26 (.tmp 9) 1 b1 0 9 (Value.cells (wv p)) (Value.cells (pv (Ec.Pd.mk (Ec.Wp.X p) (Ec.Wp.Y p) (Ec.Wp.b p)))) 51 (0, 0) kr kr kr kr kr (of_decide_eq_true kr) kr ?_
    refine s_store H2 0 [(b2, Oc (pv (Ec.Pd.mk (Ec.Wp.X p) (Ec.Wp.Y p) (Ec.Wp.b p))) 26), (b1, Oc (wv p) 51)] 26 (.tmp 2) (.tmp 10) b2 (0) Z9 (Value.cells (pv (Ec.Pd.mk (Ec.Wp.X p) (Ec.Wp.Y p) (Ec.Wp.b p)))) 26 (pv (Ec.Pd.mk (Ec.Wp.X p) (Ec.Wp.Y p) (Ec.Wp.b p))) kr kr kr kr kr kr (of_decide_eq_true kr) kr kr ?_
    intro w10 H10; clear H2
    refine s_nil ?_
    refine g_ret kr ?_
    show ∃ vs, Res _ _ _ _ vs ∧ _
    refine ⟨[pv (Ec.Pd.mk (Ec.Wp.X p) (Ec.Wp.Y p) (Ec.Wp.b p))], (.agg (b := b2) (Value.cells (pv (Ec.Pd.mk (Ec.Wp.X p) (Ec.Wp.Y p) (Ec.Wp.b p)))) 26 (0, 0) kr (H10.get 0 kr) kr .nil), ?_, H10.below⟩
    have e : Ec.narrowW p = Ec.Pd.mk p.X p.Y p.b := by unfold Ec.narrowW; rw [hb1]; rfl
    rw [← Ec.narrow_rep hs, e]; rfl
end Go.Proofs.Ytljhbhhpfkmemaa
