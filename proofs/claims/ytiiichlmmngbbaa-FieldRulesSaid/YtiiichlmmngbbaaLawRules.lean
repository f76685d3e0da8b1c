/-
  The law FieldRules.
-/
import Derived.Test.YtiiichlmmngbbaaLawM
namespace Go.Proofs.Ytiiichlmmngbbaa
open Go Go.RowKit
set_option linter.unusedVariables false
set_option maxRecDepth 100000 in
theorem rules1_0 (X Y bm : Nat) (hX : X < big) (hY : Y < big) : FnP Try.prog 52 #[uv X, uv Y, .pointer (some ⟨bm, 0, none⟩)] (fun w => w.heap[bm]? = some (.cells #[.int .i64 0] 3 (0, 0))) (uv (fAdd X Y PR)) := by
  refine FnP.intro (c := codeOf Try.f52) [.cell 5 24] 16 Try.func52 (by kernel_rfl) (by kernel_rfl) (by kernel_rfl) fun w hpre => ?_
  have H0 := St.start w
  refine g_sreg [0, 1, 2] (by kernel_rfl) (by kernel_rfl) ?_
  refine s_box H0 (some 3) 24 (.tmp 0) (uv X) (by kernel_rfl) (by kernel_rfl) (by kernel_rfl) ?_
  intro b1 w1 H1; clear H0
  refine s_box H1 (some 4) 24 (.tmp 1) (uv Y) (by kernel_rfl) (by kernel_rfl) (by kernel_rfl) ?_
  intro b2 w2 H2; clear H1
  refine s_alloc H2 (some 5) 24 (.agg #[.int .u64 0, .int .u64 0, .int .u64 0, .int .u64 0]) (by kernel_rfl) (by kernel_rfl) (by kernel_rfl) ?_
  intro b3 w3 H3; clear H2
  refine s_nil ?_
  refine g_sreg [0, 1, 2, 3, 4, 5, 6, 7, 8, 9] (by kernel_rfl) (by kernel_rfl) ?_
  refine s_load H3 (some 9) 24 (.tmp 3) 2 b1 (Value.cells (uv X)) 24 (0, 0) (by kernel_rfl) (by kernel_rfl) (by kernel_rfl) (by kernel_rfl) (by kernel_rfl) ?_
  refine s_load H3 (some 10) 24 (.tmp 4) 1 b2 (Value.cells (uv Y)) 24 (0, 0) (by kernel_rfl) (by kernel_rfl) (by kernel_rfl) (by kernel_rfl) (by kernel_rfl) ?_
  refine s_load1F H3 (some 11) 3 (.tmp 2) bm 0 #[.int .i64 0] 3 (0, 0) (.int .i64 0) (by kernel_rfl) (by kernel_rfl) (by kernel_rfl) hpre (lt_of_heap hpre) (by kernel_rfl) (by kernel_rfl) ?_
  refine s_call H3 (some 12) 39 #[uv X, uv Y, .int .i64 0] (.tuple #[uv (fAdd X Y PR), .int .i64 0]) (fadd0_fn X Y hX hY) (fun w => by kernel_rfl) (by kernel_rfl) ?_
  intro w4 H4; clear H3
  refine s_val (some 8) (.tuple #[uv (fAdd X Y PR), .int .i64 0]) (fun w => by kernel_rfl) (by kernel_rfl) ?_
  refine s_val (some 13) (uv (fAdd X Y PR)) (fun w => by kernel_rfl) (by kernel_rfl) ?_
  refine s_val (some 14) (.int .i64 0) (fun w => by kernel_rfl) (by kernel_rfl) ?_
  refine s_alloc H4 (some 6) 24 (.agg #[.int .u64 0, .int .u64 0, .int .u64 0, .int .u64 0]) (by kernel_rfl) (by kernel_rfl) (by kernel_rfl) ?_
  intro b4 w5 H5; clear H4
  refine s_store H5 0 [(b4, Obj.cells (Value.cells (uv (fAdd X Y PR))) 24 (0, 0)), (b3, Obj.cells #[.int .u64 0, .int .u64 0, .int .u64 0, .int .u64 0] 24 (0, 0)), (b2, Obj.cells (Value.cells (uv Y)) 24 (0, 0)), (b1, Obj.cells (Value.cells (uv X)) 24 (0, 0))] 24 (.tmp 6) (.tmp 13) b4 0 #[.int .u64 0, .int .u64 0, .int .u64 0, .int .u64 0] (Value.cells (uv (fAdd X Y PR))) 24 (uv (fAdd X Y PR)) (by kernel_rfl) (by kernel_rfl) (by kernel_rfl) (by kernel_rfl) (by kernel_rfl) (by kernel_rfl) (of_decide_eq_true (by kernel_rfl)) (by kernel_rfl) (by kernel_rfl) ?_
  intro w6 H6; clear H5
  refine s_val (some 7) (.int .i64 0) (fun w => by kernel_rfl) (by kernel_rfl) ?_
  refine s_nil ?_
  refine g_sreg [0, 1] (by kernel_rfl) (by kernel_rfl) ?_
  refine s_load H6 (some 15) 24 (.tmp 6) 0 b4 (Value.cells (uv (fAdd X Y PR))) 24 (0, 0) (by kernel_rfl) (by kernel_rfl) (by kernel_rfl) (by kernel_rfl) (by kernel_rfl) ?_
  refine s_store H6 1 [(b4, Obj.cells (Value.cells (uv (fAdd X Y PR))) 24 (0, 0)), (b3, Obj.cells (Value.cells (uv (fAdd X Y PR))) 24 (0, 0)), (b2, Obj.cells (Value.cells (uv Y)) 24 (0, 0)), (b1, Obj.cells (Value.cells (uv X)) 24 (0, 0))] 24 (.tmp 5) (.tmp 15) b3 0 #[.int .u64 0, .int .u64 0, .int .u64 0, .int .u64 0] (Value.cells (uv (fAdd X Y PR))) 24 (uv (fAdd X Y PR)) (by kernel_rfl) (by kernel_rfl) (by kernel_rfl) (by kernel_rfl) (by kernel_rfl) (by kernel_rfl) (of_decide_eq_true (by kernel_rfl)) (by kernel_rfl) (by kernel_rfl) ?_
  intro w7 H7; clear H6
  refine s_nil ?_
  refine g_ret (by kernel_rfl) ?_
  show ∃ vs, Res _ _ _ _ vs ∧ _
  refine ⟨[uv (fAdd X Y PR)], (.agg (b := b3) (Value.cells (uv (fAdd X Y PR))) 24 (0, 0) (by kernel_rfl) (H7.get 1 (by kernel_rfl)) (by kernel_rfl) .nil), ?_, H7.below⟩
  rfl

set_option maxRecDepth 100000 in
theorem rules2_0 (X Y bm : Nat) (hX : X < big) (hY : Y < big) : FnP Try.prog 53 #[uv X, uv Y, .pointer (some ⟨bm, 0, none⟩)] (fun w => w.heap[bm]? = some (.cells #[.int .i64 0] 3 (0, 0))) (uv (fMul X Y PR)) := by
  refine FnP.intro (c := codeOf Try.f53) [.cell 5 24] 16 Try.func53 (by kernel_rfl) (by kernel_rfl) (by kernel_rfl) fun w hpre => ?_
  have H0 := St.start w
  refine g_sreg [0, 1, 2] (by kernel_rfl) (by kernel_rfl) ?_
  refine s_box H0 (some 3) 24 (.tmp 0) (uv X) (by kernel_rfl) (by kernel_rfl) (by kernel_rfl) ?_
  intro b1 w1 H1; clear H0
  refine s_box H1 (some 4) 24 (.tmp 1) (uv Y) (by kernel_rfl) (by kernel_rfl) (by kernel_rfl) ?_
  intro b2 w2 H2; clear H1
  refine s_alloc H2 (some 5) 24 (.agg #[.int .u64 0, .int .u64 0, .int .u64 0, .int .u64 0]) (by kernel_rfl) (by kernel_rfl) (by kernel_rfl) ?_
  intro b3 w3 H3; clear H2
  refine s_nil ?_
  refine g_sreg [0, 1, 2, 3, 4, 5, 6, 7, 8, 9] (by kernel_rfl) (by kernel_rfl) ?_
  refine s_load H3 (some 9) 24 (.tmp 3) 2 b1 (Value.cells (uv X)) 24 (0, 0) (by kernel_rfl) (by kernel_rfl) (by kernel_rfl) (by kernel_rfl) (by kernel_rfl) ?_
  refine s_load H3 (some 10) 24 (.tmp 4) 1 b2 (Value.cells (uv Y)) 24 (0, 0) (by kernel_rfl) (by kernel_rfl) (by kernel_rfl) (by kernel_rfl) (by kernel_rfl) ?_
  refine s_load1F H3 (some 11) 3 (.tmp 2) bm 0 #[.int .i64 0] 3 (0, 0) (.int .i64 0) (by kernel_rfl) (by kernel_rfl) (by kernel_rfl) hpre (lt_of_heap hpre) (by kernel_rfl) (by kernel_rfl) ?_
  refine s_call H3 (some 12) 41 #[uv X, uv Y, .int .i64 0] (.tuple #[uv (fMul X Y PR), .int .i64 0]) (fmul0_fn X Y hX hY) (fun w => by kernel_rfl) (by kernel_rfl) ?_
  intro w4 H4; clear H3
  refine s_val (some 8) (.tuple #[uv (fMul X Y PR), .int .i64 0]) (fun w => by kernel_rfl) (by kernel_rfl) ?_
  refine s_val (some 13) (uv (fMul X Y PR)) (fun w => by kernel_rfl) (by kernel_rfl) ?_
  refine s_val (some 14) (.int .i64 0) (fun w => by kernel_rfl) (by kernel_rfl) ?_
  refine s_alloc H4 (some 6) 24 (.agg #[.int .u64 0, .int .u64 0, .int .u64 0, .int .u64 0]) (by kernel_rfl) (by kernel_rfl) (by kernel_rfl) ?_
  intro b4 w5 H5; clear H4
  refine s_store H5 0 [(b4, Obj.cells (Value.cells (uv (fMul X Y PR))) 24 (0, 0)), (b3, Obj.cells #[.int .u64 0, .int .u64 0, .int .u64 0, .int .u64 0] 24 (0, 0)), (b2, Obj.cells (Value.cells (uv Y)) 24 (0, 0)), (b1, Obj.cells (Value.cells (uv X)) 24 (0, 0))] 24 (.tmp 6) (.tmp 13) b4 0 #[.int .u64 0, .int .u64 0, .int .u64 0, .int .u64 0] (Value.cells (uv (fMul X Y PR))) 24 (uv (fMul X Y PR)) (by kernel_rfl) (by kernel_rfl) (by kernel_rfl) (by kernel_rfl) (by kernel_rfl) (by kernel_rfl) (of_decide_eq_true (by kernel_rfl)) (by kernel_rfl) (by kernel_rfl) ?_
  intro w6 H6; clear H5
  refine s_val (some 7) (.int .i64 0) (fun w => by kernel_rfl) (by kernel_rfl) ?_
  refine s_nil ?_
  refine g_sreg [0, 1] (by kernel_rfl) (by kernel_rfl) ?_
  refine s_load H6 (some 15) 24 (.tmp 6) 0 b4 (Value.cells (uv (fMul X Y PR))) 24 (0, 0) (by kernel_rfl) (by kernel_rfl) (by kernel_rfl) (by kernel_rfl) (by kernel_rfl) ?_
  refine s_store H6 1 [(b4, Obj.cells (Value.cells (uv (fMul X Y PR))) 24 (0, 0)), (b3, Obj.cells (Value.cells (uv (fMul X Y PR))) 24 (0, 0)), (b2, Obj.cells (Value.cells (uv Y)) 24 (0, 0)), (b1, Obj.cells (Value.cells (uv X)) 24 (0, 0))] 24 (.tmp 5) (.tmp 15) b3 0 #[.int .u64 0, .int .u64 0, .int .u64 0, .int .u64 0] (Value.cells (uv (fMul X Y PR))) 24 (uv (fMul X Y PR)) (by kernel_rfl) (by kernel_rfl) (by kernel_rfl) (by kernel_rfl) (by kernel_rfl) (by kernel_rfl) (of_decide_eq_true (by kernel_rfl)) (by kernel_rfl) (by kernel_rfl) ?_
  intro w7 H7; clear H6
  refine s_nil ?_
  refine g_ret (by kernel_rfl) ?_
  show ∃ vs, Res _ _ _ _ vs ∧ _
  refine ⟨[uv (fMul X Y PR)], (.agg (b := b3) (Value.cells (uv (fMul X Y PR))) 24 (0, 0) (by kernel_rfl) (H7.get 1 (by kernel_rfl)) (by kernel_rfl) .nil), ?_, H7.below⟩
  rfl

set_option maxRecDepth 100000 in
theorem rules3_0 (X Y bm : Nat) (hX : X < big) (hY : Y < big) : FnP Try.prog 54 #[uv X, uv Y, .pointer (some ⟨bm, 0, none⟩)] (fun w => w.heap[bm]? = some (.cells #[.int .i64 0] 3 (0, 0))) (uv (fSub X Y PR)) := by
  refine FnP.intro (c := codeOf Try.f54) [.cell 5 24] 16 Try.func54 (by kernel_rfl) (by kernel_rfl) (by kernel_rfl) fun w hpre => ?_
  have H0 := St.start w
  refine g_sreg [0, 1, 2] (by kernel_rfl) (by kernel_rfl) ?_
  refine s_box H0 (some 3) 24 (.tmp 0) (uv X) (by kernel_rfl) (by kernel_rfl) (by kernel_rfl) ?_
  intro b1 w1 H1; clear H0
  refine s_box H1 (some 4) 24 (.tmp 1) (uv Y) (by kernel_rfl) (by kernel_rfl) (by kernel_rfl) ?_
  intro b2 w2 H2; clear H1
  refine s_alloc H2 (some 5) 24 (.agg #[.int .u64 0, .int .u64 0, .int .u64 0, .int .u64 0]) (by kernel_rfl) (by kernel_rfl) (by kernel_rfl) ?_
  intro b3 w3 H3; clear H2
  refine s_nil ?_
  refine g_sreg [0, 1, 2, 3, 4, 5, 6, 7, 8, 9] (by kernel_rfl) (by kernel_rfl) ?_
  refine s_load H3 (some 9) 24 (.tmp 3) 2 b1 (Value.cells (uv X)) 24 (0, 0) (by kernel_rfl) (by kernel_rfl) (by kernel_rfl) (by kernel_rfl) (by kernel_rfl) ?_
  refine s_load H3 (some 10) 24 (.tmp 4) 1 b2 (Value.cells (uv Y)) 24 (0, 0) (by kernel_rfl) (by kernel_rfl) (by kernel_rfl) (by kernel_rfl) (by kernel_rfl) ?_
  refine s_load1F H3 (some 11) 3 (.tmp 2) bm 0 #[.int .i64 0] 3 (0, 0) (.int .i64 0) (by kernel_rfl) (by kernel_rfl) (by kernel_rfl) hpre (lt_of_heap hpre) (by kernel_rfl) (by kernel_rfl) ?_
  refine s_call H3 (some 12) 40 #[uv X, uv Y, .int .i64 0] (.tuple #[uv (fSub X Y PR), .int .i64 0]) (fsub0_fn X Y hX hY) (fun w => by kernel_rfl) (by kernel_rfl) ?_
  intro w4 H4; clear H3
  refine s_val (some 8) (.tuple #[uv (fSub X Y PR), .int .i64 0]) (fun w => by kernel_rfl) (by kernel_rfl) ?_
  refine s_val (some 13) (uv (fSub X Y PR)) (fun w => by kernel_rfl) (by kernel_rfl) ?_
  refine s_val (some 14) (.int .i64 0) (fun w => by kernel_rfl) (by kernel_rfl) ?_
  refine s_alloc H4 (some 6) 24 (.agg #[.int .u64 0, .int .u64 0, .int .u64 0, .int .u64 0]) (by kernel_rfl) (by kernel_rfl) (by kernel_rfl) ?_
  intro b4 w5 H5; clear H4
  refine s_store H5 0 [(b4, Obj.cells (Value.cells (uv (fSub X Y PR))) 24 (0, 0)), (b3, Obj.cells #[.int .u64 0, .int .u64 0, .int .u64 0, .int .u64 0] 24 (0, 0)), (b2, Obj.cells (Value.cells (uv Y)) 24 (0, 0)), (b1, Obj.cells (Value.cells (uv X)) 24 (0, 0))] 24 (.tmp 6) (.tmp 13) b4 0 #[.int .u64 0, .int .u64 0, .int .u64 0, .int .u64 0] (Value.cells (uv (fSub X Y PR))) 24 (uv (fSub X Y PR)) (by kernel_rfl) (by kernel_rfl) (by kernel_rfl) (by kernel_rfl) (by kernel_rfl) (by kernel_rfl) (of_decide_eq_true (by kernel_rfl)) (by kernel_rfl) (by kernel_rfl) ?_
  intro w6 H6; clear H5
  refine s_val (some 7) (.int .i64 0) (fun w => by kernel_rfl) (by kernel_rfl) ?_
  refine s_nil ?_
  refine g_sreg [0, 1] (by kernel_rfl) (by kernel_rfl) ?_
  refine s_load H6 (some 15) 24 (.tmp 6) 0 b4 (Value.cells (uv (fSub X Y PR))) 24 (0, 0) (by kernel_rfl) (by kernel_rfl) (by kernel_rfl) (by kernel_rfl) (by kernel_rfl) ?_
  refine s_store H6 1 [(b4, Obj.cells (Value.cells (uv (fSub X Y PR))) 24 (0, 0)), (b3, Obj.cells (Value.cells (uv (fSub X Y PR))) 24 (0, 0)), (b2, Obj.cells (Value.cells (uv Y)) 24 (0, 0)), (b1, Obj.cells (Value.cells (uv X)) 24 (0, 0))] 24 (.tmp 5) (.tmp 15) b3 0 #[.int .u64 0, .int .u64 0, .int .u64 0, .int .u64 0] (Value.cells (uv (fSub X Y PR))) 24 (uv (fSub X Y PR)) (by kernel_rfl) (by kernel_rfl) (by kernel_rfl) (by kernel_rfl) (by kernel_rfl) (by kernel_rfl) (of_decide_eq_true (by kernel_rfl)) (by kernel_rfl) (by kernel_rfl) ?_
  intro w7 H7; clear H6
  refine s_nil ?_
  refine g_ret (by kernel_rfl) ?_
  show ∃ vs, Res _ _ _ _ vs ∧ _
  refine ⟨[uv (fSub X Y PR)], (.agg (b := b3) (Value.cells (uv (fSub X Y PR))) 24 (0, 0) (by kernel_rfl) (H7.get 1 (by kernel_rfl)) (by kernel_rfl) .nil), ?_, H7.below⟩
  rfl

set_option maxRecDepth 100000 in
theorem rules1_1 (X Y bm : Nat) (hX : X < big) (hY : Y < big) : FnP Try.prog 52 #[uv X, uv Y, .pointer (some ⟨bm, 0, none⟩)] (fun w => w.heap[bm]? = some (.cells #[.int .i64 1] 3 (0, 0))) (uv (fAdd X Y NR)) := by
  refine FnP.intro (c := codeOf Try.f52) [.cell 5 24] 16 Try.func52 (by kernel_rfl) (by kernel_rfl) (by kernel_rfl) fun w hpre => ?_
  have H0 := St.start w
  refine g_sreg [0, 1, 2] (by kernel_rfl) (by kernel_rfl) ?_
  refine s_box H0 (some 3) 24 (.tmp 0) (uv X) (by kernel_rfl) (by kernel_rfl) (by kernel_rfl) ?_
  intro b1 w1 H1; clear H0
  refine s_box H1 (some 4) 24 (.tmp 1) (uv Y) (by kernel_rfl) (by kernel_rfl) (by kernel_rfl) ?_
  intro b2 w2 H2; clear H1
  refine s_alloc H2 (some 5) 24 (.agg #[.int .u64 0, .int .u64 0, .int .u64 0, .int .u64 0]) (by kernel_rfl) (by kernel_rfl) (by kernel_rfl) ?_
  intro b3 w3 H3; clear H2
  refine s_nil ?_
  refine g_sreg [0, 1, 2, 3, 4, 5, 6, 7, 8, 9] (by kernel_rfl) (by kernel_rfl) ?_
  refine s_load H3 (some 9) 24 (.tmp 3) 2 b1 (Value.cells (uv X)) 24 (0, 0) (by kernel_rfl) (by kernel_rfl) (by kernel_rfl) (by kernel_rfl) (by kernel_rfl) ?_
  refine s_load H3 (some 10) 24 (.tmp 4) 1 b2 (Value.cells (uv Y)) 24 (0, 0) (by kernel_rfl) (by kernel_rfl) (by kernel_rfl) (by kernel_rfl) (by kernel_rfl) ?_
  refine s_load1F H3 (some 11) 3 (.tmp 2) bm 0 #[.int .i64 1] 3 (0, 0) (.int .i64 1) (by kernel_rfl) (by kernel_rfl) (by kernel_rfl) hpre (lt_of_heap hpre) (by kernel_rfl) (by kernel_rfl) ?_
  refine s_call H3 (some 12) 39 #[uv X, uv Y, .int .i64 1] (.tuple #[uv (fAdd X Y NR), .int .i64 0]) (fadd1_fn X Y hX hY) (fun w => by kernel_rfl) (by kernel_rfl) ?_
  intro w4 H4; clear H3
  refine s_val (some 8) (.tuple #[uv (fAdd X Y NR), .int .i64 0]) (fun w => by kernel_rfl) (by kernel_rfl) ?_
  refine s_val (some 13) (uv (fAdd X Y NR)) (fun w => by kernel_rfl) (by kernel_rfl) ?_
  refine s_val (some 14) (.int .i64 0) (fun w => by kernel_rfl) (by kernel_rfl) ?_
  refine s_alloc H4 (some 6) 24 (.agg #[.int .u64 0, .int .u64 0, .int .u64 0, .int .u64 0]) (by kernel_rfl) (by kernel_rfl) (by kernel_rfl) ?_
  intro b4 w5 H5; clear H4
  refine s_store H5 0 [(b4, Obj.cells (Value.cells (uv (fAdd X Y NR))) 24 (0, 0)), (b3, Obj.cells #[.int .u64 0, .int .u64 0, .int .u64 0, .int .u64 0] 24 (0, 0)), (b2, Obj.cells (Value.cells (uv Y)) 24 (0, 0)), (b1, Obj.cells (Value.cells (uv X)) 24 (0, 0))] 24 (.tmp 6) (.tmp 13) b4 0 #[.int .u64 0, .int .u64 0, .int .u64 0, .int .u64 0] (Value.cells (uv (fAdd X Y NR))) 24 (uv (fAdd X Y NR)) (by kernel_rfl) (by kernel_rfl) (by kernel_rfl) (by kernel_rfl) (by kernel_rfl) (by kernel_rfl) (of_decide_eq_true (by kernel_rfl)) (by kernel_rfl) (by kernel_rfl) ?_
  intro w6 H6; clear H5
  refine s_val (some 7) (.int .i64 0) (fun w => by kernel_rfl) (by kernel_rfl) ?_
  refine s_nil ?_
  refine g_sreg [0, 1] (by kernel_rfl) (by kernel_rfl) ?_
  refine s_load H6 (some 15) 24 (.tmp 6) 0 b4 (Value.cells (uv (fAdd X Y NR))) 24 (0, 0) (by kernel_rfl) (by kernel_rfl) (by kernel_rfl) (by kernel_rfl) (by kernel_rfl) ?_
  refine s_store H6 1 [(b4, Obj.cells (Value.cells (uv (fAdd X Y NR))) 24 (0, 0)), (b3, Obj.cells (Value.cells (uv (fAdd X Y NR))) 24 (0, 0)), (b2, Obj.cells (Value.cells (uv Y)) 24 (0, 0)), (b1, Obj.cells (Value.cells (uv X)) 24 (0, 0))] 24 (.tmp 5) (.tmp 15) b3 0 #[.int .u64 0, .int .u64 0, .int .u64 0, .int .u64 0] (Value.cells (uv (fAdd X Y NR))) 24 (uv (fAdd X Y NR)) (by kernel_rfl) (by kernel_rfl) (by kernel_rfl) (by kernel_rfl) (by kernel_rfl) (by kernel_rfl) (of_decide_eq_true (by kernel_rfl)) (by kernel_rfl) (by kernel_rfl) ?_
  intro w7 H7; clear H6
  refine s_nil ?_
  refine g_ret (by kernel_rfl) ?_
  show ∃ vs, Res _ _ _ _ vs ∧ _
  refine ⟨[uv (fAdd X Y NR)], (.agg (b := b3) (Value.cells (uv (fAdd X Y NR))) 24 (0, 0) (by kernel_rfl) (H7.get 1 (by kernel_rfl)) (by kernel_rfl) .nil), ?_, H7.below⟩
  rfl

set_option maxRecDepth 100000 in
theorem rules2_1 (X Y bm : Nat) (hX : X < big) (hY : Y < big) : FnP Try.prog 53 #[uv X, uv Y, .pointer (some ⟨bm, 0, none⟩)] (fun w => w.heap[bm]? = some (.cells #[.int .i64 1] 3 (0, 0))) (uv (fMul X Y NR)) := by
  refine FnP.intro (c := codeOf Try.f53) [.cell 5 24] 16 Try.func53 (by kernel_rfl) (by kernel_rfl) (by kernel_rfl) fun w hpre => ?_
  have H0 := St.start w
  refine g_sreg [0, 1, 2] (by kernel_rfl) (by kernel_rfl) ?_
  refine s_box H0 (some 3) 24 (.tmp 0) (uv X) (by kernel_rfl) (by kernel_rfl) (by kernel_rfl) ?_
  intro b1 w1 H1; clear H0
  refine s_box H1 (some 4) 24 (.tmp 1) (uv Y) (by kernel_rfl) (by kernel_rfl) (by kernel_rfl) ?_
  intro b2 w2 H2; clear H1
  refine s_alloc H2 (some 5) 24 (.agg #[.int .u64 0, .int .u64 0, .int .u64 0, .int .u64 0]) (by kernel_rfl) (by kernel_rfl) (by kernel_rfl) ?_
  intro b3 w3 H3; clear H2
  refine s_nil ?_
  refine g_sreg [0, 1, 2, 3, 4, 5, 6, 7, 8, 9] (by kernel_rfl) (by kernel_rfl) ?_
  refine s_load H3 (some 9) 24 (.tmp 3) 2 b1 (Value.cells (uv X)) 24 (0, 0) (by kernel_rfl) (by kernel_rfl) (by kernel_rfl) (by kernel_rfl) (by kernel_rfl) ?_
  refine s_load H3 (some 10) 24 (.tmp 4) 1 b2 (Value.cells (uv Y)) 24 (0, 0) (by kernel_rfl) (by kernel_rfl) (by kernel_rfl) (by kernel_rfl) (by kernel_rfl) ?_
  refine s_load1F H3 (some 11) 3 (.tmp 2) bm 0 #[.int .i64 1] 3 (0, 0) (.int .i64 1) (by kernel_rfl) (by kernel_rfl) (by kernel_rfl) hpre (lt_of_heap hpre) (by kernel_rfl) (by kernel_rfl) ?_
  refine s_call H3 (some 12) 41 #[uv X, uv Y, .int .i64 1] (.tuple #[uv (fMul X Y NR), .int .i64 0]) (fmul1_fn X Y hX hY) (fun w => by kernel_rfl) (by kernel_rfl) ?_
  intro w4 H4; clear H3
  refine s_val (some 8) (.tuple #[uv (fMul X Y NR), .int .i64 0]) (fun w => by kernel_rfl) (by kernel_rfl) ?_
  refine s_val (some 13) (uv (fMul X Y NR)) (fun w => by kernel_rfl) (by kernel_rfl) ?_
  refine s_val (some 14) (.int .i64 0) (fun w => by kernel_rfl) (by kernel_rfl) ?_
  refine s_alloc H4 (some 6) 24 (.agg #[.int .u64 0, .int .u64 0, .int .u64 0, .int .u64 0]) (by kernel_rfl) (by kernel_rfl) (by kernel_rfl) ?_
  intro b4 w5 H5; clear H4
  refine s_store H5 0 [(b4, Obj.cells (Value.cells (uv (fMul X Y NR))) 24 (0, 0)), (b3, Obj.cells #[.int .u64 0, .int .u64 0, .int .u64 0, .int .u64 0] 24 (0, 0)), (b2, Obj.cells (Value.cells (uv Y)) 24 (0, 0)), (b1, Obj.cells (Value.cells (uv X)) 24 (0, 0))] 24 (.tmp 6) (.tmp 13) b4 0 #[.int .u64 0, .int .u64 0, .int .u64 0, .int .u64 0] (Value.cells (uv (fMul X Y NR))) 24 (uv (fMul X Y NR)) (by kernel_rfl) (by kernel_rfl) (by kernel_rfl) (by kernel_rfl) (by kernel_rfl) (by kernel_rfl) (of_decide_eq_true (by kernel_rfl)) (by kernel_rfl) (by kernel_rfl) ?_
  intro w6 H6; clear H5
  refine s_val (some 7) (.int .i64 0) (fun w => by kernel_rfl) (by kernel_rfl) ?_
  refine s_nil ?_
  refine g_sreg [0, 1] (by kernel_rfl) (by kernel_rfl) ?_
  refine s_load H6 (some 15) 24 (.tmp 6) 0 b4 (Value.cells (uv (fMul X Y NR))) 24 (0, 0) (by kernel_rfl) (by kernel_rfl) (by kernel_rfl) (by kernel_rfl) (by kernel_rfl) ?_
  refine s_store H6 1 [(b4, Obj.cells (Value.cells (uv (fMul X Y NR))) 24 (0, 0)), (b3, Obj.cells (Value.cells (uv (fMul X Y NR))) 24 (0, 0)), (b2, Obj.cells (Value.cells (uv Y)) 24 (0, 0)), (b1, Obj.cells (Value.cells (uv X)) 24 (0, 0))] 24 (.tmp 5) (.tmp 15) b3 0 #[.int .u64 0, .int .u64 0, .int .u64 0, .int .u64 0] (Value.cells (uv (fMul X Y NR))) 24 (uv (fMul X Y NR)) (by kernel_rfl) (by kernel_rfl) (by kernel_rfl) (by kernel_rfl) (by kernel_rfl) (by kernel_rfl) (of_decide_eq_true (by kernel_rfl)) (by kernel_rfl) (by kernel_rfl) ?_
  intro w7 H7; clear H6
  refine s_nil ?_
  refine g_ret (by kernel_rfl) ?_
  show ∃ vs, Res _ _ _ _ vs ∧ _
  refine ⟨[uv (fMul X Y NR)], (.agg (b := b3) (Value.cells (uv (fMul X Y NR))) 24 (0, 0) (by kernel_rfl) (H7.get 1 (by kernel_rfl)) (by kernel_rfl) .nil), ?_, H7.below⟩
  rfl

set_option maxRecDepth 100000 in
theorem rules3_1 (X Y bm : Nat) (hX : X < big) (hY : Y < big) : FnP Try.prog 54 #[uv X, uv Y, .pointer (some ⟨bm, 0, none⟩)] (fun w => w.heap[bm]? = some (.cells #[.int .i64 1] 3 (0, 0))) (uv (fSub X Y NR)) := by
  refine FnP.intro (c := codeOf Try.f54) [.cell 5 24] 16 Try.func54 (by kernel_rfl) (by kernel_rfl) (by kernel_rfl) fun w hpre => ?_
  have H0 := St.start w
  refine g_sreg [0, 1, 2] (by kernel_rfl) (by kernel_rfl) ?_
  refine s_box H0 (some 3) 24 (.tmp 0) (uv X) (by kernel_rfl) (by kernel_rfl) (by kernel_rfl) ?_
  intro b1 w1 H1; clear H0
  refine s_box H1 (some 4) 24 (.tmp 1) (uv Y) (by kernel_rfl) (by kernel_rfl) (by kernel_rfl) ?_
  intro b2 w2 H2; clear H1
  refine s_alloc H2 (some 5) 24 (.agg #[.int .u64 0, .int .u64 0, .int .u64 0, .int .u64 0]) (by kernel_rfl) (by kernel_rfl) (by kernel_rfl) ?_
  intro b3 w3 H3; clear H2
  refine s_nil ?_
  refine g_sreg [0, 1, 2, 3, 4, 5, 6, 7, 8, 9] (by kernel_rfl) (by kernel_rfl) ?_
  refine s_load H3 (some 9) 24 (.tmp 3) 2 b1 (Value.cells (uv X)) 24 (0, 0) (by kernel_rfl) (by kernel_rfl) (by kernel_rfl) (by kernel_rfl) (by kernel_rfl) ?_
  refine s_load H3 (some 10) 24 (.tmp 4) 1 b2 (Value.cells (uv Y)) 24 (0, 0) (by kernel_rfl) (by kernel_rfl) (by kernel_rfl) (by kernel_rfl) (by kernel_rfl) ?_
  refine s_load1F H3 (some 11) 3 (.tmp 2) bm 0 #[.int .i64 1] 3 (0, 0) (.int .i64 1) (by kernel_rfl) (by kernel_rfl) (by kernel_rfl) hpre (lt_of_heap hpre) (by kernel_rfl) (by kernel_rfl) ?_
  refine s_call H3 (some 12) 40 #[uv X, uv Y, .int .i64 1] (.tuple #[uv (fSub X Y NR), .int .i64 0]) (fsub1_fn X Y hX hY) (fun w => by kernel_rfl) (by kernel_rfl) ?_
  intro w4 H4; clear H3
  refine s_val (some 8) (.tuple #[uv (fSub X Y NR), .int .i64 0]) (fun w => by kernel_rfl) (by kernel_rfl) ?_
  refine s_val (some 13) (uv (fSub X Y NR)) (fun w => by kernel_rfl) (by kernel_rfl) ?_
  refine s_val (some 14) (.int .i64 0) (fun w => by kernel_rfl) (by kernel_rfl) ?_
  refine s_alloc H4 (some 6) 24 (.agg #[.int .u64 0, .int .u64 0, .int .u64 0, .int .u64 0]) (by kernel_rfl) (by kernel_rfl) (by kernel_rfl) ?_
  intro b4 w5 H5; clear H4
  refine s_store H5 0 [(b4, Obj.cells (Value.cells (uv (fSub X Y NR))) 24 (0, 0)), (b3, Obj.cells #[.int .u64 0, .int .u64 0, .int .u64 0, .int .u64 0] 24 (0, 0)), (b2, Obj.cells (Value.cells (uv Y)) 24 (0, 0)), (b1, Obj.cells (Value.cells (uv X)) 24 (0, 0))] 24 (.tmp 6) (.tmp 13) b4 0 #[.int .u64 0, .int .u64 0, .int .u64 0, .int .u64 0] (Value.cells (uv (fSub X Y NR))) 24 (uv (fSub X Y NR)) (by kernel_rfl) (by kernel_rfl) (by kernel_rfl) (by kernel_rfl) (by kernel_rfl) (by kernel_rfl) (of_decide_eq_true (by kernel_rfl)) (by kernel_rfl) (by kernel_rfl) ?_
  intro w6 H6; clear H5
  refine s_val (some 7) (.int .i64 0) (fun w => by kernel_rfl) (by kernel_rfl) ?_
  refine s_nil ?_
  refine g_sreg [0, 1] (by kernel_rfl) (by kernel_rfl) ?_
  refine s_load H6 (some 15) 24 (.tmp 6) 0 b4 (Value.cells (uv (fSub X Y NR))) 24 (0, 0) (by kernel_rfl) (by kernel_rfl) (by kernel_rfl) (by kernel_rfl) (by kernel_rfl) ?_
  refine s_store H6 1 [(b4, Obj.cells (Value.cells (uv (fSub X Y NR))) 24 (0, 0)), (b3, Obj.cells (Value.cells (uv (fSub X Y NR))) 24 (0, 0)), (b2, Obj.cells (Value.cells (uv Y)) 24 (0, 0)), (b1, Obj.cells (Value.cells (uv X)) 24 (0, 0))] 24 (.tmp 5) (.tmp 15) b3 0 #[.int .u64 0, .int .u64 0, .int .u64 0, .int .u64 0] (Value.cells (uv (fSub X Y NR))) 24 (uv (fSub X Y NR)) (by kernel_rfl) (by kernel_rfl) (by kernel_rfl) (by kernel_rfl) (by kernel_rfl) (by kernel_rfl) (of_decide_eq_true (by kernel_rfl)) (by kernel_rfl) (by kernel_rfl) ?_
  intro w7 H7; clear H6
  refine s_nil ?_
  refine g_ret (by kernel_rfl) ?_
  show ∃ vs, Res _ _ _ _ vs ∧ _
  refine ⟨[uv (fSub X Y NR)], (.agg (b := b3) (Value.cells (uv (fSub X Y NR))) 24 (0, 0) (by kernel_rfl) (H7.get 1 (by kernel_rfl)) (by kernel_rfl) .nil), ?_, H7.below⟩
  rfl

set_option maxRecDepth 100000 in
theorem rules0 (A B C : Nat) (hA : A < big) (hB : B < big) (hC : C < big) (n : Int) (hw : n % 2 = 0) : Fn Try.prog 14 #[uv A, uv B, uv C, .int .i64 n] (.bool true) := by
  refine Fn.intro (c := codeOf Try.f14) [.tmp 8] 118 Try.func14 (by kernel_rfl) (by kernel_rfl) (by kernel_rfl) fun w => ?_
  have H0 := St.start w
  refine g_sreg [0, 1, 2, 3, 4] (by kernel_rfl) (by kernel_rfl) ?_
  refine s_box H0 (some 4) 24 (.tmp 0) (uv A) (by kernel_rfl) (by kernel_rfl) (by kernel_rfl) ?_
  intro b1 w1 H1; clear H0
  refine s_box H1 (some 5) 24 (.tmp 1) (uv B) (by kernel_rfl) (by kernel_rfl) (by kernel_rfl) ?_
  intro b2 w2 H2; clear H1
  refine s_box H2 (some 6) 24 (.tmp 2) (uv C) (by kernel_rfl) (by kernel_rfl) (by kernel_rfl) ?_
  intro b3 w3 H3; clear H2
  refine s_box H3 (some 7) 3 (.tmp 3) (.int .i64 n) (by kernel_rfl) (by kernel_rfl) (by kernel_rfl) ?_
  intro b4 w4 H4; clear H3
  refine s_val (some 8) (.bool false) (fun w => by kernel_rfl) (by kernel_rfl) ?_
  refine s_nil ?_
  refine g_sreg [0, 1, 2] (by kernel_rfl) (by kernel_rfl) ?_
  refine s_load1 H4 (some 13) 3 (.tmp 7) 0 b4 0 #[.int .i64 n] 3 (0, 0) (.int .i64 n) (by kernel_rfl) (by kernel_rfl) (by kernel_rfl) (by kernel_rfl) (by kernel_rfl) (by kernel_rfl) ?_
  refine s_valE (some 14) (.int .i64 (bits .and .i64 n 1)) (.int .i64 0) (fun w => by kernel_rfl) (int_eq (by rw [i64_and1]; exact hw)) (by kernel_rfl) ?_
  refine s_store H4 0 [(b4, Obj.cells #[.int .i64 0] 3 (0, 0)), (b3, Obj.cells (Value.cells (uv C)) 24 (0, 0)), (b2, Obj.cells (Value.cells (uv B)) 24 (0, 0)), (b1, Obj.cells (Value.cells (uv A)) 24 (0, 0))] 3 (.tmp 7) (.tmp 14) b4 0 #[.int .i64 n] #[.int .i64 0] 3 (.int .i64 0) (by kernel_rfl) (by kernel_rfl) (by kernel_rfl) (by kernel_rfl) (by kernel_rfl) (by kernel_rfl) (of_decide_eq_true (by kernel_rfl)) (by kernel_rfl) (by kernel_rfl) ?_
  intro w5 H5; clear H4
  refine s_nil ?_
  refine g_sreg [0, 1] (by kernel_rfl) (by kernel_rfl) ?_
  refine s_val (some 15) (.func (.func 52) #[] #[.pointer (some ⟨b4, 0, none⟩)]) (fun w => by kernel_rfl) (by kernel_rfl) ?_
  refine s_val (some 9) (.func (.func 52) #[] #[.pointer (some ⟨b4, 0, none⟩)]) (fun w => by kernel_rfl) (by kernel_rfl) ?_
  refine s_nil ?_
  refine g_sreg [0, 1] (by kernel_rfl) (by kernel_rfl) ?_
  refine s_val (some 16) (.func (.func 53) #[] #[.pointer (some ⟨b4, 0, none⟩)]) (fun w => by kernel_rfl) (by kernel_rfl) ?_
  refine s_val (some 10) (.func (.func 53) #[] #[.pointer (some ⟨b4, 0, none⟩)]) (fun w => by kernel_rfl) (by kernel_rfl) ?_
  refine s_nil ?_
  refine g_sreg [0, 1] (by kernel_rfl) (by kernel_rfl) ?_
  refine s_val (some 17) (.func (.func 54) #[] #[.pointer (some ⟨b4, 0, none⟩)]) (fun w => by kernel_rfl) (by kernel_rfl) ?_
  refine s_val (some 11) (.func (.func 54) #[] #[.pointer (some ⟨b4, 0, none⟩)]) (fun w => by kernel_rfl) (by kernel_rfl) ?_
  refine s_nil ?_
  refine g_sreg [0, 1, 2, 3, 4, 5] (by kernel_rfl) (by kernel_rfl) ?_
  refine s_val (some 18) (.func (.func 52) #[] #[.pointer (some ⟨b4, 0, none⟩)]) (fun w => by kernel_rfl) (by kernel_rfl) ?_
  refine s_load H5 (some 19) 24 (.tmp 4) 3 b1 (Value.cells (uv A)) 24 (0, 0) (by kernel_rfl) (by kernel_rfl) (by kernel_rfl) (by kernel_rfl) (by kernel_rfl) ?_
  refine s_val (some 20) (.agg #[.int .u64 0, .int .u64 0, .int .u64 0, .int .u64 0]) (fun w => by kernel_rfl) (by kernel_rfl) ?_
  refine s_callP H5 (some 21) 52 #[uv A, .agg #[.int .u64 0, .int .u64 0, .int .u64 0, .int .u64 0], .pointer (some ⟨b4, 0, none⟩)] (fun w => w.heap[b4]? = some (.cells #[.int .i64 0] 3 (0, 0))) (uv (fAdd A 0 PR)) (rules1_0 A 0 b4 hA (by unfold big; omega)) (H5.get 0 (by kernel_rfl)) (fun w => by kernel_rfl) (by kernel_rfl) ?_
  intro w6 H6; clear H5
  refine s_alloc H6 (some 12) 24 (.agg #[.int .u64 0, .int .u64 0, .int .u64 0, .int .u64 0]) (by kernel_rfl) (by kernel_rfl) (by kernel_rfl) ?_
  intro b5 w7 H7; clear H6
  refine s_store H7 0 [(b5, Obj.cells (Value.cells (uv (fAdd A 0 PR))) 24 (0, 0)), (b4, Obj.cells #[.int .i64 0] 3 (0, 0)), (b3, Obj.cells (Value.cells (uv C)) 24 (0, 0)), (b2, Obj.cells (Value.cells (uv B)) 24 (0, 0)), (b1, Obj.cells (Value.cells (uv A)) 24 (0, 0))] 24 (.tmp 12) (.tmp 21) b5 0 #[.int .u64 0, .int .u64 0, .int .u64 0, .int .u64 0] (Value.cells (uv (fAdd A 0 PR))) 24 (uv (fAdd A 0 PR)) (by kernel_rfl) (by kernel_rfl) (by kernel_rfl) (by kernel_rfl) (by kernel_rfl) (by kernel_rfl) (of_decide_eq_true (by kernel_rfl)) (by kernel_rfl) (by kernel_rfl) ?_
  intro w8 H8; clear H7
  refine s_nil ?_
  refine g_sdraw [0, 1, 2, 3, 4, 5, 6, 7, 8, 9, 10, 11, 12, 13, 14, 15, 16, 17, 18, 19, 20, 21, 22, 23, 24, 25, 26, 27, 28, 29, 30, 31, 32, 33, 34, 35, 36, 37, 38, 39, 40, 41, 42, 43, 44, 45, 46, 47, 48, 49, 50, 51, 52, 53, 54, 55, 56, 57, 58, 59, 60, 61, 62, 63, 64, 65, 66, 67, 68, 69, 70, 71, 72, 73, 74, 75, 76, 77, 78, 79, 80, 81, 82, 83, 84, 85, 86, 87, 88, 89, 90, 91, 92, 93, 94, 95, 96] [((some 22), fun _ => .bool true), ((some 23), fun _ => .bool true), ((some 24), fun _ => .func (.func 52) #[] #[.pointer (some ⟨b4, 0, none⟩)]), ((some 25), fun _ => uv A), ((some 26), fun _ => uv B), ((some 27), fun _ => uv (fAdd A B PR)), ((some 28), fun _ => .func (.func 52) #[] #[.pointer (some ⟨b4, 0, none⟩)]), ((some 29), fun _ => uv B), ((some 30), fun _ => uv A), ((some 31), fun _ => uv (fAdd B A PR)), ((some 32), fun _ => .bool true), ((some 33), fun _ => .bool true), ((some 34), fun _ => .bool true), ((some 35), fun _ => .func (.func 53) #[] #[.pointer (some ⟨b4, 0, none⟩)]), ((some 36), fun _ => uv A), ((some 37), fun _ => uv B), ((some 38), fun _ => uv (fMul A B PR)), ((some 39), fun _ => .func (.func 53) #[] #[.pointer (some ⟨b4, 0, none⟩)]), ((some 40), fun _ => uv B), ((some 41), fun _ => uv A), ((some 42), fun _ => uv (fMul B A PR)), ((some 43), fun _ => .bool true), ((some 44), fun _ => .bool true), ((some 45), fun _ => .bool true), ((some 46), fun _ => .func (.func 52) #[] #[.pointer (some ⟨b4, 0, none⟩)]), ((some 47), fun _ => .func (.func 52) #[] #[.pointer (some ⟨b4, 0, none⟩)]), ((some 48), fun _ => uv A), ((some 49), fun _ => uv B), ((some 50), fun _ => uv (fAdd A B PR)), ((some 51), fun _ => uv C), ((some 52), fun _ => uv (fAdd (fAdd A B PR) C PR)), ((some 53), fun _ => .func (.func 52) #[] #[.pointer (some ⟨b4, 0, none⟩)]), ((some 54), fun _ => uv A), ((some 55), fun _ => .func (.func 52) #[] #[.pointer (some ⟨b4, 0, none⟩)]), ((some 56), fun _ => uv B), ((some 57), fun _ => uv C), ((some 58), fun _ => uv (fAdd B C PR)), ((some 59), fun _ => uv (fAdd A (fAdd B C PR) PR)), ((some 60), fun _ => .bool true), ((some 61), fun _ => .bool true), ((some 62), fun _ => .bool true), ((some 63), fun _ => .func (.func 53) #[] #[.pointer (some ⟨b4, 0, none⟩)]), ((some 64), fun _ => .func (.func 53) #[] #[.pointer (some ⟨b4, 0, none⟩)]), ((some 65), fun _ => uv A), ((some 66), fun _ => uv B), ((some 67), fun _ => uv (fMul A B PR)), ((some 68), fun _ => uv C), ((some 69), fun _ => uv (fMul (fMul A B PR) C PR)), ((some 70), fun _ => .func (.func 53) #[] #[.pointer (some ⟨b4, 0, none⟩)]), ((some 71), fun _ => uv A), ((some 72), fun _ => .func (.func 53) #[] #[.pointer (some ⟨b4, 0, none⟩)]), ((some 73), fun _ => uv B), ((some 74), fun _ => uv C), ((some 75), fun _ => uv (fMul B C PR)), ((some 76), fun _ => uv (fMul A (fMul B C PR) PR)), ((some 77), fun _ => .bool true), ((some 78), fun _ => .bool true), ((some 79), fun _ => .bool true), ((some 80), fun _ => .func (.func 53) #[] #[.pointer (some ⟨b4, 0, none⟩)]), ((some 81), fun _ => uv A), ((some 82), fun _ => .func (.func 52) #[] #[.pointer (some ⟨b4, 0, none⟩)]), ((some 83), fun _ => uv B), ((some 84), fun _ => uv C), ((some 85), fun _ => uv (fAdd B C PR)), ((some 86), fun _ => uv (fMul A (fAdd B C PR) PR)), ((some 87), fun _ => .func (.func 52) #[] #[.pointer (some ⟨b4, 0, none⟩)]), ((some 88), fun _ => .func (.func 53) #[] #[.pointer (some ⟨b4, 0, none⟩)]), ((some 89), fun _ => uv A), ((some 90), fun _ => uv B), ((some 91), fun _ => uv (fMul A B PR)), ((some 92), fun _ => .func (.func 53) #[] #[.pointer (some ⟨b4, 0, none⟩)]), ((some 93), fun _ => uv A), ((some 94), fun _ => uv C), ((some 95), fun _ => uv (fMul A C PR)), ((some 96), fun _ => uv (fAdd (fMul A B PR) (fMul A C PR) PR)), ((some 97), fun _ => .bool true), ((some 98), fun _ => .bool true), ((some 99), fun _ => .bool true), ((some 100), fun _ => .func (.func 54) #[] #[.pointer (some ⟨b4, 0, none⟩)]), ((some 101), fun _ => .func (.func 52) #[] #[.pointer (some ⟨b4, 0, none⟩)]), ((some 102), fun _ => uv A), ((some 103), fun _ => uv B), ((some 104), fun _ => uv (fAdd A B PR)), ((some 105), fun _ => uv B), ((some 106), fun _ => uv (fSub (fAdd A B PR) B PR)), ((some 107), fun _ => uv (fAdd A 0 PR)), ((some 108), fun _ => .bool true), ((some 109), fun _ => .bool true), ((some 110), fun _ => .bool true), ((some 111), fun _ => .func (.func 54) #[] #[.pointer (some ⟨b4, 0, none⟩)]), ((some 112), fun _ => uv A), ((some 113), fun _ => uv A), ((some 114), fun _ => uv (fSub A A PR)), ((some 115), fun _ => .agg #[.int .u64 0, .int .u64 0, .int .u64 0, .int .u64 0]), ((some 116), fun _ => .bool true), ((some 117), fun _ => .bool true), ((some 8), fun _ => .bool true)] (fun L g x => St w.heap.size w x ([(b5, Obj.cells (Value.cells (uv (fAdd A 0 PR))) 24 (0, 0)), (b4, Obj.cells #[.int .i64 0] 3 (0, 0)), (b3, Obj.cells (Value.cells (uv C)) 24 (0, 0)), (b2, Obj.cells (Value.cells (uv B)) 24 (0, 0)), (b1, Obj.cells (Value.cells (uv A)) 24 (0, 0))])) (by kernel_rfl) (by kernel_rfl) (by kernel_rfl) (by kernel_rfl) (H8.drew) ⟨?_, ?_, ?_, ?_, ?_, ?_, ?_, ?_, ?_, ?_, ?_, ?_, ?_, ?_, ?_, ?_, ?_, ?_, ?_, ?_, ?_, ?_, ?_, ?_, ?_, ?_, ?_, ?_, ?_, ?_, ?_, ?_, ?_, ?_, ?_, ?_, ?_, ?_, ?_, ?_, ?_, ?_, ?_, ?_, ?_, ?_, ?_, ?_, ?_, ?_, ?_, ?_, ?_, ?_, ?_, ?_, ?_, ?_, ?_, ?_, ?_, ?_, ?_, ?_, ?_, ?_, ?_, ?_, ?_, ?_, ?_, ?_, ?_, ?_, ?_, ?_, ?_, ?_, ?_, ?_, ?_, ?_, ?_, ?_, ?_, ?_, ?_, ?_, ?_, ?_, ?_, ?_, ?_, ?_, ?_, ?_, ?_, trivial⟩ ?_
  · exact gv_call 43 #[] (fun _ _ _ h => h) alive02_fn (fun g w => by kernel_rfl)
  · exact gv_val (fun _ _ _ h => h) (fun g w => by kernel_rfl)
  · exact gv_val (fun _ _ _ h => h) (fun g w => by kernel_rfl)
  · exact gv_load 24 (.tmp 4) (fun _ => 4) (fun g => b1) (Value.cells (uv A)) 24 (0, 0) (fun _ _ _ h => h) (fun g => by kernel_rfl) (fun g => by kernel_rfl) (fun L g _ => by kernel_rfl) (by kernel_rfl)
  · exact gv_load 24 (.tmp 5) (fun _ => 3) (fun g => b2) (Value.cells (uv B)) 24 (0, 0) (fun _ _ _ h => h) (fun g => by kernel_rfl) (fun g => by kernel_rfl) (fun L g _ => by kernel_rfl) (by kernel_rfl)
  · exact gv_callP 52 #[uv A, uv B, .pointer (some ⟨b4, 0, none⟩)] (fun w => w.heap[b4]? = some (.cells #[.int .i64 0] 3 (0, 0))) (fun _ _ _ h => h) (rules1_0 A B b4 hA hB) (fun L g w _ h => h.get 1 (by kernel_rfl)) (fun g w => by kernel_rfl)
  · exact gv_val (fun _ _ _ h => h) (fun g w => by kernel_rfl)
  · exact gv_load 24 (.tmp 5) (fun _ => 3) (fun g => b2) (Value.cells (uv B)) 24 (0, 0) (fun _ _ _ h => h) (fun g => by kernel_rfl) (fun g => by kernel_rfl) (fun L g _ => by kernel_rfl) (by kernel_rfl)
  · exact gv_load 24 (.tmp 4) (fun _ => 4) (fun g => b1) (Value.cells (uv A)) 24 (0, 0) (fun _ _ _ h => h) (fun g => by kernel_rfl) (fun g => by kernel_rfl) (fun L g _ => by kernel_rfl) (by kernel_rfl)
  · exact gv_callP 52 #[uv B, uv A, .pointer (some ⟨b4, 0, none⟩)] (fun w => w.heap[b4]? = some (.cells #[.int .i64 0] 3 (0, 0))) (fun _ _ _ h => h) (rules1_0 B A b4 hB hA) (fun L g w _ h => h.get 1 (by kernel_rfl)) (fun g w => by kernel_rfl)
  · exact gv_opE (fun _ _ _ h => h) _ (V' := .bool (decide ((fAdd A B PR) = (fAdd B A PR)))) (fun g => by kernel_rfl) (fun g => (fun o w ho => eqU_run (x := (.tmp 27)) (y := (.tmp 31)) (fAdd A B PR) (fAdd B A PR) (fAdd_lt pr_ok) (fAdd_lt pr_ok) w ho (by kernel_rfl) (by kernel_rfl))) (by rw [decide_eq_true (fAdd_comm A B PR)] <;> rfl)
  · exact gv_val (fun _ _ _ h => h) (fun g w => by kernel_rfl)
  · exact gv_val (fun _ _ _ h => h) (fun g w => by kernel_rfl)
  · exact gv_val (fun _ _ _ h => h) (fun g w => by kernel_rfl)
  · exact gv_load 24 (.tmp 4) (fun _ => 4) (fun g => b1) (Value.cells (uv A)) 24 (0, 0) (fun _ _ _ h => h) (fun g => by kernel_rfl) (fun g => by kernel_rfl) (fun L g _ => by kernel_rfl) (by kernel_rfl)
  · exact gv_load 24 (.tmp 5) (fun _ => 3) (fun g => b2) (Value.cells (uv B)) 24 (0, 0) (fun _ _ _ h => h) (fun g => by kernel_rfl) (fun g => by kernel_rfl) (fun L g _ => by kernel_rfl) (by kernel_rfl)
  · exact gv_callP 53 #[uv A, uv B, .pointer (some ⟨b4, 0, none⟩)] (fun w => w.heap[b4]? = some (.cells #[.int .i64 0] 3 (0, 0))) (fun _ _ _ h => h) (rules2_0 A B b4 hA hB) (fun L g w _ h => h.get 1 (by kernel_rfl)) (fun g w => by kernel_rfl)
  · exact gv_val (fun _ _ _ h => h) (fun g w => by kernel_rfl)
  · exact gv_load 24 (.tmp 5) (fun _ => 3) (fun g => b2) (Value.cells (uv B)) 24 (0, 0) (fun _ _ _ h => h) (fun g => by kernel_rfl) (fun g => by kernel_rfl) (fun L g _ => by kernel_rfl) (by kernel_rfl)
  · exact gv_load 24 (.tmp 4) (fun _ => 4) (fun g => b1) (Value.cells (uv A)) 24 (0, 0) (fun _ _ _ h => h) (fun g => by kernel_rfl) (fun g => by kernel_rfl) (fun L g _ => by kernel_rfl) (by kernel_rfl)
  · exact gv_callP 53 #[uv B, uv A, .pointer (some ⟨b4, 0, none⟩)] (fun w => w.heap[b4]? = some (.cells #[.int .i64 0] 3 (0, 0))) (fun _ _ _ h => h) (rules2_0 B A b4 hB hA) (fun L g w _ h => h.get 1 (by kernel_rfl)) (fun g w => by kernel_rfl)
  · exact gv_opE (fun _ _ _ h => h) _ (V' := .bool (decide ((fMul A B PR) = (fMul B A PR)))) (fun g => by kernel_rfl) (fun g => (fun o w ho => eqU_run (x := (.tmp 38)) (y := (.tmp 42)) (fMul A B PR) (fMul B A PR) (fMul_lt pr_ok) (fMul_lt pr_ok) w ho (by kernel_rfl) (by kernel_rfl))) (by rw [decide_eq_true (fMul_comm A B PR)] <;> rfl)
  · exact gv_val (fun _ _ _ h => h) (fun g w => by kernel_rfl)
  · exact gv_val (fun _ _ _ h => h) (fun g w => by kernel_rfl)
  · exact gv_val (fun _ _ _ h => h) (fun g w => by kernel_rfl)
  · exact gv_val (fun _ _ _ h => h) (fun g w => by kernel_rfl)
  · exact gv_load 24 (.tmp 4) (fun _ => 4) (fun g => b1) (Value.cells (uv A)) 24 (0, 0) (fun _ _ _ h => h) (fun g => by kernel_rfl) (fun g => by kernel_rfl) (fun L g _ => by kernel_rfl) (by kernel_rfl)
  · exact gv_load 24 (.tmp 5) (fun _ => 3) (fun g => b2) (Value.cells (uv B)) 24 (0, 0) (fun _ _ _ h => h) (fun g => by kernel_rfl) (fun g => by kernel_rfl) (fun L g _ => by kernel_rfl) (by kernel_rfl)
  · exact gv_callP 52 #[uv A, uv B, .pointer (some ⟨b4, 0, none⟩)] (fun w => w.heap[b4]? = some (.cells #[.int .i64 0] 3 (0, 0))) (fun _ _ _ h => h) (rules1_0 A B b4 hA hB) (fun L g w _ h => h.get 1 (by kernel_rfl)) (fun g w => by kernel_rfl)
  · exact gv_load 24 (.tmp 6) (fun _ => 2) (fun g => b3) (Value.cells (uv C)) 24 (0, 0) (fun _ _ _ h => h) (fun g => by kernel_rfl) (fun g => by kernel_rfl) (fun L g _ => by kernel_rfl) (by kernel_rfl)
  · exact gv_callP 52 #[uv (fAdd A B PR), uv C, .pointer (some ⟨b4, 0, none⟩)] (fun w => w.heap[b4]? = some (.cells #[.int .i64 0] 3 (0, 0))) (fun _ _ _ h => h) (rules1_0 (fAdd A B PR) C b4 (fAdd_lt pr_ok) hC) (fun L g w _ h => h.get 1 (by kernel_rfl)) (fun g w => by kernel_rfl)
  · exact gv_val (fun _ _ _ h => h) (fun g w => by kernel_rfl)
  · exact gv_load 24 (.tmp 4) (fun _ => 4) (fun g => b1) (Value.cells (uv A)) 24 (0, 0) (fun _ _ _ h => h) (fun g => by kernel_rfl) (fun g => by kernel_rfl) (fun L g _ => by kernel_rfl) (by kernel_rfl)
  · exact gv_val (fun _ _ _ h => h) (fun g w => by kernel_rfl)
  · exact gv_load 24 (.tmp 5) (fun _ => 3) (fun g => b2) (Value.cells (uv B)) 24 (0, 0) (fun _ _ _ h => h) (fun g => by kernel_rfl) (fun g => by kernel_rfl) (fun L g _ => by kernel_rfl) (by kernel_rfl)
  · exact gv_load 24 (.tmp 6) (fun _ => 2) (fun g => b3) (Value.cells (uv C)) 24 (0, 0) (fun _ _ _ h => h) (fun g => by kernel_rfl) (fun g => by kernel_rfl) (fun L g _ => by kernel_rfl) (by kernel_rfl)
  · exact gv_callP 52 #[uv B, uv C, .pointer (some ⟨b4, 0, none⟩)] (fun w => w.heap[b4]? = some (.cells #[.int .i64 0] 3 (0, 0))) (fun _ _ _ h => h) (rules1_0 B C b4 hB hC) (fun L g w _ h => h.get 1 (by kernel_rfl)) (fun g w => by kernel_rfl)
  · exact gv_callP 52 #[uv A, uv (fAdd B C PR), .pointer (some ⟨b4, 0, none⟩)] (fun w => w.heap[b4]? = some (.cells #[.int .i64 0] 3 (0, 0))) (fun _ _ _ h => h) (rules1_0 A (fAdd B C PR) b4 hA (fAdd_lt pr_ok)) (fun L g w _ h => h.get 1 (by kernel_rfl)) (fun g w => by kernel_rfl)
  · exact gv_opE (fun _ _ _ h => h) _ (V' := .bool (decide ((fAdd (fAdd A B PR) C PR) = (fAdd A (fAdd B C PR) PR)))) (fun g => by kernel_rfl) (fun g => (fun o w ho => eqU_run (x := (.tmp 52)) (y := (.tmp 59)) (fAdd (fAdd A B PR) C PR) (fAdd A (fAdd B C PR) PR) (fAdd_lt pr_ok) (fAdd_lt pr_ok) w ho (by kernel_rfl) (by kernel_rfl))) (by rw [decide_eq_true (fAdd_assoc A B C PR)] <;> rfl)
  · exact gv_val (fun _ _ _ h => h) (fun g w => by kernel_rfl)
  · exact gv_val (fun _ _ _ h => h) (fun g w => by kernel_rfl)
  · exact gv_val (fun _ _ _ h => h) (fun g w => by kernel_rfl)
  · exact gv_val (fun _ _ _ h => h) (fun g w => by kernel_rfl)
  · exact gv_load 24 (.tmp 4) (fun _ => 4) (fun g => b1) (Value.cells (uv A)) 24 (0, 0) (fun _ _ _ h => h) (fun g => by kernel_rfl) (fun g => by kernel_rfl) (fun L g _ => by kernel_rfl) (by kernel_rfl)
  · exact gv_load 24 (.tmp 5) (fun _ => 3) (fun g => b2) (Value.cells (uv B)) 24 (0, 0) (fun _ _ _ h => h) (fun g => by kernel_rfl) (fun g => by kernel_rfl) (fun L g _ => by kernel_rfl) (by kernel_rfl)
  · exact gv_callP 53 #[uv A, uv B, .pointer (some ⟨b4, 0, none⟩)] (fun w => w.heap[b4]? = some (.cells #[.int .i64 0] 3 (0, 0))) (fun _ _ _ h => h) (rules2_0 A B b4 hA hB) (fun L g w _ h => h.get 1 (by kernel_rfl)) (fun g w => by kernel_rfl)
  · exact gv_load 24 (.tmp 6) (fun _ => 2) (fun g => b3) (Value.cells (uv C)) 24 (0, 0) (fun _ _ _ h => h) (fun g => by kernel_rfl) (fun g => by kernel_rfl) (fun L g _ => by kernel_rfl) (by kernel_rfl)
  · exact gv_callP 53 #[uv (fMul A B PR), uv C, .pointer (some ⟨b4, 0, none⟩)] (fun w => w.heap[b4]? = some (.cells #[.int .i64 0] 3 (0, 0))) (fun _ _ _ h => h) (rules2_0 (fMul A B PR) C b4 (fMul_lt pr_ok) hC) (fun L g w _ h => h.get 1 (by kernel_rfl)) (fun g w => by kernel_rfl)
  · exact gv_val (fun _ _ _ h => h) (fun g w => by kernel_rfl)
  · exact gv_load 24 (.tmp 4) (fun _ => 4) (fun g => b1) (Value.cells (uv A)) 24 (0, 0) (fun _ _ _ h => h) (fun g => by kernel_rfl) (fun g => by kernel_rfl) (fun L g _ => by kernel_rfl) (by kernel_rfl)
  · exact gv_val (fun _ _ _ h => h) (fun g w => by kernel_rfl)
  · exact gv_load 24 (.tmp 5) (fun _ => 3) (fun g => b2) (Value.cells (uv B)) 24 (0, 0) (fun _ _ _ h => h) (fun g => by kernel_rfl) (fun g => by kernel_rfl) (fun L g _ => by kernel_rfl) (by kernel_rfl)
  · exact gv_load 24 (.tmp 6) (fun _ => 2) (fun g => b3) (Value.cells (uv C)) 24 (0, 0) (fun _ _ _ h => h) (fun g => by kernel_rfl) (fun g => by kernel_rfl) (fun L g _ => by kernel_rfl) (by kernel_rfl)
  · exact gv_callP 53 #[uv B, uv C, .pointer (some ⟨b4, 0, none⟩)] (fun w => w.heap[b4]? = some (.cells #[.int .i64 0] 3 (0, 0))) (fun _ _ _ h => h) (rules2_0 B C b4 hB hC) (fun L g w _ h => h.get 1 (by kernel_rfl)) (fun g w => by kernel_rfl)
  · exact gv_callP 53 #[uv A, uv (fMul B C PR), .pointer (some ⟨b4, 0, none⟩)] (fun w => w.heap[b4]? = some (.cells #[.int .i64 0] 3 (0, 0))) (fun _ _ _ h => h) (rules2_0 A (fMul B C PR) b4 hA (fMul_lt pr_ok)) (fun L g w _ h => h.get 1 (by kernel_rfl)) (fun g w => by kernel_rfl)
  · exact gv_opE (fun _ _ _ h => h) _ (V' := .bool (decide ((fMul (fMul A B PR) C PR) = (fMul A (fMul B C PR) PR)))) (fun g => by kernel_rfl) (fun g => (fun o w ho => eqU_run (x := (.tmp 69)) (y := (.tmp 76)) (fMul (fMul A B PR) C PR) (fMul A (fMul B C PR) PR) (fMul_lt pr_ok) (fMul_lt pr_ok) w ho (by kernel_rfl) (by kernel_rfl))) (by rw [decide_eq_true (fMul_assoc A B C PR)] <;> rfl)
  · exact gv_val (fun _ _ _ h => h) (fun g w => by kernel_rfl)
  · exact gv_val (fun _ _ _ h => h) (fun g w => by kernel_rfl)
  · exact gv_val (fun _ _ _ h => h) (fun g w => by kernel_rfl)
  · exact gv_load 24 (.tmp 4) (fun _ => 4) (fun g => b1) (Value.cells (uv A)) 24 (0, 0) (fun _ _ _ h => h) (fun g => by kernel_rfl) (fun g => by kernel_rfl) (fun L g _ => by kernel_rfl) (by kernel_rfl)
  · exact gv_val (fun _ _ _ h => h) (fun g w => by kernel_rfl)
  · exact gv_load 24 (.tmp 5) (fun _ => 3) (fun g => b2) (Value.cells (uv B)) 24 (0, 0) (fun _ _ _ h => h) (fun g => by kernel_rfl) (fun g => by kernel_rfl) (fun L g _ => by kernel_rfl) (by kernel_rfl)
  · exact gv_load 24 (.tmp 6) (fun _ => 2) (fun g => b3) (Value.cells (uv C)) 24 (0, 0) (fun _ _ _ h => h) (fun g => by kernel_rfl) (fun g => by kernel_rfl) (fun L g _ => by kernel_rfl) (by kernel_rfl)
  · exact gv_callP 52 #[uv B, uv C, .pointer (some ⟨b4, 0, none⟩)] (fun w => w.heap[b4]? = some (.cells #[.int .i64 0] 3 (0, 0))) (fun _ _ _ h => h) (rules1_0 B C b4 hB hC) (fun L g w _ h => h.get 1 (by kernel_rfl)) (fun g w => by kernel_rfl)
  · exact gv_callP 53 #[uv A, uv (fAdd B C PR), .pointer (some ⟨b4, 0, none⟩)] (fun w => w.heap[b4]? = some (.cells #[.int .i64 0] 3 (0, 0))) (fun _ _ _ h => h) (rules2_0 A (fAdd B C PR) b4 hA (fAdd_lt pr_ok)) (fun L g w _ h => h.get 1 (by kernel_rfl)) (fun g w => by kernel_rfl)
  · exact gv_val (fun _ _ _ h => h) (fun g w => by kernel_rfl)
  · exact gv_val (fun _ _ _ h => h) (fun g w => by kernel_rfl)
  · exact gv_load 24 (.tmp 4) (fun _ => 4) (fun g => b1) (Value.cells (uv A)) 24 (0, 0) (fun _ _ _ h => h) (fun g => by kernel_rfl) (fun g => by kernel_rfl) (fun L g _ => by kernel_rfl) (by kernel_rfl)
  · exact gv_load 24 (.tmp 5) (fun _ => 3) (fun g => b2) (Value.cells (uv B)) 24 (0, 0) (fun _ _ _ h => h) (fun g => by kernel_rfl) (fun g => by kernel_rfl) (fun L g _ => by kernel_rfl) (by kernel_rfl)
  · exact gv_callP 53 #[uv A, uv B, .pointer (some ⟨b4, 0, none⟩)] (fun w => w.heap[b4]? = some (.cells #[.int .i64 0] 3 (0, 0))) (fun _ _ _ h => h) (rules2_0 A B b4 hA hB) (fun L g w _ h => h.get 1 (by kernel_rfl)) (fun g w => by kernel_rfl)
  · exact gv_val (fun _ _ _ h => h) (fun g w => by kernel_rfl)
  · exact gv_load 24 (.tmp 4) (fun _ => 4) (fun g => b1) (Value.cells (uv A)) 24 (0, 0) (fun _ _ _ h => h) (fun g => by kernel_rfl) (fun g => by kernel_rfl) (fun L g _ => by kernel_rfl) (by kernel_rfl)
  · exact gv_load 24 (.tmp 6) (fun _ => 2) (fun g => b3) (Value.cells (uv C)) 24 (0, 0) (fun _ _ _ h => h) (fun g => by kernel_rfl) (fun g => by kernel_rfl) (fun L g _ => by kernel_rfl) (by kernel_rfl)
  · exact gv_callP 53 #[uv A, uv C, .pointer (some ⟨b4, 0, none⟩)] (fun w => w.heap[b4]? = some (.cells #[.int .i64 0] 3 (0, 0))) (fun _ _ _ h => h) (rules2_0 A C b4 hA hC) (fun L g w _ h => h.get 1 (by kernel_rfl)) (fun g w => by kernel_rfl)
  · exact gv_callP 52 #[uv (fMul A B PR), uv (fMul A C PR), .pointer (some ⟨b4, 0, none⟩)] (fun w => w.heap[b4]? = some (.cells #[.int .i64 0] 3 (0, 0))) (fun _ _ _ h => h) (rules1_0 (fMul A B PR) (fMul A C PR) b4 (fMul_lt pr_ok) (fMul_lt pr_ok)) (fun L g w _ h => h.get 1 (by kernel_rfl)) (fun g w => by kernel_rfl)
  · exact gv_opE (fun _ _ _ h => h) _ (V' := .bool (decide ((fMul A (fAdd B C PR) PR) = (fAdd (fMul A B PR) (fMul A C PR) PR)))) (fun g => by kernel_rfl) (fun g => (fun o w ho => eqU_run (x := (.tmp 86)) (y := (.tmp 96)) (fMul A (fAdd B C PR) PR) (fAdd (fMul A B PR) (fMul A C PR) PR) (fMul_lt pr_ok) (fAdd_lt pr_ok) w ho (by kernel_rfl) (by kernel_rfl))) (by rw [decide_eq_true (fMul_share A B C PR)] <;> rfl)
  · exact gv_val (fun _ _ _ h => h) (fun g w => by kernel_rfl)
  · exact gv_val (fun _ _ _ h => h) (fun g w => by kernel_rfl)
  · exact gv_val (fun _ _ _ h => h) (fun g w => by kernel_rfl)
  · exact gv_val (fun _ _ _ h => h) (fun g w => by kernel_rfl)
  · exact gv_load 24 (.tmp 4) (fun _ => 4) (fun g => b1) (Value.cells (uv A)) 24 (0, 0) (fun _ _ _ h => h) (fun g => by kernel_rfl) (fun g => by kernel_rfl) (fun L g _ => by kernel_rfl) (by kernel_rfl)
  · exact gv_load 24 (.tmp 5) (fun _ => 3) (fun g => b2) (Value.cells (uv B)) 24 (0, 0) (fun _ _ _ h => h) (fun g => by kernel_rfl) (fun g => by kernel_rfl) (fun L g _ => by kernel_rfl) (by kernel_rfl)
  · exact gv_callP 52 #[uv A, uv B, .pointer (some ⟨b4, 0, none⟩)] (fun w => w.heap[b4]? = some (.cells #[.int .i64 0] 3 (0, 0))) (fun _ _ _ h => h) (rules1_0 A B b4 hA hB) (fun L g w _ h => h.get 1 (by kernel_rfl)) (fun g w => by kernel_rfl)
  · exact gv_load 24 (.tmp 5) (fun _ => 3) (fun g => b2) (Value.cells (uv B)) 24 (0, 0) (fun _ _ _ h => h) (fun g => by kernel_rfl) (fun g => by kernel_rfl) (fun L g _ => by kernel_rfl) (by kernel_rfl)
  · exact gv_callP 54 #[uv (fAdd A B PR), uv B, .pointer (some ⟨b4, 0, none⟩)] (fun w => w.heap[b4]? = some (.cells #[.int .i64 0] 3 (0, 0))) (fun _ _ _ h => h) (rules3_0 (fAdd A B PR) B b4 (fAdd_lt pr_ok) hB) (fun L g w _ h => h.get 1 (by kernel_rfl)) (fun g w => by kernel_rfl)
  · exact gv_load 24 (.tmp 12) (fun _ => 0) (fun g => b5) (Value.cells (uv (fAdd A 0 PR))) 24 (0, 0) (fun _ _ _ h => h) (fun g => by kernel_rfl) (fun g => by kernel_rfl) (fun L g _ => by kernel_rfl) (by kernel_rfl)
  · exact gv_opE (fun _ _ _ h => h) _ (V' := .bool (decide ((fSub (fAdd A B PR) B PR) = (fAdd A 0 PR)))) (fun g => by kernel_rfl) (fun g => (fun o w ho => eqU_run (x := (.tmp 106)) (y := (.tmp 107)) (fSub (fAdd A B PR) B PR) (fAdd A 0 PR) (fSub_lt pr_ok) (fAdd_lt pr_ok) w ho (by kernel_rfl) (by kernel_rfl))) (by rw [decide_eq_true (fSub_back pr_ok A B)] <;> rfl)
  · exact gv_val (fun _ _ _ h => h) (fun g w => by kernel_rfl)
  · exact gv_val (fun _ _ _ h => h) (fun g w => by kernel_rfl)
  · exact gv_val (fun _ _ _ h => h) (fun g w => by kernel_rfl)
  · exact gv_load 24 (.tmp 4) (fun _ => 4) (fun g => b1) (Value.cells (uv A)) 24 (0, 0) (fun _ _ _ h => h) (fun g => by kernel_rfl) (fun g => by kernel_rfl) (fun L g _ => by kernel_rfl) (by kernel_rfl)
  · exact gv_load 24 (.tmp 4) (fun _ => 4) (fun g => b1) (Value.cells (uv A)) 24 (0, 0) (fun _ _ _ h => h) (fun g => by kernel_rfl) (fun g => by kernel_rfl) (fun L g _ => by kernel_rfl) (by kernel_rfl)
  · exact gv_callP 54 #[uv A, uv A, .pointer (some ⟨b4, 0, none⟩)] (fun w => w.heap[b4]? = some (.cells #[.int .i64 0] 3 (0, 0))) (fun _ _ _ h => h) (rules3_0 A A b4 hA hA) (fun L g w _ h => h.get 1 (by kernel_rfl)) (fun g w => by kernel_rfl)
  · exact gv_val (fun _ _ _ h => h) (fun g w => by kernel_rfl)
  · exact gv_opE (fun _ _ _ h => h) _ (V' := .bool (decide ((fSub A A PR) = 0))) (fun g => by kernel_rfl) (fun g => (fun o w ho => eqU_run (x := (.tmp 114)) (y := (.tmp 115)) (fSub A A PR) 0 (fSub_lt pr_ok) (by unfold big; omega) w ho (by kernel_rfl) (by kernel_rfl))) (by rw [decide_eq_true (fSub_self pr_ok A)] <;> rfl)
  · exact gv_val (fun _ _ _ h => h) (fun g w => by kernel_rfl)
  · exact gv_val (fun _ _ _ h => h) (fun g w => by kernel_rfl)
  intro _ g9 w9 _ H9; clear H8
  refine g_ret (by kernel_rfl) ?_
  show ∃ vs, Res _ _ _ _ vs ∧ _
  refine ⟨[.bool true], (.tmp (.bool true) (by kernel_rfl) .nil), ?_, H9.below⟩
  rfl

set_option maxRecDepth 100000 in
theorem rules1 (A B C : Nat) (hA : A < big) (hB : B < big) (hC : C < big) (n : Int) (hw : n % 2 = 1) : Fn Try.prog 14 #[uv A, uv B, uv C, .int .i64 n] (.bool true) := by
  refine Fn.intro (c := codeOf Try.f14) [.tmp 8] 118 Try.func14 (by kernel_rfl) (by kernel_rfl) (by kernel_rfl) fun w => ?_
  have H0 := St.start w
  refine g_sreg [0, 1, 2, 3, 4] (by kernel_rfl) (by kernel_rfl) ?_
  refine s_box H0 (some 4) 24 (.tmp 0) (uv A) (by kernel_rfl) (by kernel_rfl) (by kernel_rfl) ?_
  intro b1 w1 H1; clear H0
  refine s_box H1 (some 5) 24 (.tmp 1) (uv B) (by kernel_rfl) (by kernel_rfl) (by kernel_rfl) ?_
  intro b2 w2 H2; clear H1
  refine s_box H2 (some 6) 24 (.tmp 2) (uv C) (by kernel_rfl) (by kernel_rfl) (by kernel_rfl) ?_
  intro b3 w3 H3; clear H2
  refine s_box H3 (some 7) 3 (.tmp 3) (.int .i64 n) (by kernel_rfl) (by kernel_rfl) (by kernel_rfl) ?_
  intro b4 w4 H4; clear H3
  refine s_val (some 8) (.bool false) (fun w => by kernel_rfl) (by kernel_rfl) ?_
  refine s_nil ?_
  refine g_sreg [0, 1, 2] (by kernel_rfl) (by kernel_rfl) ?_
  refine s_load1 H4 (some 13) 3 (.tmp 7) 0 b4 0 #[.int .i64 n] 3 (0, 0) (.int .i64 n) (by kernel_rfl) (by kernel_rfl) (by kernel_rfl) (by kernel_rfl) (by kernel_rfl) (by kernel_rfl) ?_
  refine s_valE (some 14) (.int .i64 (bits .and .i64 n 1)) (.int .i64 1) (fun w => by kernel_rfl) (int_eq (by rw [i64_and1]; exact hw)) (by kernel_rfl) ?_
  refine s_store H4 0 [(b4, Obj.cells #[.int .i64 1] 3 (0, 0)), (b3, Obj.cells (Value.cells (uv C)) 24 (0, 0)), (b2, Obj.cells (Value.cells (uv B)) 24 (0, 0)), (b1, Obj.cells (Value.cells (uv A)) 24 (0, 0))] 3 (.tmp 7) (.tmp 14) b4 0 #[.int .i64 n] #[.int .i64 1] 3 (.int .i64 1) (by kernel_rfl) (by kernel_rfl) (by kernel_rfl) (by kernel_rfl) (by kernel_rfl) (by kernel_rfl) (of_decide_eq_true (by kernel_rfl)) (by kernel_rfl) (by kernel_rfl) ?_
  intro w5 H5; clear H4
  refine s_nil ?_
  refine g_sreg [0, 1] (by kernel_rfl) (by kernel_rfl) ?_
  refine s_val (some 15) (.func (.func 52) #[] #[.pointer (some ⟨b4, 0, none⟩)]) (fun w => by kernel_rfl) (by kernel_rfl) ?_
  refine s_val (some 9) (.func (.func 52) #[] #[.pointer (some ⟨b4, 0, none⟩)]) (fun w => by kernel_rfl) (by kernel_rfl) ?_
  refine s_nil ?_
  refine g_sreg [0, 1] (by kernel_rfl) (by kernel_rfl) ?_
  refine s_val (some 16) (.func (.func 53) #[] #[.pointer (some ⟨b4, 0, none⟩)]) (fun w => by kernel_rfl) (by kernel_rfl) ?_
  refine s_val (some 10) (.func (.func 53) #[] #[.pointer (some ⟨b4, 0, none⟩)]) (fun w => by kernel_rfl) (by kernel_rfl) ?_
  refine s_nil ?_
  refine g_sreg [0, 1] (by kernel_rfl) (by kernel_rfl) ?_
  refine s_val (some 17) (.func (.func 54) #[] #[.pointer (some ⟨b4, 0, none⟩)]) (fun w => by kernel_rfl) (by kernel_rfl) ?_
  refine s_val (some 11) (.func (.func 54) #[] #[.pointer (some ⟨b4, 0, none⟩)]) (fun w => by kernel_rfl) (by kernel_rfl) ?_
  refine s_nil ?_
  refine g_sreg [0, 1, 2, 3, 4, 5] (by kernel_rfl) (by kernel_rfl) ?_
  refine s_val (some 18) (.func (.func 52) #[] #[.pointer (some ⟨b4, 0, none⟩)]) (fun w => by kernel_rfl) (by kernel_rfl) ?_
  refine s_load H5 (some 19) 24 (.tmp 4) 3 b1 (Value.cells (uv A)) 24 (0, 0) (by kernel_rfl) (by kernel_rfl) (by kernel_rfl) (by kernel_rfl) (by kernel_rfl) ?_
  refine s_val (some 20) (.agg #[.int .u64 0, .int .u64 0, .int .u64 0, .int .u64 0]) (fun w => by kernel_rfl) (by kernel_rfl) ?_
  refine s_callP H5 (some 21) 52 #[uv A, .agg #[.int .u64 0, .int .u64 0, .int .u64 0, .int .u64 0], .pointer (some ⟨b4, 0, none⟩)] (fun w => w.heap[b4]? = some (.cells #[.int .i64 1] 3 (0, 0))) (uv (fAdd A 0 NR)) (rules1_1 A 0 b4 hA (by unfold big; omega)) (H5.get 0 (by kernel_rfl)) (fun w => by kernel_rfl) (by kernel_rfl) ?_
  intro w6 H6; clear H5
  refine s_alloc H6 (some 12) 24 (.agg #[.int .u64 0, .int .u64 0, .int .u64 0, .int .u64 0]) (by kernel_rfl) (by kernel_rfl) (by kernel_rfl) ?_
  intro b5 w7 H7; clear H6
  refine s_store H7 0 [(b5, Obj.cells (Value.cells (uv (fAdd A 0 NR))) 24 (0, 0)), (b4, Obj.cells #[.int .i64 1] 3 (0, 0)), (b3, Obj.cells (Value.cells (uv C)) 24 (0, 0)), (b2, Obj.cells (Value.cells (uv B)) 24 (0, 0)), (b1, Obj.cells (Value.cells (uv A)) 24 (0, 0))] 24 (.tmp 12) (.tmp 21) b5 0 #[.int .u64 0, .int .u64 0, .int .u64 0, .int .u64 0] (Value.cells (uv (fAdd A 0 NR))) 24 (uv (fAdd A 0 NR)) (by kernel_rfl) (by kernel_rfl) (by kernel_rfl) (by kernel_rfl) (by kernel_rfl) (by kernel_rfl) (of_decide_eq_true (by kernel_rfl)) (by kernel_rfl) (by kernel_rfl) ?_
  intro w8 H8; clear H7
  refine s_nil ?_
  refine g_sdraw [0, 1, 2, 3, 4, 5, 6, 7, 8, 9, 10, 11, 12, 13, 14, 15, 16, 17, 18, 19, 20, 21, 22, 23, 24, 25, 26, 27, 28, 29, 30, 31, 32, 33, 34, 35, 36, 37, 38, 39, 40, 41, 42, 43, 44, 45, 46, 47, 48, 49, 50, 51, 52, 53, 54, 55, 56, 57, 58, 59, 60, 61, 62, 63, 64, 65, 66, 67, 68, 69, 70, 71, 72, 73, 74, 75, 76, 77, 78, 79, 80, 81, 82, 83, 84, 85, 86, 87, 88, 89, 90, 91, 92, 93, 94, 95, 96] [((some 22), fun _ => .bool true), ((some 23), fun _ => .bool true), ((some 24), fun _ => .func (.func 52) #[] #[.pointer (some ⟨b4, 0, none⟩)]), ((some 25), fun _ => uv A), ((some 26), fun _ => uv B), ((some 27), fun _ => uv (fAdd A B NR)), ((some 28), fun _ => .func (.func 52) #[] #[.pointer (some ⟨b4, 0, none⟩)]), ((some 29), fun _ => uv B), ((some 30), fun _ => uv A), ((some 31), fun _ => uv (fAdd B A NR)), ((some 32), fun _ => .bool true), ((some 33), fun _ => .bool true), ((some 34), fun _ => .bool true), ((some 35), fun _ => .func (.func 53) #[] #[.pointer (some ⟨b4, 0, none⟩)]), ((some 36), fun _ => uv A), ((some 37), fun _ => uv B), ((some 38), fun _ => uv (fMul A B NR)), ((some 39), fun _ => .func (.func 53) #[] #[.pointer (some ⟨b4, 0, none⟩)]), ((some 40), fun _ => uv B), ((some 41), fun _ => uv A), ((some 42), fun _ => uv (fMul B A NR)), ((some 43), fun _ => .bool true), ((some 44), fun _ => .bool true), ((some 45), fun _ => .bool true), ((some 46), fun _ => .func (.func 52) #[] #[.pointer (some ⟨b4, 0, none⟩)]), ((some 47), fun _ => .func (.func 52) #[] #[.pointer (some ⟨b4, 0, none⟩)]), ((some 48), fun _ => uv A), ((some 49), fun _ => uv B), ((some 50), fun _ => uv (fAdd A B NR)), ((some 51), fun _ => uv C), ((some 52), fun _ => uv (fAdd (fAdd A B NR) C NR)), ((some 53), fun _ => .func (.func 52) #[] #[.pointer (some ⟨b4, 0, none⟩)]), ((some 54), fun _ => uv A), ((some 55), fun _ => .func (.func 52) #[] #[.pointer (some ⟨b4, 0, none⟩)]), ((some 56), fun _ => uv B), ((some 57), fun _ => uv C), ((some 58), fun _ => uv (fAdd B C NR)), ((some 59), fun _ => uv (fAdd A (fAdd B C NR) NR)), ((some 60), fun _ => .bool true), ((some 61), fun _ => .bool true), ((some 62), fun _ => .bool true), ((some 63), fun _ => .func (.func 53) #[] #[.pointer (some ⟨b4, 0, none⟩)]), ((some 64), fun _ => .func (.func 53) #[] #[.pointer (some ⟨b4, 0, none⟩)]), ((some 65), fun _ => uv A), ((some 66), fun _ => uv B), ((some 67), fun _ => uv (fMul A B NR)), ((some 68), fun _ => uv C), ((some 69), fun _ => uv (fMul (fMul A B NR) C NR)), ((some 70), fun _ => .func (.func 53) #[] #[.pointer (some ⟨b4, 0, none⟩)]), ((some 71), fun _ => uv A), ((some 72), fun _ => .func (.func 53) #[] #[.pointer (some ⟨b4, 0, none⟩)]), ((some 73), fun _ => uv B), ((some 74), fun _ => uv C), ((some 75), fun _ => uv (fMul B C NR)), ((some 76), fun _ => uv (fMul A (fMul B C NR) NR)), ((some 77), fun _ => .bool true), ((some 78), fun _ => .bool true), ((some 79), fun _ => .bool true), ((some 80), fun _ => .func (.func 53) #[] #[.pointer (some ⟨b4, 0, none⟩)]), ((some 81), fun _ => uv A), ((some 82), fun _ => .func (.func 52) #[] #[.pointer (some ⟨b4, 0, none⟩)]), ((some 83), fun _ => uv B), ((some 84), fun _ => uv C), ((some 85), fun _ => uv (fAdd B C NR)), ((some 86), fun _ => uv (fMul A (fAdd B C NR) NR)), ((some 87), fun _ => .func (.func 52) #[] #[.pointer (some ⟨b4, 0, none⟩)]), ((some 88), fun _ => .func (.func 53) #[] #[.pointer (some ⟨b4, 0, none⟩)]), ((some 89), fun _ => uv A), ((some 90), fun _ => uv B), ((some 91), fun _ => uv (fMul A B NR)), ((some 92), fun _ => .func (.func 53) #[] #[.pointer (some ⟨b4, 0, none⟩)]), ((some 93), fun _ => uv A), ((some 94), fun _ => uv C), ((some 95), fun _ => uv (fMul A C NR)), ((some 96), fun _ => uv (fAdd (fMul A B NR) (fMul A C NR) NR)), ((some 97), fun _ => .bool true), ((some 98), fun _ => .bool true), ((some 99), fun _ => .bool true), ((some 100), fun _ => .func (.func 54) #[] #[.pointer (some ⟨b4, 0, none⟩)]), ((some 101), fun _ => .func (.func 52) #[] #[.pointer (some ⟨b4, 0, none⟩)]), ((some 102), fun _ => uv A), ((some 103), fun _ => uv B), ((some 104), fun _ => uv (fAdd A B NR)), ((some 105), fun _ => uv B), ((some 106), fun _ => uv (fSub (fAdd A B NR) B NR)), ((some 107), fun _ => uv (fAdd A 0 NR)), ((some 108), fun _ => .bool true), ((some 109), fun _ => .bool true), ((some 110), fun _ => .bool true), ((some 111), fun _ => .func (.func 54) #[] #[.pointer (some ⟨b4, 0, none⟩)]), ((some 112), fun _ => uv A), ((some 113), fun _ => uv A), ((some 114), fun _ => uv (fSub A A NR)), ((some 115), fun _ => .agg #[.int .u64 0, .int .u64 0, .int .u64 0, .int .u64 0]), ((some 116), fun _ => .bool true), ((some 117), fun _ => .bool true), ((some 8), fun _ => .bool true)] (fun L g x => St w.heap.size w x ([(b5, Obj.cells (Value.cells (uv (fAdd A 0 NR))) 24 (0, 0)), (b4, Obj.cells #[.int .i64 1] 3 (0, 0)), (b3, Obj.cells (Value.cells (uv C)) 24 (0, 0)), (b2, Obj.cells (Value.cells (uv B)) 24 (0, 0)), (b1, Obj.cells (Value.cells (uv A)) 24 (0, 0))])) (by kernel_rfl) (by kernel_rfl) (by kernel_rfl) (by kernel_rfl) (H8.drew) ⟨?_, ?_, ?_, ?_, ?_, ?_, ?_, ?_, ?_, ?_, ?_, ?_, ?_, ?_, ?_, ?_, ?_, ?_, ?_, ?_, ?_, ?_, ?_, ?_, ?_, ?_, ?_, ?_, ?_, ?_, ?_, ?_, ?_, ?_, ?_, ?_, ?_, ?_, ?_, ?_, ?_, ?_, ?_, ?_, ?_, ?_, ?_, ?_, ?_, ?_, ?_, ?_, ?_, ?_, ?_, ?_, ?_, ?_, ?_, ?_, ?_, ?_, ?_, ?_, ?_, ?_, ?_, ?_, ?_, ?_, ?_, ?_, ?_, ?_, ?_, ?_, ?_, ?_, ?_, ?_, ?_, ?_, ?_, ?_, ?_, ?_, ?_, ?_, ?_, ?_, ?_, ?_, ?_, ?_, ?_, ?_, ?_, trivial⟩ ?_
  · exact gv_call 43 #[] (fun _ _ _ h => h) alive02_fn (fun g w => by kernel_rfl)
  · exact gv_val (fun _ _ _ h => h) (fun g w => by kernel_rfl)
  · exact gv_val (fun _ _ _ h => h) (fun g w => by kernel_rfl)
  · exact gv_load 24 (.tmp 4) (fun _ => 4) (fun g => b1) (Value.cells (uv A)) 24 (0, 0) (fun _ _ _ h => h) (fun g => by kernel_rfl) (fun g => by kernel_rfl) (fun L g _ => by kernel_rfl) (by kernel_rfl)
  · exact gv_load 24 (.tmp 5) (fun _ => 3) (fun g => b2) (Value.cells (uv B)) 24 (0, 0) (fun _ _ _ h => h) (fun g => by kernel_rfl) (fun g => by kernel_rfl) (fun L g _ => by kernel_rfl) (by kernel_rfl)
  · exact gv_callP 52 #[uv A, uv B, .pointer (some ⟨b4, 0, none⟩)] (fun w => w.heap[b4]? = some (.cells #[.int .i64 1] 3 (0, 0))) (fun _ _ _ h => h) (rules1_1 A B b4 hA hB) (fun L g w _ h => h.get 1 (by kernel_rfl)) (fun g w => by kernel_rfl)
  · exact gv_val (fun _ _ _ h => h) (fun g w => by kernel_rfl)
  · exact gv_load 24 (.tmp 5) (fun _ => 3) (fun g => b2) (Value.cells (uv B)) 24 (0, 0) (fun _ _ _ h => h) (fun g => by kernel_rfl) (fun g => by kernel_rfl) (fun L g _ => by kernel_rfl) (by kernel_rfl)
  · exact gv_load 24 (.tmp 4) (fun _ => 4) (fun g => b1) (Value.cells (uv A)) 24 (0, 0) (fun _ _ _ h => h) (fun g => by kernel_rfl) (fun g => by kernel_rfl) (fun L g _ => by kernel_rfl) (by kernel_rfl)
  · exact gv_callP 52 #[uv B, uv A, .pointer (some ⟨b4, 0, none⟩)] (fun w => w.heap[b4]? = some (.cells #[.int .i64 1] 3 (0, 0))) (fun _ _ _ h => h) (rules1_1 B A b4 hB hA) (fun L g w _ h => h.get 1 (by kernel_rfl)) (fun g w => by kernel_rfl)
  · exact gv_opE (fun _ _ _ h => h) _ (V' := .bool (decide ((fAdd A B NR) = (fAdd B A NR)))) (fun g => by kernel_rfl) (fun g => (fun o w ho => eqU_run (x := (.tmp 27)) (y := (.tmp 31)) (fAdd A B NR) (fAdd B A NR) (fAdd_lt nr_ok) (fAdd_lt nr_ok) w ho (by kernel_rfl) (by kernel_rfl))) (by rw [decide_eq_true (fAdd_comm A B NR)] <;> rfl)
  · exact gv_val (fun _ _ _ h => h) (fun g w => by kernel_rfl)
  · exact gv_val (fun _ _ _ h => h) (fun g w => by kernel_rfl)
  · exact gv_val (fun _ _ _ h => h) (fun g w => by kernel_rfl)
  · exact gv_load 24 (.tmp 4) (fun _ => 4) (fun g => b1) (Value.cells (uv A)) 24 (0, 0) (fun _ _ _ h => h) (fun g => by kernel_rfl) (fun g => by kernel_rfl) (fun L g _ => by kernel_rfl) (by kernel_rfl)
  · exact gv_load 24 (.tmp 5) (fun _ => 3) (fun g => b2) (Value.cells (uv B)) 24 (0, 0) (fun _ _ _ h => h) (fun g => by kernel_rfl) (fun g => by kernel_rfl) (fun L g _ => by kernel_rfl) (by kernel_rfl)
  · exact gv_callP 53 #[uv A, uv B, .pointer (some ⟨b4, 0, none⟩)] (fun w => w.heap[b4]? = some (.cells #[.int .i64 1] 3 (0, 0))) (fun _ _ _ h => h) (rules2_1 A B b4 hA hB) (fun L g w _ h => h.get 1 (by kernel_rfl)) (fun g w => by kernel_rfl)
  · exact gv_val (fun _ _ _ h => h) (fun g w => by kernel_rfl)
  · exact gv_load 24 (.tmp 5) (fun _ => 3) (fun g => b2) (Value.cells (uv B)) 24 (0, 0) (fun _ _ _ h => h) (fun g => by kernel_rfl) (fun g => by kernel_rfl) (fun L g _ => by kernel_rfl) (by kernel_rfl)
  · exact gv_load 24 (.tmp 4) (fun _ => 4) (fun g => b1) (Value.cells (uv A)) 24 (0, 0) (fun _ _ _ h => h) (fun g => by kernel_rfl) (fun g => by kernel_rfl) (fun L g _ => by kernel_rfl) (by kernel_rfl)
  · exact gv_callP 53 #[uv B, uv A, .pointer (some ⟨b4, 0, none⟩)] (fun w => w.heap[b4]? = some (.cells #[.int .i64 1] 3 (0, 0))) (fun _ _ _ h => h) (rules2_1 B A b4 hB hA) (fun L g w _ h => h.get 1 (by kernel_rfl)) (fun g w => by kernel_rfl)
  · exact gv_opE (fun _ _ _ h => h) _ (V' := .bool (decide ((fMul A B NR) = (fMul B A NR)))) (fun g => by kernel_rfl) (fun g => (fun o w ho => eqU_run (x := (.tmp 38)) (y := (.tmp 42)) (fMul A B NR) (fMul B A NR) (fMul_lt nr_ok) (fMul_lt nr_ok) w ho (by kernel_rfl) (by kernel_rfl))) (by rw [decide_eq_true (fMul_comm A B NR)] <;> rfl)
  · exact gv_val (fun _ _ _ h => h) (fun g w => by kernel_rfl)
  · exact gv_val (fun _ _ _ h => h) (fun g w => by kernel_rfl)
  · exact gv_val (fun _ _ _ h => h) (fun g w => by kernel_rfl)
  · exact gv_val (fun _ _ _ h => h) (fun g w => by kernel_rfl)
  · exact gv_load 24 (.tmp 4) (fun _ => 4) (fun g => b1) (Value.cells (uv A)) 24 (0, 0) (fun _ _ _ h => h) (fun g => by kernel_rfl) (fun g => by kernel_rfl) (fun L g _ => by kernel_rfl) (by kernel_rfl)
  · exact gv_load 24 (.tmp 5) (fun _ => 3) (fun g => b2) (Value.cells (uv B)) 24 (0, 0) (fun _ _ _ h => h) (fun g => by kernel_rfl) (fun g => by kernel_rfl) (fun L g _ => by kernel_rfl) (by kernel_rfl)
  · exact gv_callP 52 #[uv A, uv B, .pointer (some ⟨b4, 0, none⟩)] (fun w => w.heap[b4]? = some (.cells #[.int .i64 1] 3 (0, 0))) (fun _ _ _ h => h) (rules1_1 A B b4 hA hB) (fun L g w _ h => h.get 1 (by kernel_rfl)) (fun g w => by kernel_rfl)
  · exact gv_load 24 (.tmp 6) (fun _ => 2) (fun g => b3) (Value.cells (uv C)) 24 (0, 0) (fun _ _ _ h => h) (fun g => by kernel_rfl) (fun g => by kernel_rfl) (fun L g _ => by kernel_rfl) (by kernel_rfl)
  · exact gv_callP 52 #[uv (fAdd A B NR), uv C, .pointer (some ⟨b4, 0, none⟩)] (fun w => w.heap[b4]? = some (.cells #[.int .i64 1] 3 (0, 0))) (fun _ _ _ h => h) (rules1_1 (fAdd A B NR) C b4 (fAdd_lt nr_ok) hC) (fun L g w _ h => h.get 1 (by kernel_rfl)) (fun g w => by kernel_rfl)
  · exact gv_val (fun _ _ _ h => h) (fun g w => by kernel_rfl)
  · exact gv_load 24 (.tmp 4) (fun _ => 4) (fun g => b1) (Value.cells (uv A)) 24 (0, 0) (fun _ _ _ h => h) (fun g => by kernel_rfl) (fun g => by kernel_rfl) (fun L g _ => by kernel_rfl) (by kernel_rfl)
  · exact gv_val (fun _ _ _ h => h) (fun g w => by kernel_rfl)
  · exact gv_load 24 (.tmp 5) (fun _ => 3) (fun g => b2) (Value.cells (uv B)) 24 (0, 0) (fun _ _ _ h => h) (fun g => by kernel_rfl) (fun g => by kernel_rfl) (fun L g _ => by kernel_rfl) (by kernel_rfl)
  · exact gv_load 24 (.tmp 6) (fun _ => 2) (fun g => b3) (Value.cells (uv C)) 24 (0, 0) (fun _ _ _ h => h) (fun g => by kernel_rfl) (fun g => by kernel_rfl) (fun L g _ => by kernel_rfl) (by kernel_rfl)
  · exact gv_callP 52 #[uv B, uv C, .pointer (some ⟨b4, 0, none⟩)] (fun w => w.heap[b4]? = some (.cells #[.int .i64 1] 3 (0, 0))) (fun _ _ _ h => h) (rules1_1 B C b4 hB hC) (fun L g w _ h => h.get 1 (by kernel_rfl)) (fun g w => by kernel_rfl)
  · exact gv_callP 52 #[uv A, uv (fAdd B C NR), .pointer (some ⟨b4, 0, none⟩)] (fun w => w.heap[b4]? = some (.cells #[.int .i64 1] 3 (0, 0))) (fun _ _ _ h => h) (rules1_1 A (fAdd B C NR) b4 hA (fAdd_lt nr_ok)) (fun L g w _ h => h.get 1 (by kernel_rfl)) (fun g w => by kernel_rfl)
  · exact gv_opE (fun _ _ _ h => h) _ (V' := .bool (decide ((fAdd (fAdd A B NR) C NR) = (fAdd A (fAdd B C NR) NR)))) (fun g => by kernel_rfl) (fun g => (fun o w ho => eqU_run (x := (.tmp 52)) (y := (.tmp 59)) (fAdd (fAdd A B NR) C NR) (fAdd A (fAdd B C NR) NR) (fAdd_lt nr_ok) (fAdd_lt nr_ok) w ho (by kernel_rfl) (by kernel_rfl))) (by rw [decide_eq_true (fAdd_assoc A B C NR)] <;> rfl)
  · exact gv_val (fun _ _ _ h => h) (fun g w => by kernel_rfl)
  · exact gv_val (fun _ _ _ h => h) (fun g w => by kernel_rfl)
  · exact gv_val (fun _ _ _ h => h) (fun g w => by kernel_rfl)
  · exact gv_val (fun _ _ _ h => h) (fun g w => by kernel_rfl)
  · exact gv_load 24 (.tmp 4) (fun _ => 4) (fun g => b1) (Value.cells (uv A)) 24 (0, 0) (fun _ _ _ h => h) (fun g => by kernel_rfl) (fun g => by kernel_rfl) (fun L g _ => by kernel_rfl) (by kernel_rfl)
  · exact gv_load 24 (.tmp 5) (fun _ => 3) (fun g => b2) (Value.cells (uv B)) 24 (0, 0) (fun _ _ _ h => h) (fun g => by kernel_rfl) (fun g => by kernel_rfl) (fun L g _ => by kernel_rfl) (by kernel_rfl)
  · exact gv_callP 53 #[uv A, uv B, .pointer (some ⟨b4, 0, none⟩)] (fun w => w.heap[b4]? = some (.cells #[.int .i64 1] 3 (0, 0))) (fun _ _ _ h => h) (rules2_1 A B b4 hA hB) (fun L g w _ h => h.get 1 (by kernel_rfl)) (fun g w => by kernel_rfl)
  · exact gv_load 24 (.tmp 6) (fun _ => 2) (fun g => b3) (Value.cells (uv C)) 24 (0, 0) (fun _ _ _ h => h) (fun g => by kernel_rfl) (fun g => by kernel_rfl) (fun L g _ => by kernel_rfl) (by kernel_rfl)
  · exact gv_callP 53 #[uv (fMul A B NR), uv C, .pointer (some ⟨b4, 0, none⟩)] (fun w => w.heap[b4]? = some (.cells #[.int .i64 1] 3 (0, 0))) (fun _ _ _ h => h) (rules2_1 (fMul A B NR) C b4 (fMul_lt nr_ok) hC) (fun L g w _ h => h.get 1 (by kernel_rfl)) (fun g w => by kernel_rfl)
  · exact gv_val (fun _ _ _ h => h) (fun g w => by kernel_rfl)
  · exact gv_load 24 (.tmp 4) (fun _ => 4) (fun g => b1) (Value.cells (uv A)) 24 (0, 0) (fun _ _ _ h => h) (fun g => by kernel_rfl) (fun g => by kernel_rfl) (fun L g _ => by kernel_rfl) (by kernel_rfl)
  · exact gv_val (fun _ _ _ h => h) (fun g w => by kernel_rfl)
  · exact gv_load 24 (.tmp 5) (fun _ => 3) (fun g => b2) (Value.cells (uv B)) 24 (0, 0) (fun _ _ _ h => h) (fun g => by kernel_rfl) (fun g => by kernel_rfl) (fun L g _ => by kernel_rfl) (by kernel_rfl)
  · exact gv_load 24 (.tmp 6) (fun _ => 2) (fun g => b3) (Value.cells (uv C)) 24 (0, 0) (fun _ _ _ h => h) (fun g => by kernel_rfl) (fun g => by kernel_rfl) (fun L g _ => by kernel_rfl) (by kernel_rfl)
  · exact gv_callP 53 #[uv B, uv C, .pointer (some ⟨b4, 0, none⟩)] (fun w => w.heap[b4]? = some (.cells #[.int .i64 1] 3 (0, 0))) (fun _ _ _ h => h) (rules2_1 B C b4 hB hC) (fun L g w _ h => h.get 1 (by kernel_rfl)) (fun g w => by kernel_rfl)
  · exact gv_callP 53 #[uv A, uv (fMul B C NR), .pointer (some ⟨b4, 0, none⟩)] (fun w => w.heap[b4]? = some (.cells #[.int .i64 1] 3 (0, 0))) (fun _ _ _ h => h) (rules2_1 A (fMul B C NR) b4 hA (fMul_lt nr_ok)) (fun L g w _ h => h.get 1 (by kernel_rfl)) (fun g w => by kernel_rfl)
  · exact gv_opE (fun _ _ _ h => h) _ (V' := .bool (decide ((fMul (fMul A B NR) C NR) = (fMul A (fMul B C NR) NR)))) (fun g => by kernel_rfl) (fun g => (fun o w ho => eqU_run (x := (.tmp 69)) (y := (.tmp 76)) (fMul (fMul A B NR) C NR) (fMul A (fMul B C NR) NR) (fMul_lt nr_ok) (fMul_lt nr_ok) w ho (by kernel_rfl) (by kernel_rfl))) (by rw [decide_eq_true (fMul_assoc A B C NR)] <;> rfl)
  · exact gv_val (fun _ _ _ h => h) (fun g w => by kernel_rfl)
  · exact gv_val (fun _ _ _ h => h) (fun g w => by kernel_rfl)
  · exact gv_val (fun _ _ _ h => h) (fun g w => by kernel_rfl)
  · exact gv_load 24 (.tmp 4) (fun _ => 4) (fun g => b1) (Value.cells (uv A)) 24 (0, 0) (fun _ _ _ h => h) (fun g => by kernel_rfl) (fun g => by kernel_rfl) (fun L g _ => by kernel_rfl) (by kernel_rfl)
  · exact gv_val (fun _ _ _ h => h) (fun g w => by kernel_rfl)
  · exact gv_load 24 (.tmp 5) (fun _ => 3) (fun g => b2) (Value.cells (uv B)) 24 (0, 0) (fun _ _ _ h => h) (fun g => by kernel_rfl) (fun g => by kernel_rfl) (fun L g _ => by kernel_rfl) (by kernel_rfl)
  · exact gv_load 24 (.tmp 6) (fun _ => 2) (fun g => b3) (Value.cells (uv C)) 24 (0, 0) (fun _ _ _ h => h) (fun g => by kernel_rfl) (fun g => by kernel_rfl) (fun L g _ => by kernel_rfl) (by kernel_rfl)
  · exact gv_callP 52 #[uv B, uv C, .pointer (some ⟨b4, 0, none⟩)] (fun w => w.heap[b4]? = some (.cells #[.int .i64 1] 3 (0, 0))) (fun _ _ _ h => h) (rules1_1 B C b4 hB hC) (fun L g w _ h => h.get 1 (by kernel_rfl)) (fun g w => by kernel_rfl)
  · exact gv_callP 53 #[uv A, uv (fAdd B C NR), .pointer (some ⟨b4, 0, none⟩)] (fun w => w.heap[b4]? = some (.cells #[.int .i64 1] 3 (0, 0))) (fun _ _ _ h => h) (rules2_1 A (fAdd B C NR) b4 hA (fAdd_lt nr_ok)) (fun L g w _ h => h.get 1 (by kernel_rfl)) (fun g w => by kernel_rfl)
  · exact gv_val (fun _ _ _ h => h) (fun g w => by kernel_rfl)
  · exact gv_val (fun _ _ _ h => h) (fun g w => by kernel_rfl)
  · exact gv_load 24 (.tmp 4) (fun _ => 4) (fun g => b1) (Value.cells (uv A)) 24 (0, 0) (fun _ _ _ h => h) (fun g => by kernel_rfl) (fun g => by kernel_rfl) (fun L g _ => by kernel_rfl) (by kernel_rfl)
  · exact gv_load 24 (.tmp 5) (fun _ => 3) (fun g => b2) (Value.cells (uv B)) 24 (0, 0) (fun _ _ _ h => h) (fun g => by kernel_rfl) (fun g => by kernel_rfl) (fun L g _ => by kernel_rfl) (by kernel_rfl)
  · exact gv_callP 53 #[uv A, uv B, .pointer (some ⟨b4, 0, none⟩)] (fun w => w.heap[b4]? = some (.cells #[.int .i64 1] 3 (0, 0))) (fun _ _ _ h => h) (rules2_1 A B b4 hA hB) (fun L g w _ h => h.get 1 (by kernel_rfl)) (fun g w => by kernel_rfl)
  · exact gv_val (fun _ _ _ h => h) (fun g w => by kernel_rfl)
  · exact gv_load 24 (.tmp 4) (fun _ => 4) (fun g => b1) (Value.cells (uv A)) 24 (0, 0) (fun _ _ _ h => h) (fun g => by kernel_rfl) (fun g => by kernel_rfl) (fun L g _ => by kernel_rfl) (by kernel_rfl)
  · exact gv_load 24 (.tmp 6) (fun _ => 2) (fun g => b3) (Value.cells (uv C)) 24 (0, 0) (fun _ _ _ h => h) (fun g => by kernel_rfl) (fun g => by kernel_rfl) (fun L g _ => by kernel_rfl) (by kernel_rfl)
  · exact gv_callP 53 #[uv A, uv C, .pointer (some ⟨b4, 0, none⟩)] (fun w => w.heap[b4]? = some (.cells #[.int .i64 1] 3 (0, 0))) (fun _ _ _ h => h) (rules2_1 A C b4 hA hC) (fun L g w _ h => h.get 1 (by kernel_rfl)) (fun g w => by kernel_rfl)
  · exact gv_callP 52 #[uv (fMul A B NR), uv (fMul A C NR), .pointer (some ⟨b4, 0, none⟩)] (fun w => w.heap[b4]? = some (.cells #[.int .i64 1] 3 (0, 0))) (fun _ _ _ h => h) (rules1_1 (fMul A B NR) (fMul A C NR) b4 (fMul_lt nr_ok) (fMul_lt nr_ok)) (fun L g w _ h => h.get 1 (by kernel_rfl)) (fun g w => by kernel_rfl)
  · exact gv_opE (fun _ _ _ h => h) _ (V' := .bool (decide ((fMul A (fAdd B C NR) NR) = (fAdd (fMul A B NR) (fMul A C NR) NR)))) (fun g => by kernel_rfl) (fun g => (fun o w ho => eqU_run (x := (.tmp 86)) (y := (.tmp 96)) (fMul A (fAdd B C NR) NR) (fAdd (fMul A B NR) (fMul A C NR) NR) (fMul_lt nr_ok) (fAdd_lt nr_ok) w ho (by kernel_rfl) (by kernel_rfl))) (by rw [decide_eq_true (fMul_share A B C NR)] <;> rfl)
  · exact gv_val (fun _ _ _ h => h) (fun g w => by kernel_rfl)
  · exact gv_val (fun _ _ _ h => h) (fun g w => by kernel_rfl)
  · exact gv_val (fun _ _ _ h => h) (fun g w => by kernel_rfl)
  · exact gv_val (fun _ _ _ h => h) (fun g w => by kernel_rfl)
  · exact gv_load 24 (.tmp 4) (fun _ => 4) (fun g => b1) (Value.cells (uv A)) 24 (0, 0) (fun _ _ _ h => h) (fun g => by kernel_rfl) (fun g => by kernel_rfl) (fun L g _ => by kernel_rfl) (by kernel_rfl)
  · exact gv_load 24 (.tmp 5) (fun _ => 3) (fun g => b2) (Value.cells (uv B)) 24 (0, 0) (fun _ _ _ h => h) (fun g => by kernel_rfl) (fun g => by kernel_rfl) (fun L g _ => by kernel_rfl) (by kernel_rfl)
  · exact gv_callP 52 #[uv A, uv B, .pointer (some ⟨b4, 0, none⟩)] (fun w => w.heap[b4]? = some (.cells #[.int .i64 1] 3 (0, 0))) (fun _ _ _ h => h) (rules1_1 A B b4 hA hB) (fun L g w _ h => h.get 1 (by kernel_rfl)) (fun g w => by kernel_rfl)
  · exact gv_load 24 (.tmp 5) (fun _ => 3) (fun g => b2) (Value.cells (uv B)) 24 (0, 0) (fun _ _ _ h => h) (fun g => by kernel_rfl) (fun g => by kernel_rfl) (fun L g _ => by kernel_rfl) (by kernel_rfl)
  · exact gv_callP 54 #[uv (fAdd A B NR), uv B, .pointer (some ⟨b4, 0, none⟩)] (fun w => w.heap[b4]? = some (.cells #[.int .i64 1] 3 (0, 0))) (fun _ _ _ h => h) (rules3_1 (fAdd A B NR) B b4 (fAdd_lt nr_ok) hB) (fun L g w _ h => h.get 1 (by kernel_rfl)) (fun g w => by kernel_rfl)
  · exact gv_load 24 (.tmp 12) (fun _ => 0) (fun g => b5) (Value.cells (uv (fAdd A 0 NR))) 24 (0, 0) (fun _ _ _ h => h) (fun g => by kernel_rfl) (fun g => by kernel_rfl) (fun L g _ => by kernel_rfl) (by kernel_rfl)
  · exact gv_opE (fun _ _ _ h => h) _ (V' := .bool (decide ((fSub (fAdd A B NR) B NR) = (fAdd A 0 NR)))) (fun g => by kernel_rfl) (fun g => (fun o w ho => eqU_run (x := (.tmp 106)) (y := (.tmp 107)) (fSub (fAdd A B NR) B NR) (fAdd A 0 NR) (fSub_lt nr_ok) (fAdd_lt nr_ok) w ho (by kernel_rfl) (by kernel_rfl))) (by rw [decide_eq_true (fSub_back nr_ok A B)] <;> rfl)
  · exact gv_val (fun _ _ _ h => h) (fun g w => by kernel_rfl)
  · exact gv_val (fun _ _ _ h => h) (fun g w => by kernel_rfl)
  · exact gv_val (fun _ _ _ h => h) (fun g w => by kernel_rfl)
  · exact gv_load 24 (.tmp 4) (fun _ => 4) (fun g => b1) (Value.cells (uv A)) 24 (0, 0) (fun _ _ _ h => h) (fun g => by kernel_rfl) (fun g => by kernel_rfl) (fun L g _ => by kernel_rfl) (by kernel_rfl)
  · exact gv_load 24 (.tmp 4) (fun _ => 4) (fun g => b1) (Value.cells (uv A)) 24 (0, 0) (fun _ _ _ h => h) (fun g => by kernel_rfl) (fun g => by kernel_rfl) (fun L g _ => by kernel_rfl) (by kernel_rfl)
  · exact gv_callP 54 #[uv A, uv A, .pointer (some ⟨b4, 0, none⟩)] (fun w => w.heap[b4]? = some (.cells #[.int .i64 1] 3 (0, 0))) (fun _ _ _ h => h) (rules3_1 A A b4 hA hA) (fun L g w _ h => h.get 1 (by kernel_rfl)) (fun g w => by kernel_rfl)
  · exact gv_val (fun _ _ _ h => h) (fun g w => by kernel_rfl)
  · exact gv_opE (fun _ _ _ h => h) _ (V' := .bool (decide ((fSub A A NR) = 0))) (fun g => by kernel_rfl) (fun g => (fun o w ho => eqU_run (x := (.tmp 114)) (y := (.tmp 115)) (fSub A A NR) 0 (fSub_lt nr_ok) (by unfold big; omega) w ho (by kernel_rfl) (by kernel_rfl))) (by rw [decide_eq_true (fSub_self nr_ok A)] <;> rfl)
  · exact gv_val (fun _ _ _ h => h) (fun g w => by kernel_rfl)
  · exact gv_val (fun _ _ _ h => h) (fun g w => by kernel_rfl)
  intro _ g9 w9 _ H9; clear H8
  refine g_ret (by kernel_rfl) ?_
  show ∃ vs, Res _ _ _ _ vs ∧ _
  refine ⟨[.bool true], (.tmp (.bool true) (by kernel_rfl) .nil), ?_, H9.below⟩
  rfl

theorem rules_walk (A : Nat) (hA : A < big) (B : Nat) (hB : B < big) (C : Nat) (hC : C < big) (n : Int) {p : Prop} (_ : p) (w : World) : Calls Try.prog 14 #[uv A, uv B, uv C, .int .i64 n] w fun e w' => e = .returned (.bool true) ∧ Below w.heap.size w w' := by
  rcases (show n % 2 = 0 ∨ n % 2 = 1 by omega) with h | h
  · exact rules0 A B C hA hB hC n h w
  · exact rules1 A B C hA hB hC n h w

end Go.Proofs.Ytiiichlmmngbbaa
