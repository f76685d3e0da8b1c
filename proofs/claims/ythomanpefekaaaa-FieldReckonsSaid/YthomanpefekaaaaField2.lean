/-
  More calls of package field: differences, powers.
-/
import Derived.Test.YthomanpefekaaaaField1
namespace Go.Proofs.Ythomanpefekaaaa
open Go Go.RowKit
set_option linter.unusedVariables false
theorem bt_nat {A n : Nat} (h : n < 256) : bt A (n : Int) = A.testBit n := by unfold bt; simp; omega

set_option maxRecDepth 100000 in
theorem fsub0_fn (A B : Nat) (hA : A < big) (hB : B < big) : Fn Try.prog 25 #[uv A, uv B, .int .i64 0] (.tuple #[uv (fSub A B PR), .int .i64 0]) := by
  refine Fn.intro (c := codeOf Try.f25) [.cell 6 24, .tmp 7] 41 Try.func25 (by kernel_rfl) (by kernel_rfl) (by kernel_rfl) fun w => ?_
  have H0 := St.start w
  refine g_sreg [0, 1, 2, 3] (by kernel_rfl) (by kernel_rfl) ?_
  refine s_box H0 (some 3) 24 (.tmp 0) (uv A) (by kernel_rfl) (by kernel_rfl) (by kernel_rfl) ?_
  intro b1 w1 H1; clear H0
  refine s_box H1 (some 4) 24 (.tmp 1) (uv B) (by kernel_rfl) (by kernel_rfl) (by kernel_rfl) ?_
  intro b2 w2 H2; clear H1
  refine s_alloc H2 (some 6) 24 (.agg #[.int .u64 0, .int .u64 0, .int .u64 0, .int .u64 0]) (by kernel_rfl) (by kernel_rfl) (by kernel_rfl) ?_
  intro b3 w3 H3; clear H2
  refine s_val (some 7) (.int .i64 0) (fun w => by kernel_rfl) (by kernel_rfl) ?_
  refine s_nil ?_
  refine g_sreg [0, 1, 2, 3, 4, 5, 6, 7] (by kernel_rfl) (by kernel_rfl) ?_
  refine s_val (some 13) (.int .i64 0) (fun w => by kernel_rfl) (by kernel_rfl) ?_
  refine s_call H3 (some 14) 23 #[.int .i64 0] (.tuple #[uv PR, .int .i64 0]) prime0_fn (fun w => by kernel_rfl) (by kernel_rfl) ?_
  intro w4 H4; clear H3
  refine s_val (some 12) (.tuple #[uv PR, .int .i64 0]) (fun w => by kernel_rfl) (by kernel_rfl) ?_
  refine s_val (some 15) (uv PR) (fun w => by kernel_rfl) (by kernel_rfl) ?_
  refine s_val (some 16) (.int .i64 0) (fun w => by kernel_rfl) (by kernel_rfl) ?_
  refine s_alloc H4 (some 8) 24 (.agg #[.int .u64 0, .int .u64 0, .int .u64 0, .int .u64 0]) (by kernel_rfl) (by kernel_rfl) (by kernel_rfl) ?_
  intro b4 w5 H5; clear H4
  refine s_store H5 0 [(b4, Obj.cells (Value.cells (uv PR)) 24 (0, 0)), (b3, Obj.cells #[.int .u64 0, .int .u64 0, .int .u64 0, .int .u64 0] 24 (0, 0)), (b2, Obj.cells (Value.cells (uv B)) 24 (0, 0)), (b1, Obj.cells (Value.cells (uv A)) 24 (0, 0))] 24 (.tmp 8) (.tmp 15) b4 0 #[.int .u64 0, .int .u64 0, .int .u64 0, .int .u64 0] (Value.cells (uv PR)) 24 (uv PR) (by kernel_rfl) (by kernel_rfl) (by kernel_rfl) (by kernel_rfl) (by kernel_rfl) (by kernel_rfl) (of_decide_eq_true (by kernel_rfl)) (by kernel_rfl) (by kernel_rfl) ?_
  intro w6 H6; clear H5
  refine s_val (some 9) (.int .i64 0) (fun w => by kernel_rfl) (by kernel_rfl) ?_
  refine s_nil ?_
  refine g_seq (by kernel_rfl) ?_
  refine g_sreg [0, 1] (by kernel_rfl) (by kernel_rfl) ?_
  refine s_val (some 17) (.int .i64 0) (fun w => by kernel_rfl) (by kernel_rfl) ?_
  refine s_val (some 18) (.bool false) (fun w => by kernel_rfl) (by kernel_rfl) ?_
  refine s_nil ?_
  refine g_cond_f (by kernel_rfl) (by kernel_rfl) ?_
  refine g_skip (by kernel_rfl) ?_
  show WP _ _ _ _ _ _
  refine g_sdraw [0, 1, 2, 3, 4, 5, 6, 7, 8, 9, 10, 11, 12, 13, 14] [((some 22), fun _ => uv A), ((some 23), fun _ => .agg #[.int .u64 0, .int .u64 0, .int .u64 0, .int .u64 0]), ((some 24), fun _ => uv PR), ((some 25), fun _ => uv (rs A 0 PR)), ((some 26), fun _ => uv B), ((some 27), fun _ => .agg #[.int .u64 0, .int .u64 0, .int .u64 0, .int .u64 0]), ((some 28), fun _ => uv PR), ((some 29), fun _ => uv (rs B 0 PR)), ((some 30), fun _ => .tuple #[uv (df (rs A 0 PR) (rs B 0 PR)), .bool (lo (rs A 0 PR) (rs B 0 PR))]), ((some 21), fun _ => .tuple #[uv (df (rs A 0 PR) (rs B 0 PR)), .bool (lo (rs A 0 PR) (rs B 0 PR))]), ((some 31), fun _ => uv (df (rs A 0 PR) (rs B 0 PR))), ((some 32), fun _ => .bool (lo (rs A 0 PR) (rs B 0 PR))), ((some 10), fun b => .pointer (some ⟨b, 0, none⟩)), (none, fun _ => undef), ((some 11), fun _ => .bool (lo (rs A 0 PR) (rs B 0 PR)))] (fun L g x => St w.heap.size w x ([(b4, Obj.cells (Value.cells (uv PR)) 24 (0, 0)), (b3, Obj.cells #[.int .u64 0, .int .u64 0, .int .u64 0, .int .u64 0] 24 (0, 0)), (b2, Obj.cells (Value.cells (uv B)) 24 (0, 0)), (b1, Obj.cells (Value.cells (uv A)) 24 (0, 0))] ++ (bif L 12 then [(g 12, (bif L 13 then Obj.cells (Value.cells (uv (df (rs A 0 PR) (rs B 0 PR)))) 24 (0, 0) else Obj.cells #[.int .u64 0, .int .u64 0, .int .u64 0, .int .u64 0] 24 (0, 0)))] else []))) (by kernel_rfl) (by kernel_rfl) (by kernel_rfl) (by kernel_rfl) (H6.drew) ⟨?_, ?_, ?_, ?_, ?_, ?_, ?_, ?_, ?_, ?_, ?_, ?_, ?_, ?_, ?_, trivial⟩ ?_
  · exact gv_load 24 (.tmp 3) (fun _ => 3) (fun g => b1) (Value.cells (uv A)) 24 (0, 0) (fun _ _ _ h => h) (fun g => by kernel_rfl) (fun g => by kernel_rfl) (fun L g _ => by kernel_rfl) (by kernel_rfl)
  · exact gv_val (fun _ _ _ h => h) (fun g w => by kernel_rfl)
  · exact gv_load 24 (.tmp 8) (fun _ => 0) (fun g => b4) (Value.cells (uv PR)) 24 (0, 0) (fun _ _ _ h => h) (fun g => by kernel_rfl) (fun g => by kernel_rfl) (fun L g _ => by kernel_rfl) (by kernel_rfl)
  · exact gv_call 46 #[uv A, .agg #[.int .u64 0, .int .u64 0, .int .u64 0, .int .u64 0], uv PR] (fun _ _ _ h => h) (rest_fn A 0 PR hA (by unfold big; omega) pr_ok) (fun g w => by kernel_rfl)
  · exact gv_load 24 (.tmp 4) (fun _ => 2) (fun g => b2) (Value.cells (uv B)) 24 (0, 0) (fun _ _ _ h => h) (fun g => by kernel_rfl) (fun g => by kernel_rfl) (fun L g _ => by kernel_rfl) (by kernel_rfl)
  · exact gv_val (fun _ _ _ h => h) (fun g w => by kernel_rfl)
  · exact gv_load 24 (.tmp 8) (fun _ => 0) (fun g => b4) (Value.cells (uv PR)) 24 (0, 0) (fun _ _ _ h => h) (fun g => by kernel_rfl) (fun g => by kernel_rfl) (fun L g _ => by kernel_rfl) (by kernel_rfl)
  · exact gv_call 46 #[uv B, .agg #[.int .u64 0, .int .u64 0, .int .u64 0, .int .u64 0], uv PR] (fun _ _ _ h => h) (rest_fn B 0 PR hB (by unfold big; omega) pr_ok) (fun g w => by kernel_rfl)
  · exact gv_call 45 #[uv (rs A 0 PR), uv (rs B 0 PR)] (fun _ _ _ h => h) (sub_fn (rs A 0 PR) (rs B 0 PR) (rs_lt pr_ok) (rs_lt pr_ok)) (fun g w => by kernel_rfl)
  · exact gv_val (fun _ _ _ h => h) (fun g w => by kernel_rfl)
  · exact gv_val (fun _ _ _ h => h) (fun g w => by kernel_rfl)
  · exact gv_val (fun _ _ _ h => h) (fun g w => by kernel_rfl)
  · exact gv_alloc 24 (.agg #[.int .u64 0, .int .u64 0, .int .u64 0, .int .u64 0]) (fun L g => [(b4, Obj.cells (Value.cells (uv PR)) 24 (0, 0)), (b3, Obj.cells #[.int .u64 0, .int .u64 0, .int .u64 0, .int .u64 0] 24 (0, 0)), (b2, Obj.cells (Value.cells (uv B)) 24 (0, 0)), (b1, Obj.cells (Value.cells (uv A)) 24 (0, 0))]) (fun L g => ([] : List (Nat × Obj))) (fun g => by kernel_rfl) (by kernel_rfl) (fun L g hN => by (have hn : L 12 = false := hN.1; show ([(b4, Obj.cells (Value.cells (uv PR)) 24 (0, 0)), (b3, Obj.cells #[.int .u64 0, .int .u64 0, .int .u64 0, .int .u64 0] 24 (0, 0)), (b2, Obj.cells (Value.cells (uv B)) 24 (0, 0)), (b1, Obj.cells (Value.cells (uv A)) 24 (0, 0))] ++ (bif L 12 then [(g 12, (bif L 13 then Obj.cells (Value.cells (uv (df (rs A 0 PR) (rs B 0 PR)))) 24 (0, 0) else Obj.cells #[.int .u64 0, .int .u64 0, .int .u64 0, .int .u64 0] 24 (0, 0)))] else [])) = ([(b4, Obj.cells (Value.cells (uv PR)) 24 (0, 0)), (b3, Obj.cells #[.int .u64 0, .int .u64 0, .int .u64 0, .int .u64 0] 24 (0, 0)), (b2, Obj.cells (Value.cells (uv B)) 24 (0, 0)), (b1, Obj.cells (Value.cells (uv A)) 24 (0, 0))]) ++ (([] : List (Nat × Obj))); rw [hn]; rfl)) (fun L g b hN => by (have hz : L 13 = false := hN.2.2.no 12 13 (by kernel_rfl) hN.1; show ([(b4, Obj.cells (Value.cells (uv PR)) 24 (0, 0)), (b3, Obj.cells #[.int .u64 0, .int .u64 0, .int .u64 0, .int .u64 0] 24 (0, 0)), (b2, Obj.cells (Value.cells (uv B)) 24 (0, 0)), (b1, Obj.cells (Value.cells (uv A)) 24 (0, 0))]) ++ (b, Obj.cells #[.int .u64 0, .int .u64 0, .int .u64 0, .int .u64 0] 24 (0, 0)) :: (([] : List (Nat × Obj))) = ([(b4, Obj.cells (Value.cells (uv PR)) 24 (0, 0)), (b3, Obj.cells #[.int .u64 0, .int .u64 0, .int .u64 0, .int .u64 0] 24 (0, 0)), (b2, Obj.cells (Value.cells (uv B)) 24 (0, 0)), (b1, Obj.cells (Value.cells (uv A)) 24 (0, 0))] ++ ([(b, (bif L 13 then Obj.cells (Value.cells (uv (df (rs A 0 PR) (rs B 0 PR)))) 24 (0, 0) else Obj.cells #[.int .u64 0, .int .u64 0, .int .u64 0, .int .u64 0] 24 (0, 0)))])); rw [hz]; rfl))
  · exact gv_store (fun _ => 4) 24 (.tmp 10) (.tmp 31) (fun g => g 12) 0 #[.int .u64 0, .int .u64 0, .int .u64 0, .int .u64 0] (Value.cells (uv (df (rs A 0 PR) (rs B 0 PR)))) 24 (uv (df (rs A 0 PR) (rs B 0 PR))) (fun g => by kernel_rfl) (fun g => by kernel_rfl) (fun g => by kernel_rfl) (by kernel_rfl) (by kernel_rfl) (of_decide_eq_true (by kernel_rfl)) (by kernel_rfl) (fun L g hN => by (have hs13 : L 13 = false := hN.1; have hs12 : L 12 = true := before_yes hN.2.1 12 (by kernel_rfl); show ([(b4, Obj.cells (Value.cells (uv PR)) 24 (0, 0)), (b3, Obj.cells #[.int .u64 0, .int .u64 0, .int .u64 0, .int .u64 0] 24 (0, 0)), (b2, Obj.cells (Value.cells (uv B)) 24 (0, 0)), (b1, Obj.cells (Value.cells (uv A)) 24 (0, 0))] ++ (bif L 12 then [(g 12, (bif L 13 then Obj.cells (Value.cells (uv (df (rs A 0 PR) (rs B 0 PR)))) 24 (0, 0) else Obj.cells #[.int .u64 0, .int .u64 0, .int .u64 0, .int .u64 0] 24 (0, 0)))] else []))[(fun _ => 4) L]? = some (g 12, Obj.cells #[.int .u64 0, .int .u64 0, .int .u64 0, .int .u64 0] 24 (0, 0)) ∧ ([(b4, Obj.cells (Value.cells (uv PR)) 24 (0, 0)), (b3, Obj.cells #[.int .u64 0, .int .u64 0, .int .u64 0, .int .u64 0] 24 (0, 0)), (b2, Obj.cells (Value.cells (uv B)) 24 (0, 0)), (b1, Obj.cells (Value.cells (uv A)) 24 (0, 0))] ++ (bif L 12 then [(g 12, (bif L 13 then Obj.cells (Value.cells (uv (df (rs A 0 PR) (rs B 0 PR)))) 24 (0, 0) else Obj.cells #[.int .u64 0, .int .u64 0, .int .u64 0, .int .u64 0] 24 (0, 0)))] else [])).set ((fun _ => 4) L) (g 12, Obj.cells (Value.cells (uv (df (rs A 0 PR) (rs B 0 PR)))) 24 (0, 0)) = ([(b4, Obj.cells (Value.cells (uv PR)) 24 (0, 0)), (b3, Obj.cells #[.int .u64 0, .int .u64 0, .int .u64 0, .int .u64 0] 24 (0, 0)), (b2, Obj.cells (Value.cells (uv B)) 24 (0, 0)), (b1, Obj.cells (Value.cells (uv A)) 24 (0, 0))] ++ (bif L 12 then [(g 12, (bif true then Obj.cells (Value.cells (uv (df (rs A 0 PR) (rs B 0 PR)))) 24 (0, 0) else Obj.cells #[.int .u64 0, .int .u64 0, .int .u64 0, .int .u64 0] 24 (0, 0)))] else [])); rw [hs13, hs12]; exact ⟨rfl, rfl⟩))
  · exact gv_val (fun _ _ _ h => h) (fun g w => by kernel_rfl)
  intro L0 g7 w7 hall HL; clear H6
  have H7 : St w.heap.size w w7 [(b4, Obj.cells (Value.cells (uv PR)) 24 (0, 0)), (b3, Obj.cells #[.int .u64 0, .int .u64 0, .int .u64 0, .int .u64 0] 24 (0, 0)), (b2, Obj.cells (Value.cells (uv B)) 24 (0, 0)), (b1, Obj.cells (Value.cells (uv A)) 24 (0, 0)), ((g7 12), Obj.cells (Value.cells (uv (df (rs A 0 PR) (rs B 0 PR)))) 24 (0, 0))] := by have e13 := hall 13 (Nat.le_of_ble_eq_true (by kernel_rfl)); have e12 := hall 12 (Nat.le_of_ble_eq_true (by kernel_rfl)); simp only [e13, e12, cond_true] at HL; exact HL
  clear HL hall
  refine g_seq (by kernel_rfl) ?_
  refine g_sreg [0] (by kernel_rfl) (by kernel_rfl) ?_
  cases hlo : lo (rs A 0 PR) (rs B 0 PR)
  · skip
    refine s_val (some 33) (.bool false) (fun w => by kernel_rfl) (by kernel_rfl) ?_
    refine s_nil ?_
    refine g_cond_f (by kernel_rfl) (by kernel_rfl) ?_
    refine g_skip (by kernel_rfl) ?_
    show WP _ _ _ _ _ _
    refine g_sreg [0, 1, 2] (by kernel_rfl) (by kernel_rfl) ?_
    refine s_load H7 (some 40) 24 (.tmp 10) 4 (g7 12) (Value.cells (uv (df (rs A 0 PR) (rs B 0 PR)))) 24 (0, 0) (by kernel_rfl) (by kernel_rfl) (by kernel_rfl) (by kernel_rfl) (by kernel_rfl) ?_
    refine s_store H7 1 [(b4, Obj.cells (Value.cells (uv PR)) 24 (0, 0)), (b3, Obj.cells (Value.cells (uv (df (rs A 0 PR) (rs B 0 PR)))) 24 (0, 0)), (b2, Obj.cells (Value.cells (uv B)) 24 (0, 0)), (b1, Obj.cells (Value.cells (uv A)) 24 (0, 0)), ((g7 12), Obj.cells (Value.cells (uv (df (rs A 0 PR) (rs B 0 PR)))) 24 (0, 0))] 24 (.tmp 6) (.tmp 40) b3 0 #[.int .u64 0, .int .u64 0, .int .u64 0, .int .u64 0] (Value.cells (uv (df (rs A 0 PR) (rs B 0 PR)))) 24 (uv (df (rs A 0 PR) (rs B 0 PR))) (by kernel_rfl) (by kernel_rfl) (by kernel_rfl) (by kernel_rfl) (by kernel_rfl) (by kernel_rfl) (of_decide_eq_true (by kernel_rfl)) (by kernel_rfl) (by kernel_rfl) ?_
    intro w8 H8; clear H7
    refine s_val (some 7) (.int .i64 0) (fun w => by kernel_rfl) (by kernel_rfl) ?_
    refine s_nil ?_
    refine g_ret (by kernel_rfl) ?_
    show ∃ vs, Res _ _ _ _ vs ∧ _
    refine ⟨[uv (df (rs A 0 PR) (rs B 0 PR)), .int .i64 0], (.agg (b := b3) (Value.cells (uv (df (rs A 0 PR) (rs B 0 PR)))) 24 (0, 0) (by kernel_rfl) (H8.get 1 (by kernel_rfl)) (by kernel_rfl) (.tmp (.int .i64 0) (by kernel_rfl) .nil)), ?_, H8.below⟩
    exact congrArg (fun n => Value.tuple #[uv n, .int .i64 0]) (fSub_of2 pr_ok hlo)
  · skip
    refine s_val (some 33) (.bool true) (fun w => by kernel_rfl) (by kernel_rfl) ?_
    refine s_nil ?_
    refine g_cond_t (by kernel_rfl) (by kernel_rfl) ?_
    refine g_reg0 [0, 1, 2, 3, 4, 5, 6] (by kernel_rfl) ?_
    refine s_load H7 (some 35) 24 (.tmp 10) 4 (g7 12) (Value.cells (uv (df (rs A 0 PR) (rs B 0 PR)))) 24 (0, 0) (by kernel_rfl) (by kernel_rfl) (by kernel_rfl) (by kernel_rfl) (by kernel_rfl) ?_
    refine s_load H7 (some 36) 24 (.tmp 8) 0 b4 (Value.cells (uv PR)) 24 (0, 0) (by kernel_rfl) (by kernel_rfl) (by kernel_rfl) (by kernel_rfl) (by kernel_rfl) ?_
    refine s_call H7 (some 37) 21 #[uv (df (rs A 0 PR) (rs B 0 PR)), uv PR] (.tuple #[uv (sm (df (rs A 0 PR) (rs B 0 PR)) PR), .bool (ov (df (rs A 0 PR) (rs B 0 PR)) PR)]) (add_fn (df (rs A 0 PR) (rs B 0 PR)) PR (df_lt _ _) pr_ok.1) (fun w => by kernel_rfl) (by kernel_rfl) ?_
    intro w9 H9; clear H7
    refine s_val (some 34) (.tuple #[uv (sm (df (rs A 0 PR) (rs B 0 PR)) PR), .bool (ov (df (rs A 0 PR) (rs B 0 PR)) PR)]) (fun w => by kernel_rfl) (by kernel_rfl) ?_
    refine s_val (some 38) (uv (sm (df (rs A 0 PR) (rs B 0 PR)) PR)) (fun w => by kernel_rfl) (by kernel_rfl) ?_
    refine s_val (some 39) (.bool (ov (df (rs A 0 PR) (rs B 0 PR)) PR)) (fun w => by kernel_rfl) (by kernel_rfl) ?_
    refine s_store H9 4 [(b4, Obj.cells (Value.cells (uv PR)) 24 (0, 0)), (b3, Obj.cells #[.int .u64 0, .int .u64 0, .int .u64 0, .int .u64 0] 24 (0, 0)), (b2, Obj.cells (Value.cells (uv B)) 24 (0, 0)), (b1, Obj.cells (Value.cells (uv A)) 24 (0, 0)), ((g7 12), Obj.cells (Value.cells (uv (sm (df (rs A 0 PR) (rs B 0 PR)) PR))) 24 (0, 0))] 24 (.tmp 10) (.tmp 38) (g7 12) 0 (Value.cells (uv (df (rs A 0 PR) (rs B 0 PR)))) (Value.cells (uv (sm (df (rs A 0 PR) (rs B 0 PR)) PR))) 24 (uv (sm (df (rs A 0 PR) (rs B 0 PR)) PR)) (by kernel_rfl) (by kernel_rfl) (by kernel_rfl) (by kernel_rfl) (by kernel_rfl) (by kernel_rfl) (of_decide_eq_true (by kernel_rfl)) (by kernel_rfl) (by kernel_rfl) ?_
    intro w10 H10; clear H9
    refine s_nil ?_
    show WP _ _ _ _ _ _
    refine g_sreg [0, 1, 2] (by kernel_rfl) (by kernel_rfl) ?_
    refine s_load H10 (some 40) 24 (.tmp 10) 4 (g7 12) (Value.cells (uv (sm (df (rs A 0 PR) (rs B 0 PR)) PR))) 24 (0, 0) (by kernel_rfl) (by kernel_rfl) (by kernel_rfl) (by kernel_rfl) (by kernel_rfl) ?_
    refine s_store H10 1 [(b4, Obj.cells (Value.cells (uv PR)) 24 (0, 0)), (b3, Obj.cells (Value.cells (uv (sm (df (rs A 0 PR) (rs B 0 PR)) PR))) 24 (0, 0)), (b2, Obj.cells (Value.cells (uv B)) 24 (0, 0)), (b1, Obj.cells (Value.cells (uv A)) 24 (0, 0)), ((g7 12), Obj.cells (Value.cells (uv (sm (df (rs A 0 PR) (rs B 0 PR)) PR))) 24 (0, 0))] 24 (.tmp 6) (.tmp 40) b3 0 #[.int .u64 0, .int .u64 0, .int .u64 0, .int .u64 0] (Value.cells (uv (sm (df (rs A 0 PR) (rs B 0 PR)) PR))) 24 (uv (sm (df (rs A 0 PR) (rs B 0 PR)) PR)) (by kernel_rfl) (by kernel_rfl) (by kernel_rfl) (by kernel_rfl) (by kernel_rfl) (by kernel_rfl) (of_decide_eq_true (by kernel_rfl)) (by kernel_rfl) (by kernel_rfl) ?_
    intro w11 H11; clear H10
    refine s_val (some 7) (.int .i64 0) (fun w => by kernel_rfl) (by kernel_rfl) ?_
    refine s_nil ?_
    refine g_ret (by kernel_rfl) ?_
    show ∃ vs, Res _ _ _ _ vs ∧ _
    refine ⟨[uv (sm (df (rs A 0 PR) (rs B 0 PR)) PR), .int .i64 0], (.agg (b := b3) (Value.cells (uv (sm (df (rs A 0 PR) (rs B 0 PR)) PR))) 24 (0, 0) (by kernel_rfl) (H11.get 1 (by kernel_rfl)) (by kernel_rfl) (.tmp (.int .i64 0) (by kernel_rfl) .nil)), ?_, H11.below⟩
    exact congrArg (fun n => Value.tuple #[uv n, .int .i64 0]) (fSub_of1 pr_ok hlo)

set_option maxRecDepth 100000 in
theorem fsub1_fn (A B : Nat) (hA : A < big) (hB : B < big) : Fn Try.prog 25 #[uv A, uv B, .int .i64 1] (.tuple #[uv (fSub A B NR), .int .i64 0]) := by
  refine Fn.intro (c := codeOf Try.f25) [.cell 6 24, .tmp 7] 41 Try.func25 (by kernel_rfl) (by kernel_rfl) (by kernel_rfl) fun w => ?_
  have H0 := St.start w
  refine g_sreg [0, 1, 2, 3] (by kernel_rfl) (by kernel_rfl) ?_
  refine s_box H0 (some 3) 24 (.tmp 0) (uv A) (by kernel_rfl) (by kernel_rfl) (by kernel_rfl) ?_
  intro b1 w1 H1; clear H0
  refine s_box H1 (some 4) 24 (.tmp 1) (uv B) (by kernel_rfl) (by kernel_rfl) (by kernel_rfl) ?_
  intro b2 w2 H2; clear H1
  refine s_alloc H2 (some 6) 24 (.agg #[.int .u64 0, .int .u64 0, .int .u64 0, .int .u64 0]) (by kernel_rfl) (by kernel_rfl) (by kernel_rfl) ?_
  intro b3 w3 H3; clear H2
  refine s_val (some 7) (.int .i64 0) (fun w => by kernel_rfl) (by kernel_rfl) ?_
  refine s_nil ?_
  refine g_sreg [0, 1, 2, 3, 4, 5, 6, 7] (by kernel_rfl) (by kernel_rfl) ?_
  refine s_val (some 13) (.int .i64 1) (fun w => by kernel_rfl) (by kernel_rfl) ?_
  refine s_call H3 (some 14) 23 #[.int .i64 1] (.tuple #[uv NR, .int .i64 0]) prime1_fn (fun w => by kernel_rfl) (by kernel_rfl) ?_
  intro w4 H4; clear H3
  refine s_val (some 12) (.tuple #[uv NR, .int .i64 0]) (fun w => by kernel_rfl) (by kernel_rfl) ?_
  refine s_val (some 15) (uv NR) (fun w => by kernel_rfl) (by kernel_rfl) ?_
  refine s_val (some 16) (.int .i64 0) (fun w => by kernel_rfl) (by kernel_rfl) ?_
  refine s_alloc H4 (some 8) 24 (.agg #[.int .u64 0, .int .u64 0, .int .u64 0, .int .u64 0]) (by kernel_rfl) (by kernel_rfl) (by kernel_rfl) ?_
  intro b4 w5 H5; clear H4
  refine s_store H5 0 [(b4, Obj.cells (Value.cells (uv NR)) 24 (0, 0)), (b3, Obj.cells #[.int .u64 0, .int .u64 0, .int .u64 0, .int .u64 0] 24 (0, 0)), (b2, Obj.cells (Value.cells (uv B)) 24 (0, 0)), (b1, Obj.cells (Value.cells (uv A)) 24 (0, 0))] 24 (.tmp 8) (.tmp 15) b4 0 #[.int .u64 0, .int .u64 0, .int .u64 0, .int .u64 0] (Value.cells (uv NR)) 24 (uv NR) (by kernel_rfl) (by kernel_rfl) (by kernel_rfl) (by kernel_rfl) (by kernel_rfl) (by kernel_rfl) (of_decide_eq_true (by kernel_rfl)) (by kernel_rfl) (by kernel_rfl) ?_
  intro w6 H6; clear H5
  refine s_val (some 9) (.int .i64 0) (fun w => by kernel_rfl) (by kernel_rfl) ?_
  refine s_nil ?_
  refine g_seq (by kernel_rfl) ?_
  refine g_sreg [0, 1] (by kernel_rfl) (by kernel_rfl) ?_
  refine s_val (some 17) (.int .i64 0) (fun w => by kernel_rfl) (by kernel_rfl) ?_
  refine s_val (some 18) (.bool false) (fun w => by kernel_rfl) (by kernel_rfl) ?_
  refine s_nil ?_
  refine g_cond_f (by kernel_rfl) (by kernel_rfl) ?_
  refine g_skip (by kernel_rfl) ?_
  show WP _ _ _ _ _ _
  refine g_sdraw [0, 1, 2, 3, 4, 5, 6, 7, 8, 9, 10, 11, 12, 13, 14] [((some 22), fun _ => uv A), ((some 23), fun _ => .agg #[.int .u64 0, .int .u64 0, .int .u64 0, .int .u64 0]), ((some 24), fun _ => uv NR), ((some 25), fun _ => uv (rs A 0 NR)), ((some 26), fun _ => uv B), ((some 27), fun _ => .agg #[.int .u64 0, .int .u64 0, .int .u64 0, .int .u64 0]), ((some 28), fun _ => uv NR), ((some 29), fun _ => uv (rs B 0 NR)), ((some 30), fun _ => .tuple #[uv (df (rs A 0 NR) (rs B 0 NR)), .bool (lo (rs A 0 NR) (rs B 0 NR))]), ((some 21), fun _ => .tuple #[uv (df (rs A 0 NR) (rs B 0 NR)), .bool (lo (rs A 0 NR) (rs B 0 NR))]), ((some 31), fun _ => uv (df (rs A 0 NR) (rs B 0 NR))), ((some 32), fun _ => .bool (lo (rs A 0 NR) (rs B 0 NR))), ((some 10), fun b => .pointer (some ⟨b, 0, none⟩)), (none, fun _ => undef), ((some 11), fun _ => .bool (lo (rs A 0 NR) (rs B 0 NR)))] (fun L g x => St w.heap.size w x ([(b4, Obj.cells (Value.cells (uv NR)) 24 (0, 0)), (b3, Obj.cells #[.int .u64 0, .int .u64 0, .int .u64 0, .int .u64 0] 24 (0, 0)), (b2, Obj.cells (Value.cells (uv B)) 24 (0, 0)), (b1, Obj.cells (Value.cells (uv A)) 24 (0, 0))] ++ (bif L 12 then [(g 12, (bif L 13 then Obj.cells (Value.cells (uv (df (rs A 0 NR) (rs B 0 NR)))) 24 (0, 0) else Obj.cells #[.int .u64 0, .int .u64 0, .int .u64 0, .int .u64 0] 24 (0, 0)))] else []))) (by kernel_rfl) (by kernel_rfl) (by kernel_rfl) (by kernel_rfl) (H6.drew) ⟨?_, ?_, ?_, ?_, ?_, ?_, ?_, ?_, ?_, ?_, ?_, ?_, ?_, ?_, ?_, trivial⟩ ?_
  · exact gv_load 24 (.tmp 3) (fun _ => 3) (fun g => b1) (Value.cells (uv A)) 24 (0, 0) (fun _ _ _ h => h) (fun g => by kernel_rfl) (fun g => by kernel_rfl) (fun L g _ => by kernel_rfl) (by kernel_rfl)
  · exact gv_val (fun _ _ _ h => h) (fun g w => by kernel_rfl)
  · exact gv_load 24 (.tmp 8) (fun _ => 0) (fun g => b4) (Value.cells (uv NR)) 24 (0, 0) (fun _ _ _ h => h) (fun g => by kernel_rfl) (fun g => by kernel_rfl) (fun L g _ => by kernel_rfl) (by kernel_rfl)
  · exact gv_call 46 #[uv A, .agg #[.int .u64 0, .int .u64 0, .int .u64 0, .int .u64 0], uv NR] (fun _ _ _ h => h) (rest_fn A 0 NR hA (by unfold big; omega) nr_ok) (fun g w => by kernel_rfl)
  · exact gv_load 24 (.tmp 4) (fun _ => 2) (fun g => b2) (Value.cells (uv B)) 24 (0, 0) (fun _ _ _ h => h) (fun g => by kernel_rfl) (fun g => by kernel_rfl) (fun L g _ => by kernel_rfl) (by kernel_rfl)
  · exact gv_val (fun _ _ _ h => h) (fun g w => by kernel_rfl)
  · exact gv_load 24 (.tmp 8) (fun _ => 0) (fun g => b4) (Value.cells (uv NR)) 24 (0, 0) (fun _ _ _ h => h) (fun g => by kernel_rfl) (fun g => by kernel_rfl) (fun L g _ => by kernel_rfl) (by kernel_rfl)
  · exact gv_call 46 #[uv B, .agg #[.int .u64 0, .int .u64 0, .int .u64 0, .int .u64 0], uv NR] (fun _ _ _ h => h) (rest_fn B 0 NR hB (by unfold big; omega) nr_ok) (fun g w => by kernel_rfl)
  · exact gv_call 45 #[uv (rs A 0 NR), uv (rs B 0 NR)] (fun _ _ _ h => h) (sub_fn (rs A 0 NR) (rs B 0 NR) (rs_lt nr_ok) (rs_lt nr_ok)) (fun g w => by kernel_rfl)
  · exact gv_val (fun _ _ _ h => h) (fun g w => by kernel_rfl)
  · exact gv_val (fun _ _ _ h => h) (fun g w => by kernel_rfl)
  · exact gv_val (fun _ _ _ h => h) (fun g w => by kernel_rfl)
  · exact gv_alloc 24 (.agg #[.int .u64 0, .int .u64 0, .int .u64 0, .int .u64 0]) (fun L g => [(b4, Obj.cells (Value.cells (uv NR)) 24 (0, 0)), (b3, Obj.cells #[.int .u64 0, .int .u64 0, .int .u64 0, .int .u64 0] 24 (0, 0)), (b2, Obj.cells (Value.cells (uv B)) 24 (0, 0)), (b1, Obj.cells (Value.cells (uv A)) 24 (0, 0))]) (fun L g => ([] : List (Nat × Obj))) (fun g => by kernel_rfl) (by kernel_rfl) (fun L g hN => by (have hn : L 12 = false := hN.1; show ([(b4, Obj.cells (Value.cells (uv NR)) 24 (0, 0)), (b3, Obj.cells #[.int .u64 0, .int .u64 0, .int .u64 0, .int .u64 0] 24 (0, 0)), (b2, Obj.cells (Value.cells (uv B)) 24 (0, 0)), (b1, Obj.cells (Value.cells (uv A)) 24 (0, 0))] ++ (bif L 12 then [(g 12, (bif L 13 then Obj.cells (Value.cells (uv (df (rs A 0 NR) (rs B 0 NR)))) 24 (0, 0) else Obj.cells #[.int .u64 0, .int .u64 0, .int .u64 0, .int .u64 0] 24 (0, 0)))] else [])) = ([(b4, Obj.cells (Value.cells (uv NR)) 24 (0, 0)), (b3, Obj.cells #[.int .u64 0, .int .u64 0, .int .u64 0, .int .u64 0] 24 (0, 0)), (b2, Obj.cells (Value.cells (uv B)) 24 (0, 0)), (b1, Obj.cells (Value.cells (uv A)) 24 (0, 0))]) ++ (([] : List (Nat × Obj))); rw [hn]; rfl)) (fun L g b hN => by (have hz : L 13 = false := hN.2.2.no 12 13 (by kernel_rfl) hN.1; show ([(b4, Obj.cells (Value.cells (uv NR)) 24 (0, 0)), (b3, Obj.cells #[.int .u64 0, .int .u64 0, .int .u64 0, .int .u64 0] 24 (0, 0)), (b2, Obj.cells (Value.cells (uv B)) 24 (0, 0)), (b1, Obj.cells (Value.cells (uv A)) 24 (0, 0))]) ++ (b, Obj.cells #[.int .u64 0, .int .u64 0, .int .u64 0, .int .u64 0] 24 (0, 0)) :: (([] : List (Nat × Obj))) = ([(b4, Obj.cells (Value.cells (uv NR)) 24 (0, 0)), (b3, Obj.cells #[.int .u64 0, .int .u64 0, .int .u64 0, .int .u64 0] 24 (0, 0)), (b2, Obj.cells (Value.cells (uv B)) 24 (0, 0)), (b1, Obj.cells (Value.cells (uv A)) 24 (0, 0))] ++ ([(b, (bif L 13 then Obj.cells (Value.cells (uv (df (rs A 0 NR) (rs B 0 NR)))) 24 (0, 0) else Obj.cells #[.int .u64 0, .int .u64 0, .int .u64 0, .int .u64 0] 24 (0, 0)))])); rw [hz]; rfl))
  · exact gv_store (fun _ => 4) 24 (.tmp 10) (.tmp 31) (fun g => g 12) 0 #[.int .u64 0, .int .u64 0, .int .u64 0, .int .u64 0] (Value.cells (uv (df (rs A 0 NR) (rs B 0 NR)))) 24 (uv (df (rs A 0 NR) (rs B 0 NR))) (fun g => by kernel_rfl) (fun g => by kernel_rfl) (fun g => by kernel_rfl) (by kernel_rfl) (by kernel_rfl) (of_decide_eq_true (by kernel_rfl)) (by kernel_rfl) (fun L g hN => by (have hs13 : L 13 = false := hN.1; have hs12 : L 12 = true := before_yes hN.2.1 12 (by kernel_rfl); show ([(b4, Obj.cells (Value.cells (uv NR)) 24 (0, 0)), (b3, Obj.cells #[.int .u64 0, .int .u64 0, .int .u64 0, .int .u64 0] 24 (0, 0)), (b2, Obj.cells (Value.cells (uv B)) 24 (0, 0)), (b1, Obj.cells (Value.cells (uv A)) 24 (0, 0))] ++ (bif L 12 then [(g 12, (bif L 13 then Obj.cells (Value.cells (uv (df (rs A 0 NR) (rs B 0 NR)))) 24 (0, 0) else Obj.cells #[.int .u64 0, .int .u64 0, .int .u64 0, .int .u64 0] 24 (0, 0)))] else []))[(fun _ => 4) L]? = some (g 12, Obj.cells #[.int .u64 0, .int .u64 0, .int .u64 0, .int .u64 0] 24 (0, 0)) ∧ ([(b4, Obj.cells (Value.cells (uv NR)) 24 (0, 0)), (b3, Obj.cells #[.int .u64 0, .int .u64 0, .int .u64 0, .int .u64 0] 24 (0, 0)), (b2, Obj.cells (Value.cells (uv B)) 24 (0, 0)), (b1, Obj.cells (Value.cells (uv A)) 24 (0, 0))] ++ (bif L 12 then [(g 12, (bif L 13 then Obj.cells (Value.cells (uv (df (rs A 0 NR) (rs B 0 NR)))) 24 (0, 0) else Obj.cells #[.int .u64 0, .int .u64 0, .int .u64 0, .int .u64 0] 24 (0, 0)))] else [])).set ((fun _ => 4) L) (g 12, Obj.cells (Value.cells (uv (df (rs A 0 NR) (rs B 0 NR)))) 24 (0, 0)) = ([(b4, Obj.cells (Value.cells (uv NR)) 24 (0, 0)), (b3, Obj.cells #[.int .u64 0, .int .u64 0, .int .u64 0, .int .u64 0] 24 (0, 0)), (b2, Obj.cells (Value.cells (uv B)) 24 (0, 0)), (b1, Obj.cells (Value.cells (uv A)) 24 (0, 0))] ++ (bif L 12 then [(g 12, (bif true then Obj.cells (Value.cells (uv (df (rs A 0 NR) (rs B 0 NR)))) 24 (0, 0) else Obj.cells #[.int .u64 0, .int .u64 0, .int .u64 0, .int .u64 0] 24 (0, 0)))] else [])); rw [hs13, hs12]; exact ⟨rfl, rfl⟩))
  · exact gv_val (fun _ _ _ h => h) (fun g w => by kernel_rfl)
  intro L0 g7 w7 hall HL; clear H6
  have H7 : St w.heap.size w w7 [(b4, Obj.cells (Value.cells (uv NR)) 24 (0, 0)), (b3, Obj.cells #[.int .u64 0, .int .u64 0, .int .u64 0, .int .u64 0] 24 (0, 0)), (b2, Obj.cells (Value.cells (uv B)) 24 (0, 0)), (b1, Obj.cells (Value.cells (uv A)) 24 (0, 0)), ((g7 12), Obj.cells (Value.cells (uv (df (rs A 0 NR) (rs B 0 NR)))) 24 (0, 0))] := by have e13 := hall 13 (Nat.le_of_ble_eq_true (by kernel_rfl)); have e12 := hall 12 (Nat.le_of_ble_eq_true (by kernel_rfl)); simp only [e13, e12, cond_true] at HL; exact HL
  clear HL hall
  refine g_seq (by kernel_rfl) ?_
  refine g_sreg [0] (by kernel_rfl) (by kernel_rfl) ?_
  cases hlo : lo (rs A 0 NR) (rs B 0 NR)
  · skip
    refine s_val (some 33) (.bool false) (fun w => by kernel_rfl) (by kernel_rfl) ?_
    refine s_nil ?_
    refine g_cond_f (by kernel_rfl) (by kernel_rfl) ?_
    refine g_skip (by kernel_rfl) ?_
    show WP _ _ _ _ _ _
    refine g_sreg [0, 1, 2] (by kernel_rfl) (by kernel_rfl) ?_
    refine s_load H7 (some 40) 24 (.tmp 10) 4 (g7 12) (Value.cells (uv (df (rs A 0 NR) (rs B 0 NR)))) 24 (0, 0) (by kernel_rfl) (by kernel_rfl) (by kernel_rfl) (by kernel_rfl) (by kernel_rfl) ?_
    refine s_store H7 1 [(b4, Obj.cells (Value.cells (uv NR)) 24 (0, 0)), (b3, Obj.cells (Value.cells (uv (df (rs A 0 NR) (rs B 0 NR)))) 24 (0, 0)), (b2, Obj.cells (Value.cells (uv B)) 24 (0, 0)), (b1, Obj.cells (Value.cells (uv A)) 24 (0, 0)), ((g7 12), Obj.cells (Value.cells (uv (df (rs A 0 NR) (rs B 0 NR)))) 24 (0, 0))] 24 (.tmp 6) (.tmp 40) b3 0 #[.int .u64 0, .int .u64 0, .int .u64 0, .int .u64 0] (Value.cells (uv (df (rs A 0 NR) (rs B 0 NR)))) 24 (uv (df (rs A 0 NR) (rs B 0 NR))) (by kernel_rfl) (by kernel_rfl) (by kernel_rfl) (by kernel_rfl) (by kernel_rfl) (by kernel_rfl) (of_decide_eq_true (by kernel_rfl)) (by kernel_rfl) (by kernel_rfl) ?_
    intro w8 H8; clear H7
    refine s_val (some 7) (.int .i64 0) (fun w => by kernel_rfl) (by kernel_rfl) ?_
    refine s_nil ?_
    refine g_ret (by kernel_rfl) ?_
    show ∃ vs, Res _ _ _ _ vs ∧ _
    refine ⟨[uv (df (rs A 0 NR) (rs B 0 NR)), .int .i64 0], (.agg (b := b3) (Value.cells (uv (df (rs A 0 NR) (rs B 0 NR)))) 24 (0, 0) (by kernel_rfl) (H8.get 1 (by kernel_rfl)) (by kernel_rfl) (.tmp (.int .i64 0) (by kernel_rfl) .nil)), ?_, H8.below⟩
    exact congrArg (fun n => Value.tuple #[uv n, .int .i64 0]) (fSub_of2 nr_ok hlo)
  · skip
    refine s_val (some 33) (.bool true) (fun w => by kernel_rfl) (by kernel_rfl) ?_
    refine s_nil ?_
    refine g_cond_t (by kernel_rfl) (by kernel_rfl) ?_
    refine g_reg0 [0, 1, 2, 3, 4, 5, 6] (by kernel_rfl) ?_
    refine s_load H7 (some 35) 24 (.tmp 10) 4 (g7 12) (Value.cells (uv (df (rs A 0 NR) (rs B 0 NR)))) 24 (0, 0) (by kernel_rfl) (by kernel_rfl) (by kernel_rfl) (by kernel_rfl) (by kernel_rfl) ?_
    refine s_load H7 (some 36) 24 (.tmp 8) 0 b4 (Value.cells (uv NR)) 24 (0, 0) (by kernel_rfl) (by kernel_rfl) (by kernel_rfl) (by kernel_rfl) (by kernel_rfl) ?_
    refine s_call H7 (some 37) 21 #[uv (df (rs A 0 NR) (rs B 0 NR)), uv NR] (.tuple #[uv (sm (df (rs A 0 NR) (rs B 0 NR)) NR), .bool (ov (df (rs A 0 NR) (rs B 0 NR)) NR)]) (add_fn (df (rs A 0 NR) (rs B 0 NR)) NR (df_lt _ _) nr_ok.1) (fun w => by kernel_rfl) (by kernel_rfl) ?_
    intro w9 H9; clear H7
    refine s_val (some 34) (.tuple #[uv (sm (df (rs A 0 NR) (rs B 0 NR)) NR), .bool (ov (df (rs A 0 NR) (rs B 0 NR)) NR)]) (fun w => by kernel_rfl) (by kernel_rfl) ?_
    refine s_val (some 38) (uv (sm (df (rs A 0 NR) (rs B 0 NR)) NR)) (fun w => by kernel_rfl) (by kernel_rfl) ?_
    refine s_val (some 39) (.bool (ov (df (rs A 0 NR) (rs B 0 NR)) NR)) (fun w => by kernel_rfl) (by kernel_rfl) ?_
    refine s_store H9 4 [(b4, Obj.cells (Value.cells (uv NR)) 24 (0, 0)), (b3, Obj.cells #[.int .u64 0, .int .u64 0, .int .u64 0, .int .u64 0] 24 (0, 0)), (b2, Obj.cells (Value.cells (uv B)) 24 (0, 0)), (b1, Obj.cells (Value.cells (uv A)) 24 (0, 0)), ((g7 12), Obj.cells (Value.cells (uv (sm (df (rs A 0 NR) (rs B 0 NR)) NR))) 24 (0, 0))] 24 (.tmp 10) (.tmp 38) (g7 12) 0 (Value.cells (uv (df (rs A 0 NR) (rs B 0 NR)))) (Value.cells (uv (sm (df (rs A 0 NR) (rs B 0 NR)) NR))) 24 (uv (sm (df (rs A 0 NR) (rs B 0 NR)) NR)) (by kernel_rfl) (by kernel_rfl) (by kernel_rfl) (by kernel_rfl) (by kernel_rfl) (by kernel_rfl) (of_decide_eq_true (by kernel_rfl)) (by kernel_rfl) (by kernel_rfl) ?_
    intro w10 H10; clear H9
    refine s_nil ?_
    show WP _ _ _ _ _ _
    refine g_sreg [0, 1, 2] (by kernel_rfl) (by kernel_rfl) ?_
    refine s_load H10 (some 40) 24 (.tmp 10) 4 (g7 12) (Value.cells (uv (sm (df (rs A 0 NR) (rs B 0 NR)) NR))) 24 (0, 0) (by kernel_rfl) (by kernel_rfl) (by kernel_rfl) (by kernel_rfl) (by kernel_rfl) ?_
    refine s_store H10 1 [(b4, Obj.cells (Value.cells (uv NR)) 24 (0, 0)), (b3, Obj.cells (Value.cells (uv (sm (df (rs A 0 NR) (rs B 0 NR)) NR))) 24 (0, 0)), (b2, Obj.cells (Value.cells (uv B)) 24 (0, 0)), (b1, Obj.cells (Value.cells (uv A)) 24 (0, 0)), ((g7 12), Obj.cells (Value.cells (uv (sm (df (rs A 0 NR) (rs B 0 NR)) NR))) 24 (0, 0))] 24 (.tmp 6) (.tmp 40) b3 0 #[.int .u64 0, .int .u64 0, .int .u64 0, .int .u64 0] (Value.cells (uv (sm (df (rs A 0 NR) (rs B 0 NR)) NR))) 24 (uv (sm (df (rs A 0 NR) (rs B 0 NR)) NR)) (by kernel_rfl) (by kernel_rfl) (by kernel_rfl) (by kernel_rfl) (by kernel_rfl) (by kernel_rfl) (of_decide_eq_true (by kernel_rfl)) (by kernel_rfl) (by kernel_rfl) ?_
    intro w11 H11; clear H10
    refine s_val (some 7) (.int .i64 0) (fun w => by kernel_rfl) (by kernel_rfl) ?_
    refine s_nil ?_
    refine g_ret (by kernel_rfl) ?_
    show ∃ vs, Res _ _ _ _ vs ∧ _
    refine ⟨[uv (sm (df (rs A 0 NR) (rs B 0 NR)) NR), .int .i64 0], (.agg (b := b3) (Value.cells (uv (sm (df (rs A 0 NR) (rs B 0 NR)) NR))) 24 (0, 0) (by kernel_rfl) (H11.get 1 (by kernel_rfl)) (by kernel_rfl) (.tmp (.int .i64 0) (by kernel_rfl) .nil)), ?_, H11.below⟩
    exact congrArg (fun n => Value.tuple #[uv n, .int .i64 0]) (fSub_of1 nr_ok hlo)

set_option maxRecDepth 100000 in
theorem fsubNo_fn (A B : Nat) (hA : A < big) (hB : B < big) (n : Int) (h0 : n ≠ 0) (h1 : n ≠ 1) : Fn Try.prog 25 #[uv A, uv B, .int .i64 n] (.tuple #[.agg #[.int .u64 0, .int .u64 0, .int .u64 0, .int .u64 0], .int .i64 1]) := by
  refine Fn.intro (c := codeOf Try.f25) [.cell 6 24, .tmp 7] 41 Try.func25 (by kernel_rfl) (by kernel_rfl) (by kernel_rfl) fun w => ?_
  have H0 := St.start w
  refine g_sreg [0, 1, 2, 3] (by kernel_rfl) (by kernel_rfl) ?_
  refine s_box H0 (some 3) 24 (.tmp 0) (uv A) (by kernel_rfl) (by kernel_rfl) (by kernel_rfl) ?_
  intro b1 w1 H1; clear H0
  refine s_box H1 (some 4) 24 (.tmp 1) (uv B) (by kernel_rfl) (by kernel_rfl) (by kernel_rfl) ?_
  intro b2 w2 H2; clear H1
  refine s_alloc H2 (some 6) 24 (.agg #[.int .u64 0, .int .u64 0, .int .u64 0, .int .u64 0]) (by kernel_rfl) (by kernel_rfl) (by kernel_rfl) ?_
  intro b3 w3 H3; clear H2
  refine s_val (some 7) (.int .i64 0) (fun w => by kernel_rfl) (by kernel_rfl) ?_
  refine s_nil ?_
  refine g_sreg [0, 1, 2, 3, 4, 5, 6, 7] (by kernel_rfl) (by kernel_rfl) ?_
  refine s_val (some 13) (.int .i64 n) (fun w => by kernel_rfl) (by kernel_rfl) ?_
  refine s_call H3 (some 14) 23 #[.int .i64 n] (.tuple #[.agg #[.int .u64 0, .int .u64 0, .int .u64 0, .int .u64 0], .int .i64 1]) (primeNo_fn n h0 h1) (fun w => by kernel_rfl) (by kernel_rfl) ?_
  intro w4 H4; clear H3
  refine s_val (some 12) (.tuple #[.agg #[.int .u64 0, .int .u64 0, .int .u64 0, .int .u64 0], .int .i64 1]) (fun w => by kernel_rfl) (by kernel_rfl) ?_
  refine s_val (some 15) (.agg #[.int .u64 0, .int .u64 0, .int .u64 0, .int .u64 0]) (fun w => by kernel_rfl) (by kernel_rfl) ?_
  refine s_val (some 16) (.int .i64 1) (fun w => by kernel_rfl) (by kernel_rfl) ?_
  refine s_alloc H4 (some 8) 24 (.agg #[.int .u64 0, .int .u64 0, .int .u64 0, .int .u64 0]) (by kernel_rfl) (by kernel_rfl) (by kernel_rfl) ?_
  intro b4 w5 H5; clear H4
  refine s_store H5 0 [(b4, Obj.cells #[.int .u64 0, .int .u64 0, .int .u64 0, .int .u64 0] 24 (0, 0)), (b3, Obj.cells #[.int .u64 0, .int .u64 0, .int .u64 0, .int .u64 0] 24 (0, 0)), (b2, Obj.cells (Value.cells (uv B)) 24 (0, 0)), (b1, Obj.cells (Value.cells (uv A)) 24 (0, 0))] 24 (.tmp 8) (.tmp 15) b4 0 #[.int .u64 0, .int .u64 0, .int .u64 0, .int .u64 0] #[.int .u64 0, .int .u64 0, .int .u64 0, .int .u64 0] 24 (.agg #[.int .u64 0, .int .u64 0, .int .u64 0, .int .u64 0]) (by kernel_rfl) (by kernel_rfl) (by kernel_rfl) (by kernel_rfl) (by kernel_rfl) (by kernel_rfl) (of_decide_eq_true (by kernel_rfl)) (by kernel_rfl) (by kernel_rfl) ?_
  intro w6 H6; clear H5
  refine s_val (some 9) (.int .i64 1) (fun w => by kernel_rfl) (by kernel_rfl) ?_
  refine s_nil ?_
  refine g_seq (by kernel_rfl) ?_
  refine g_sreg [0, 1] (by kernel_rfl) (by kernel_rfl) ?_
  refine s_val (some 17) (.int .i64 1) (fun w => by kernel_rfl) (by kernel_rfl) ?_
  refine s_val (some 18) (.bool true) (fun w => by kernel_rfl) (by kernel_rfl) ?_
  refine s_nil ?_
  refine g_cond_t (by kernel_rfl) (by kernel_rfl) ?_
  refine g_sreg [0, 1, 2, 3] (by kernel_rfl) (by kernel_rfl) ?_
  refine s_val (some 19) (.agg #[.int .u64 0, .int .u64 0, .int .u64 0, .int .u64 0]) (fun w => by kernel_rfl) (by kernel_rfl) ?_
  refine s_val (some 20) (.int .i64 1) (fun w => by kernel_rfl) (by kernel_rfl) ?_
  refine s_store H6 1 [(b4, Obj.cells #[.int .u64 0, .int .u64 0, .int .u64 0, .int .u64 0] 24 (0, 0)), (b3, Obj.cells #[.int .u64 0, .int .u64 0, .int .u64 0, .int .u64 0] 24 (0, 0)), (b2, Obj.cells (Value.cells (uv B)) 24 (0, 0)), (b1, Obj.cells (Value.cells (uv A)) 24 (0, 0))] 24 (.tmp 6) (.tmp 19) b3 0 #[.int .u64 0, .int .u64 0, .int .u64 0, .int .u64 0] #[.int .u64 0, .int .u64 0, .int .u64 0, .int .u64 0] 24 (.agg #[.int .u64 0, .int .u64 0, .int .u64 0, .int .u64 0]) (by kernel_rfl) (by kernel_rfl) (by kernel_rfl) (by kernel_rfl) (by kernel_rfl) (by kernel_rfl) (of_decide_eq_true (by kernel_rfl)) (by kernel_rfl) (by kernel_rfl) ?_
  intro w7 H7; clear H6
  refine s_val (some 7) (.int .i64 1) (fun w => by kernel_rfl) (by kernel_rfl) ?_
  refine s_nil ?_
  refine g_ret (by kernel_rfl) ?_
  show ∃ vs, Res _ _ _ _ vs ∧ _
  refine ⟨[.agg #[.int .u64 0, .int .u64 0, .int .u64 0, .int .u64 0], .int .i64 1], (.agg (b := b3) #[.int .u64 0, .int .u64 0, .int .u64 0, .int .u64 0] 24 (0, 0) (by kernel_rfl) (H7.get 1 (by kernel_rfl)) (by kernel_rfl) (.tmp (.int .i64 1) (by kernel_rfl) .nil)), ?_, H7.below⟩
  kernel_rfl

set_option maxRecDepth 100000 in
theorem alive02_fn  : Fn Try.prog 28 #[] (.bool true) := by
  refine Fn.intro (c := codeOf Try.f28) [.tmp 0] 33 Try.func28 (by kernel_rfl) (by kernel_rfl) (by kernel_rfl) fun w => ?_
  have H0 := St.start w
  refine g_sreg [0] (by kernel_rfl) (by kernel_rfl) ?_
  refine s_val (some 0) (.bool false) (fun w => by kernel_rfl) (by kernel_rfl) ?_
  refine s_nil ?_
  refine g_sreg [0, 1, 2, 3, 4, 5, 6, 7, 8] (by kernel_rfl) (by kernel_rfl) ?_
  refine s_val (some 6) (.agg #[.int .u64 2, .int .u64 0, .int .u64 0, .int .u64 0]) (fun w => by kernel_rfl) (by kernel_rfl) ?_
  refine s_val (some 7) (.agg #[.int .u64 2, .int .u64 0, .int .u64 0, .int .u64 0]) (fun w => by kernel_rfl) (by kernel_rfl) ?_
  refine s_call H0 (some 8) 24 #[.agg #[.int .u64 2, .int .u64 0, .int .u64 0, .int .u64 0], .agg #[.int .u64 2, .int .u64 0, .int .u64 0, .int .u64 0], .int .i64 0] (.tuple #[uv (fAdd 2 2 PR), .int .i64 0]) (fadd0_fn 2 2 (by unfold big; omega) (by unfold big; omega)) (fun w => by kernel_rfl) (by kernel_rfl) ?_
  intro w1 H1; clear H0
  refine s_val (some 5) (.tuple #[uv (fAdd 2 2 PR), .int .i64 0]) (fun w => by kernel_rfl) (by kernel_rfl) ?_
  refine s_val (some 9) (uv (fAdd 2 2 PR)) (fun w => by kernel_rfl) (by kernel_rfl) ?_
  refine s_val (some 10) (.int .i64 0) (fun w => by kernel_rfl) (by kernel_rfl) ?_
  refine s_alloc H1 (some 1) 24 (.agg #[.int .u64 0, .int .u64 0, .int .u64 0, .int .u64 0]) (by kernel_rfl) (by kernel_rfl) (by kernel_rfl) ?_
  intro b1 w2 H2; clear H1
  refine s_store H2 0 [(b1, Obj.cells (Value.cells (uv (fAdd 2 2 PR))) 24 (0, 0))] 24 (.tmp 1) (.tmp 9) b1 0 #[.int .u64 0, .int .u64 0, .int .u64 0, .int .u64 0] (Value.cells (uv (fAdd 2 2 PR))) 24 (uv (fAdd 2 2 PR)) (by kernel_rfl) (by kernel_rfl) (by kernel_rfl) (by kernel_rfl) (by kernel_rfl) (by kernel_rfl) (of_decide_eq_true (by kernel_rfl)) (by kernel_rfl) (by kernel_rfl) ?_
  intro w3 H3; clear H2
  refine s_val (some 2) (.int .i64 0) (fun w => by kernel_rfl) (by kernel_rfl) ?_
  refine s_nil ?_
  refine g_sreg [0, 1, 2, 3, 4, 5, 6, 7, 8] (by kernel_rfl) (by kernel_rfl) ?_
  refine s_val (some 12) (.agg #[.int .u64 2, .int .u64 0, .int .u64 0, .int .u64 0]) (fun w => by kernel_rfl) (by kernel_rfl) ?_
  refine s_val (some 13) (.agg #[.int .u64 2, .int .u64 0, .int .u64 0, .int .u64 0]) (fun w => by kernel_rfl) (by kernel_rfl) ?_
  refine s_call H3 (some 14) 26 #[.agg #[.int .u64 2, .int .u64 0, .int .u64 0, .int .u64 0], .agg #[.int .u64 2, .int .u64 0, .int .u64 0, .int .u64 0], .int .i64 1] (.tuple #[uv (fMul 2 2 NR), .int .i64 0]) (fmul1_fn 2 2 (by unfold big; omega) (by unfold big; omega)) (fun w => by kernel_rfl) (by kernel_rfl) ?_
  intro w4 H4; clear H3
  refine s_val (some 11) (.tuple #[uv (fMul 2 2 NR), .int .i64 0]) (fun w => by kernel_rfl) (by kernel_rfl) ?_
  refine s_val (some 15) (uv (fMul 2 2 NR)) (fun w => by kernel_rfl) (by kernel_rfl) ?_
  refine s_val (some 16) (.int .i64 0) (fun w => by kernel_rfl) (by kernel_rfl) ?_
  refine s_alloc H4 (some 3) 24 (.agg #[.int .u64 0, .int .u64 0, .int .u64 0, .int .u64 0]) (by kernel_rfl) (by kernel_rfl) (by kernel_rfl) ?_
  intro b2 w5 H5; clear H4
  refine s_store H5 0 [(b2, Obj.cells (Value.cells (uv (fMul 2 2 NR))) 24 (0, 0)), (b1, Obj.cells (Value.cells (uv (fAdd 2 2 PR))) 24 (0, 0))] 24 (.tmp 3) (.tmp 15) b2 0 #[.int .u64 0, .int .u64 0, .int .u64 0, .int .u64 0] (Value.cells (uv (fMul 2 2 NR))) 24 (uv (fMul 2 2 NR)) (by kernel_rfl) (by kernel_rfl) (by kernel_rfl) (by kernel_rfl) (by kernel_rfl) (by kernel_rfl) (of_decide_eq_true (by kernel_rfl)) (by kernel_rfl) (by kernel_rfl) ?_
  intro w6 H6; clear H5
  refine s_val (some 4) (.int .i64 0) (fun w => by kernel_rfl) (by kernel_rfl) ?_
  refine s_nil ?_
  refine g_sreg [0, 1, 2, 3, 4, 5, 6, 7, 8, 9, 10, 11, 12, 13, 14, 15, 16] (by kernel_rfl) (by kernel_rfl) ?_
  refine s_val (some 17) (.int .i64 0) (fun w => by kernel_rfl) (by kernel_rfl) ?_
  refine s_val (some 18) (.bool true) (fun w => by kernel_rfl) (by kernel_rfl) ?_
  refine s_val (some 19) (.bool true) (fun w => by kernel_rfl) (by kernel_rfl) ?_
  refine s_val (some 20) (.int .i64 0) (fun w => by kernel_rfl) (by kernel_rfl) ?_
  refine s_val (some 21) (.bool true) (fun w => by kernel_rfl) (by kernel_rfl) ?_
  refine s_val (some 22) (.bool true) (fun w => by kernel_rfl) (by kernel_rfl) ?_
  refine s_val (some 23) (.bool true) (fun w => by kernel_rfl) (by kernel_rfl) ?_
  refine s_load H6 (some 24) 24 (.tmp 1) 1 b1 (Value.cells (uv (fAdd 2 2 PR))) 24 (0, 0) (by kernel_rfl) (by kernel_rfl) (by kernel_rfl) (by kernel_rfl) (by kernel_rfl) ?_
  refine s_val (some 25) (.agg #[.int .u64 4, .int .u64 0, .int .u64 0, .int .u64 0]) (fun w => by kernel_rfl) (by kernel_rfl) ?_
  refine s_opE (some 26) _ (.bool (decide ((fAdd 2 2 PR) = 4))) (.bool true) (by kernel_rfl) (fun o w ho => eqU_run (x := (.tmp 24)) (y := (.tmp 25)) (fAdd 2 2 PR) 4 (fAdd_lt pr_ok) (by unfold big; omega) w ho (by kernel_rfl) (by kernel_rfl)) (by rw [decide_eq_true (by decide +kernel)] <;> rfl) (by kernel_rfl) ?_
  refine s_val (some 27) (.bool true) (fun w => by kernel_rfl) (by kernel_rfl) ?_
  refine s_val (some 28) (.bool true) (fun w => by kernel_rfl) (by kernel_rfl) ?_
  refine s_load H6 (some 29) 24 (.tmp 1) 1 b1 (Value.cells (uv (fAdd 2 2 PR))) 24 (0, 0) (by kernel_rfl) (by kernel_rfl) (by kernel_rfl) (by kernel_rfl) (by kernel_rfl) ?_
  refine s_load H6 (some 30) 24 (.tmp 3) 0 b2 (Value.cells (uv (fMul 2 2 NR))) 24 (0, 0) (by kernel_rfl) (by kernel_rfl) (by kernel_rfl) (by kernel_rfl) (by kernel_rfl) ?_
  refine s_opE (some 31) _ (.bool (decide ((fAdd 2 2 PR) = (fMul 2 2 NR)))) (.bool true) (by kernel_rfl) (fun o w ho => eqU_run (x := (.tmp 29)) (y := (.tmp 30)) (fAdd 2 2 PR) (fMul 2 2 NR) (fAdd_lt pr_ok) (fMul_lt nr_ok) w ho (by kernel_rfl) (by kernel_rfl)) (by rw [decide_eq_true (by decide +kernel)] <;> rfl) (by kernel_rfl) ?_
  refine s_val (some 32) (.bool true) (fun w => by kernel_rfl) (by kernel_rfl) ?_
  refine s_val (some 0) (.bool true) (fun w => by kernel_rfl) (by kernel_rfl) ?_
  refine s_nil ?_
  refine g_ret (by kernel_rfl) ?_
  show ∃ vs, Res _ _ _ _ vs ∧ _
  refine ⟨[.bool true], (.tmp (.bool true) (by kernel_rfl) .nil), ?_, H6.below⟩
  rfl
end Go.Proofs.Ythomanpefekaaaa
