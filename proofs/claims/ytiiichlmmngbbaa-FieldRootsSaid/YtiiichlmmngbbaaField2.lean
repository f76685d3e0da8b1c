/-
  More calls of package field: differences, powers.
-/
import Derived.Test.YtiiichlmmngbbaaField1
namespace Go.Proofs.Ytiiichlmmngbbaa
open Go Go.RowKit
set_option linter.unusedVariables false
theorem bt_nat {A n : Nat} (h : n < 256) : bt A (n : Int) = A.testBit n := by unfold bt; simp; omega

set_option maxRecDepth 100000 in
theorem fsub0_fn (A B : Nat) (hA : A < big) (hB : B < big) : Fn Try.prog 40 #[uv A, uv B, .int .i64 0] (.tuple #[uv (fSub A B PR), .int .i64 0]) := by
  refine Fn.intro (c := codeOf Try.f40) [.cell 6 24, .tmp 7] 41 Try.func40 (by kernel_rfl) (by kernel_rfl) (by kernel_rfl) fun w => ?_
  have H0 := St.start w
  refine g_sreg [0, 1, 2, 3] (by kernel_rfl) (by kernel_rfl) ?_
  refine s_box H0 (some 3) 24 (.tmp 0) (uv A) (by kernel_rfl) (by kernel_rfl) (by kernel_rfl) ?_
  intro b1 w1 H1; clear H0
  refine s_box H1 (some 4) 24 (.tmp 1) (uv B) (by kernel_rfl) (by kernel_rfl) (by kernel_rfl) ?_
  intro b2 w2 H2; clear H1
  refine s_alloc H2 (some 6) 24 (.agg #[.int .u64 0, .int .u64 0, .int .u64 0, .int .u64 0]) (by kernel_rfl) (by kernel_rfl) (by kernel_rfl) ?_
  intro b3 w3 H3; clear H2
  refine s_val (some 7) (.int .i64 0) (fun w => by kernel_rfl) (by kernel_rfl) ?_
  refine s_nil ?_
  refine g_sreg [0, 1, 2, 3, 4, 5, 6, 7] (by kernel_rfl) (by kernel_rfl) ?_
  refine s_val (some 13) (.int .i64 0) (fun w => by kernel_rfl) (by kernel_rfl) ?_
  refine s_call H3 (some 14) 38 #[.int .i64 0] (.tuple #[uv PR, .int .i64 0]) prime0_fn (fun w => by kernel_rfl) (by kernel_rfl) ?_
  intro w4 H4; clear H3
  refine s_val (some 12) (.tuple #[uv PR, .int .i64 0]) (fun w => by kernel_rfl) (by kernel_rfl) ?_
  refine s_val (some 15) (uv PR) (fun w => by kernel_rfl) (by kernel_rfl) ?_
  refine s_val (some 16) (.int .i64 0) (fun w => by kernel_rfl) (by kernel_rfl) ?_
  refine s_alloc H4 (some 8) 24 (.agg #[.int .u64 0, .int .u64 0, .int .u64 0, .int .u64 0]) (by kernel_rfl) (by kernel_rfl) (by kernel_rfl) ?_
  intro b4 w5 H5; clear H4
  refine s_store H5 0 [(b4, Obj.cells (Value.cells (uv PR)) 24 (0, 0)), (b3, Obj.cells #[.int .u64 0, .int .u64 0, .int .u64 0, .int .u64 0] 24 (0, 0)), (b2, Obj.cells (Value.cells (uv B)) 24 (0, 0)), (b1, Obj.cells (Value.cells (uv A)) 24 (0, 0))] 24 (.tmp 8) (.tmp 15) b4 0 #[.int .u64 0, .int .u64 0, .int .u64 0, .int .u64 0] (Value.cells (uv PR)) 24 (uv PR) (by kernel_rfl) (by kernel_rfl) (by kernel_rfl) (by kernel_rfl) (by kernel_rfl) (by kernel_rfl) (of_decide_eq_true (by kernel_rfl)) (by kernel_rfl) (by kernel_rfl) ?_
  intro w6 H6; clear H5
  refine s_val (some 9) (.int .i64 0) (fun w => by kernel_rfl) (by kernel_rfl) ?_
  refine s_nil ?_
  refine g_seq (by kernel_rfl) ?_
  refine g_sreg [0, 1] (by kernel_rfl) (by kernel_rfl) ?_
  refine s_val (some 17) (.int .i64 0) (fun w => by kernel_rfl) (by kernel_rfl) ?_
  refine s_val (some 18) (.bool false) (fun w => by kernel_rfl) (by kernel_rfl) ?_
  refine s_nil ?_
  refine g_cond_f (by kernel_rfl) (by kernel_rfl) ?_
  refine g_skip (by kernel_rfl) ?_
  show WP _ _ _ _ _ _
  refine g_sdraw [0, 1, 2, 3, 4, 5, 6, 7, 8, 9, 10, 11, 12, 13, 14] [((some 22), fun _ => uv A), ((some 23), fun _ => .agg #[.int .u64 0, .int .u64 0, .int .u64 0, .int .u64 0]), ((some 24), fun _ => uv PR), ((some 25), fun _ => uv (rs A 0 PR)), ((some 26), fun _ => uv B), ((some 27), fun _ => .agg #[.int .u64 0, .int .u64 0, .int .u64 0, .int .u64 0]), ((some 28), fun _ => uv PR), ((some 29), fun _ => uv (rs B 0 PR)), ((some 30), fun _ => .tuple #[uv (df (rs A 0 PR) (rs B 0 PR)), .bool (lo (rs A 0 PR) (rs B 0 PR))]), ((some 21), fun _ => .tuple #[uv (df (rs A 0 PR) (rs B 0 PR)), .bool (lo (rs A 0 PR) (rs B 0 PR))]), ((some 31), fun _ => uv (df (rs A 0 PR) (rs B 0 PR))), ((some 32), fun _ => .bool (lo (rs A 0 PR) (rs B 0 PR))), ((some 10), fun b => .pointer (some ⟨b, 0, none⟩)), (none, fun _ => undef), ((some 11), fun _ => .bool (lo (rs A 0 PR) (rs B 0 PR)))] (fun L g x => St w.heap.size w x ([(b4, Obj.cells (Value.cells (uv PR)) 24 (0, 0)), (b3, Obj.cells #[.int .u64 0, .int .u64 0, .int .u64 0, .int .u64 0] 24 (0, 0)), (b2, Obj.cells (Value.cells (uv B)) 24 (0, 0)), (b1, Obj.cells (Value.cells (uv A)) 24 (0, 0))] ++ (bif L 12 then [(g 12, (bif L 13 then Obj.cells (Value.cells (uv (df (rs A 0 PR) (rs B 0 PR)))) 24 (0, 0) else Obj.cells #[.int .u64 0, .int .u64 0, .int .u64 0, .int .u64 0] 24 (0, 0)))] else []))) (by kernel_rfl) (by kernel_rfl) (by kernel_rfl) (by kernel_rfl) (H6.drew) ⟨?_, ?_, ?_, ?_, ?_, ?_, ?_, ?_, ?_, ?_, ?_, ?_, ?_, ?_, ?_, trivial⟩ ?_
  · exact gv_load 24 (.tmp 3) (fun _ => 3) (fun g => b1) (Value.cells (uv A)) 24 (0, 0) (fun _ _ _ h => h) (fun g => by kernel_rfl) (fun g => by kernel_rfl) (fun L g _ => by kernel_rfl) (by kernel_rfl)
  · exact gv_val (fun _ _ _ h => h) (fun g w => by kernel_rfl)
  · exact gv_load 24 (.tmp 8) (fun _ => 0) (fun g => b4) (Value.cells (uv PR)) 24 (0, 0) (fun _ _ _ h => h) (fun g => by kernel_rfl) (fun g => by kernel_rfl) (fun L g _ => by kernel_rfl) (by kernel_rfl)
  · exact gv_call 63 #[uv A, .agg #[.int .u64 0, .int .u64 0, .int .u64 0, .int .u64 0], uv PR] (fun _ _ _ h => h) (rest_fn A 0 PR hA (by unfold big; omega) pr_ok) (fun g w => by kernel_rfl)
  · exact gv_load 24 (.tmp 4) (fun _ => 2) (fun g => b2) (Value.cells (uv B)) 24 (0, 0) (fun _ _ _ h => h) (fun g => by kernel_rfl) (fun g => by kernel_rfl) (fun L g _ => by kernel_rfl) (by kernel_rfl)
  · exact gv_val (fun _ _ _ h => h) (fun g w => by kernel_rfl)
  · exact gv_load 24 (.tmp 8) (fun _ => 0) (fun g => b4) (Value.cells (uv PR)) 24 (0, 0) (fun _ _ _ h => h) (fun g => by kernel_rfl) (fun g => by kernel_rfl) (fun L g _ => by kernel_rfl) (by kernel_rfl)
  · exact gv_call 63 #[uv B, .agg #[.int .u64 0, .int .u64 0, .int .u64 0, .int .u64 0], uv PR] (fun _ _ _ h => h) (rest_fn B 0 PR hB (by unfold big; omega) pr_ok) (fun g w => by kernel_rfl)
  · exact gv_call 17 #[uv (rs A 0 PR), uv (rs B 0 PR)] (fun _ _ _ h => h) (sub_fn (rs A 0 PR) (rs B 0 PR) (rs_lt pr_ok) (rs_lt pr_ok)) (fun g w => by kernel_rfl)
  · exact gv_val (fun _ _ _ h => h) (fun g w => by kernel_rfl)
  · exact gv_val (fun _ _ _ h => h) (fun g w => by kernel_rfl)
  · exact gv_val (fun _ _ _ h => h) (fun g w => by kernel_rfl)
  · exact gv_alloc 24 (.agg #[.int .u64 0, .int .u64 0, .int .u64 0, .int .u64 0]) (fun L g => [(b4, Obj.cells (Value.cells (uv PR)) 24 (0, 0)), (b3, Obj.cells #[.int .u64 0, .int .u64 0, .int .u64 0, .int .u64 0] 24 (0, 0)), (b2, Obj.cells (Value.cells (uv B)) 24 (0, 0)), (b1, Obj.cells (Value.cells (uv A)) 24 (0, 0))]) (fun L g => ([] : List (Nat × Obj))) (fun g => by kernel_rfl) (by kernel_rfl) (fun L g hN => by (have hn : L 12 = false := hN.1; show ([(b4, Obj.cells (Value.cells (uv PR)) 24 (0, 0)), (b3, Obj.cells #[.int .u64 0, .int .u64 0, .int .u64 0, .int .u64 0] 24 (0, 0)), (b2, Obj.cells (Value.cells (uv B)) 24 (0, 0)), (b1, Obj.cells (Value.cells (uv A)) 24 (0, 0))] ++ (bif L 12 then [(g 12, (bif L 13 then Obj.cells (Value.cells (uv (df (rs A 0 PR) (rs B 0 PR)))) 24 (0, 0) else Obj.cells #[.int .u64 0, .int .u64 0, .int .u64 0, .int .u64 0] 24 (0, 0)))] else [])) = ([(b4, Obj.cells (Value.cells (uv PR)) 24 (0, 0)), (b3, Obj.cells #[.int .u64 0, .int .u64 0, .int .u64 0, .int .u64 0] 24 (0, 0)), (b2, Obj.cells (Value.cells (uv B)) 24 (0, 0)), (b1, Obj.cells (Value.cells (uv A)) 24 (0, 0))]) ++ (([] : List (Nat × Obj))); rw [hn]; rfl)) (fun L g b hN => by (have hz : L 13 = false := hN.2.2.no 12 13 (by kernel_rfl) hN.1; show ([(b4, Obj.cells (Value.cells (uv PR)) 24 (0, 0)), (b3, Obj.cells #[.int .u64 0, .int .u64 0, .int .u64 0, .int .u64 0] 24 (0, 0)), (b2, Obj.cells (Value.cells (uv B)) 24 (0, 0)), (b1, Obj.cells (Value.cells (uv A)) 24 (0, 0))]) ++ (b, Obj.cells #[.int .u64 0, .int .u64 0, .int .u64 0, .int .u64 0] 24 (0, 0)) :: (([] : List (Nat × Obj))) = ([(b4, Obj.cells (Value.cells (uv PR)) 24 (0, 0)), (b3, Obj.cells #[.int .u64 0, .int .u64 0, .int .u64 0, .int .u64 0] 24 (0, 0)), (b2, Obj.cells (Value.cells (uv B)) 24 (0, 0)), (b1, Obj.cells (Value.cells (uv A)) 24 (0, 0))] ++ ([(b, (bif L 13 then Obj.cells (Value.cells (uv (df (rs A 0 PR) (rs B 0 PR)))) 24 (0, 0) else Obj.cells #[.int .u64 0, .int .u64 0, .int .u64 0, .int .u64 0] 24 (0, 0)))])); rw [hz]; rfl))
  · exact gv_store (fun _ => 4) 24 (.tmp 10) (.tmp 31) (fun g => g 12) 0 #[.int .u64 0, .int .u64 0, .int .u64 0, .int .u64 0] (Value.cells (uv (df (rs A 0 PR) (rs B 0 PR)))) 24 (uv (df (rs A 0 PR) (rs B 0 PR))) (fun g => by kernel_rfl) (fun g => by kernel_rfl) (fun g => by kernel_rfl) (by kernel_rfl) (by kernel_rfl) (of_decide_eq_true (by kernel_rfl)) (by kernel_rfl) (fun L g hN => by (have hs13 : L 13 = false := hN.1; have hs12 : L 12 = true := before_yes hN.2.1 12 (by kernel_rfl); show ([(b4, Obj.cells (Value.cells (uv PR)) 24 (0, 0)), (b3, Obj.cells #[.int .u64 0, .int .u64 0, .int .u64 0, .int .u64 0] 24 (0, 0)), (b2, Obj.cells (Value.cells (uv B)) 24 (0, 0)), (b1, Obj.cells (Value.cells (uv A)) 24 (0, 0))] ++ (bif L 12 then [(g 12, (bif L 13 then Obj.cells (Value.cells (uv (df (rs A 0 PR) (rs B 0 PR)))) 24 (0, 0) else Obj.cells #[.int .u64 0, .int .u64 0, .int .u64 0, .int .u64 0] 24 (0, 0)))] else []))[(fun _ => 4) L]? = some (g 12, Obj.cells #[.int .u64 0, .int .u64 0, .int .u64 0, .int .u64 0] 24 (0, 0)) ∧ ([(b4, Obj.cells (Value.cells (uv PR)) 24 (0, 0)), (b3, Obj.cells #[.int .u64 0, .int .u64 0, .int .u64 0, .int .u64 0] 24 (0, 0)), (b2, Obj.cells (Value.cells (uv B)) 24 (0, 0)), (b1, Obj.cells (Value.cells (uv A)) 24 (0, 0))] ++ (bif L 12 then [(g 12, (bif L 13 then Obj.cells (Value.cells (uv (df (rs A 0 PR) (rs B 0 PR)))) 24 (0, 0) else Obj.cells #[.int .u64 0, .int .u64 0, .int .u64 0, .int .u64 0] 24 (0, 0)))] else [])).set ((fun _ => 4) L) (g 12, Obj.cells (Value.cells (uv (df (rs A 0 PR) (rs B 0 PR)))) 24 (0, 0)) = ([(b4, Obj.cells (Value.cells (uv PR)) 24 (0, 0)), (b3, Obj.cells #[.int .u64 0, .int .u64 0, .int .u64 0, .int .u64 0] 24 (0, 0)), (b2, Obj.cells (Value.cells (uv B)) 24 (0, 0)), (b1, Obj.cells (Value.cells (uv A)) 24 (0, 0))] ++ (bif L 12 then [(g 12, (bif true then Obj.cells (Value.cells (uv (df (rs A 0 PR) (rs B 0 PR)))) 24 (0, 0) else Obj.cells #[.int .u64 0, .int .u64 0, .int .u64 0, .int .u64 0] 24 (0, 0)))] else [])); rw [hs13, hs12]; exact ⟨rfl, rfl⟩))
  · exact gv_val (fun _ _ _ h => h) (fun g w => by kernel_rfl)
  intro L0 g7 w7 hall HL; clear H6
  have H7 : St w.heap.size w w7 [(b4, Obj.cells (Value.cells (uv PR)) 24 (0, 0)), (b3, Obj.cells #[.int .u64 0, .int .u64 0, .int .u64 0, .int .u64 0] 24 (0, 0)), (b2, Obj.cells (Value.cells (uv B)) 24 (0, 0)), (b1, Obj.cells (Value.cells (uv A)) 24 (0, 0)), ((g7 12), Obj.cells (Value.cells (uv (df (rs A 0 PR) (rs B 0 PR)))) 24 (0, 0))] := by have e13 := hall 13 (Nat.le_of_ble_eq_true (by kernel_rfl)); have e12 := hall 12 (Nat.le_of_ble_eq_true (by kernel_rfl)); simp only [e13, e12, cond_true] at HL; exact HL
  clear HL hall
  refine g_seq (by kernel_rfl) ?_
  refine g_sreg [0] (by kernel_rfl) (by kernel_rfl) ?_
  cases hlo : lo (rs A 0 PR) (rs B 0 PR)
  · skip
    refine s_val (some 33) (.bool false) (fun w => by kernel_rfl) (by kernel_rfl) ?_
    refine s_nil ?_
    refine g_cond_f (by kernel_rfl) (by kernel_rfl) ?_
    refine g_skip (by kernel_rfl) ?_
    show WP _ _ _ _ _ _
    refine g_sreg [0, 1, 2] (by kernel_rfl) (by kernel_rfl) ?_
    refine s_load H7 (some 40) 24 (.tmp 10) 4 (g7 12) (Value.cells (uv (df (rs A 0 PR) (rs B 0 PR)))) 24 (0, 0) (by kernel_rfl) (by kernel_rfl) (by kernel_rfl) (by kernel_rfl) (by kernel_rfl) ?_
    refine s_store H7 1 [(b4, Obj.cells (Value.cells (uv PR)) 24 (0, 0)), (b3, Obj.cells (Value.cells (uv (df (rs A 0 PR) (rs B 0 PR)))) 24 (0, 0)), (b2, Obj.cells (Value.cells (uv B)) 24 (0, 0)), (b1, Obj.cells (Value.cells (uv A)) 24 (0, 0)), ((g7 12), Obj.cells (Value.cells (uv (df (rs A 0 PR) (rs B 0 PR)))) 24 (0, 0))] 24 (.tmp 6) (.tmp 40) b3 0 #[.int .u64 0, .int .u64 0, .int .u64 0, .int .u64 0] (Value.cells (uv (df (rs A 0 PR) (rs B 0 PR)))) 24 (uv (df (rs A 0 PR) (rs B 0 PR))) (by kernel_rfl) (by kernel_rfl) (by kernel_rfl) (by kernel_rfl) (by kernel_rfl) (by kernel_rfl) (of_decide_eq_true (by kernel_rfl)) (by kernel_rfl) (by kernel_rfl) ?_
    intro w8 H8; clear H7
    refine s_val (some 7) (.int .i64 0) (fun w => by kernel_rfl) (by kernel_rfl) ?_
    refine s_nil ?_
    refine g_ret (by kernel_rfl) ?_
    show ∃ vs, Res _ _ _ _ vs ∧ _
    refine ⟨[uv (df (rs A 0 PR) (rs B 0 PR)), .int .i64 0], (.agg (b := b3) (Value.cells (uv (df (rs A 0 PR) (rs B 0 PR)))) 24 (0, 0) (by kernel_rfl) (H8.get 1 (by kernel_rfl)) (by kernel_rfl) (.tmp (.int .i64 0) (by kernel_rfl) .nil)), ?_, H8.below⟩
    exact congrArg (fun n => Value.tuple #[uv n, .int .i64 0]) (fSub_of2 pr_ok hlo)
  · skip
    refine s_val (some 33) (.bool true) (fun w => by kernel_rfl) (by kernel_rfl) ?_
    refine s_nil ?_
    refine g_cond_t (by kernel_rfl) (by kernel_rfl) ?_
    refine g_reg0 [0, 1, 2, 3, 4, 5, 6] (by kernel_rfl) ?_
    refine s_load H7 (some 35) 24 (.tmp 10) 4 (g7 12) (Value.cells (uv (df (rs A 0 PR) (rs B 0 PR)))) 24 (0, 0) (by kernel_rfl) (by kernel_rfl) (by kernel_rfl) (by kernel_rfl) (by kernel_rfl) ?_
    refine s_load H7 (some 36) 24 (.tmp 8) 0 b4 (Value.cells (uv PR)) 24 (0, 0) (by kernel_rfl) (by kernel_rfl) (by kernel_rfl) (by kernel_rfl) (by kernel_rfl) ?_
    refine s_call H7 (some 37) 16 #[uv (df (rs A 0 PR) (rs B 0 PR)), uv PR] (.tuple #[uv (sm (df (rs A 0 PR) (rs B 0 PR)) PR), .bool (ov (df (rs A 0 PR) (rs B 0 PR)) PR)]) (add_fn (df (rs A 0 PR) (rs B 0 PR)) PR (df_lt _ _) pr_ok.1) (fun w => by kernel_rfl) (by kernel_rfl) ?_
    intro w9 H9; clear H7
    refine s_val (some 34) (.tuple #[uv (sm (df (rs A 0 PR) (rs B 0 PR)) PR), .bool (ov (df (rs A 0 PR) (rs B 0 PR)) PR)]) (fun w => by kernel_rfl) (by kernel_rfl) ?_
    refine s_val (some 38) (uv (sm (df (rs A 0 PR) (rs B 0 PR)) PR)) (fun w => by kernel_rfl) (by kernel_rfl) ?_
    refine s_val (some 39) (.bool (ov (df (rs A 0 PR) (rs B 0 PR)) PR)) (fun w => by kernel_rfl) (by kernel_rfl) ?_
    refine s_store H9 4 [(b4, Obj.cells (Value.cells (uv PR)) 24 (0, 0)), (b3, Obj.cells #[.int .u64 0, .int .u64 0, .int .u64 0, .int .u64 0] 24 (0, 0)), (b2, Obj.cells (Value.cells (uv B)) 24 (0, 0)), (b1, Obj.cells (Value.cells (uv A)) 24 (0, 0)), ((g7 12), Obj.cells (Value.cells (uv (sm (df (rs A 0 PR) (rs B 0 PR)) PR))) 24 (0, 0))] 24 (.tmp 10) (.tmp 38) (g7 12) 0 (Value.cells (uv (df (rs A 0 PR) (rs B 0 PR)))) (Value.cells (uv (sm (df (rs A 0 PR) (rs B 0 PR)) PR))) 24 (uv (sm (df (rs A 0 PR) (rs B 0 PR)) PR)) (by kernel_rfl) (by kernel_rfl) (by kernel_rfl) (by kernel_rfl) (by kernel_rfl) (by kernel_rfl) (of_decide_eq_true (by kernel_rfl)) (by kernel_rfl) (by kernel_rfl) ?_
    intro w10 H10; clear H9
    refine s_nil ?_
    show WP _ _ _ _ _ _
    refine g_sreg [0, 1, 2] (by kernel_rfl) (by kernel_rfl) ?_
    refine s_load H10 (some 40) 24 (.tmp 10) 4 (g7 12) (Value.cells (uv (sm (df (rs A 0 PR) (rs B 0 PR)) PR))) 24 (0, 0) (by kernel_rfl) (by kernel_rfl) (by kernel_rfl) (by kernel_rfl) (by kernel_rfl) ?_
    refine s_store H10 1 [(b4, Obj.cells (Value.cells (uv PR)) 24 (0, 0)), (b3, Obj.cells (Value.cells (uv (sm (df (rs A 0 PR) (rs B 0 PR)) PR))) 24 (0, 0)), (b2, Obj.cells (Value.cells (uv B)) 24 (0, 0)), (b1, Obj.cells (Value.cells (uv A)) 24 (0, 0)), ((g7 12), Obj.cells (Value.cells (uv (sm (df (rs A 0 PR) (rs B 0 PR)) PR))) 24 (0, 0))] 24 (.tmp 6) (.tmp 40) b3 0 #[.int .u64 0, .int .u64 0, .int .u64 0, .int .u64 0] (Value.cells (uv (sm (df (rs A 0 PR) (rs B 0 PR)) PR))) 24 (uv (sm (df (rs A 0 PR) (rs B 0 PR)) PR)) (by kernel_rfl) (by kernel_rfl) (by kernel_rfl) (by kernel_rfl) (by kernel_rfl) (by kernel_rfl) (of_decide_eq_true (by kernel_rfl)) (by kernel_rfl) (by kernel_rfl) ?_
    intro w11 H11; clear H10
    refine s_val (some 7) (.int .i64 0) (fun w => by kernel_rfl) (by kernel_rfl) ?_
    refine s_nil ?_
    refine g_ret (by kernel_rfl) ?_
    show ∃ vs, Res _ _ _ _ vs ∧ _
    refine ⟨[uv (sm (df (rs A 0 PR) (rs B 0 PR)) PR), .int .i64 0], (.agg (b := b3) (Value.cells (uv (sm (df (rs A 0 PR) (rs B 0 PR)) PR))) 24 (0, 0) (by kernel_rfl) (H11.get 1 (by kernel_rfl)) (by kernel_rfl) (.tmp (.int .i64 0) (by kernel_rfl) .nil)), ?_, H11.below⟩
    exact congrArg (fun n => Value.tuple #[uv n, .int .i64 0]) (fSub_of1 pr_ok hlo)

set_option maxRecDepth 100000 in
theorem fsub1_fn (A B : Nat) (hA : A < big) (hB : B < big) : Fn Try.prog 40 #[uv A, uv B, .int .i64 1] (.tuple #[uv (fSub A B NR), .int .i64 0]) := by
  refine Fn.intro (c := codeOf Try.f40) [.cell 6 24, .tmp 7] 41 Try.func40 (by kernel_rfl) (by kernel_rfl) (by kernel_rfl) fun w => ?_
  have H0 := St.start w
  refine g_sreg [0, 1, 2, 3] (by kernel_rfl) (by kernel_rfl) ?_
  refine s_box H0 (some 3) 24 (.tmp 0) (uv A) (by kernel_rfl) (by kernel_rfl) (by kernel_rfl) ?_
  intro b1 w1 H1; clear H0
  refine s_box H1 (some 4) 24 (.tmp 1) (uv B) (by kernel_rfl) (by kernel_rfl) (by kernel_rfl) ?_
  intro b2 w2 H2; clear H1
  refine s_alloc H2 (some 6) 24 (.agg #[.int .u64 0, .int .u64 0, .int .u64 0, .int .u64 0]) (by kernel_rfl) (by kernel_rfl) (by kernel_rfl) ?_
  intro b3 w3 H3; clear H2
  refine s_val (some 7) (.int .i64 0) (fun w => by kernel_rfl) (by kernel_rfl) ?_
  refine s_nil ?_
  refine g_sreg [0, 1, 2, 3, 4, 5, 6, 7] (by kernel_rfl) (by kernel_rfl) ?_
  refine s_val (some 13) (.int .i64 1) (fun w => by kernel_rfl) (by kernel_rfl) ?_
  refine s_call H3 (some 14) 38 #[.int .i64 1] (.tuple #[uv NR, .int .i64 0]) prime1_fn (fun w => by kernel_rfl) (by kernel_rfl) ?_
  intro w4 H4; clear H3
  refine s_val (some 12) (.tuple #[uv NR, .int .i64 0]) (fun w => by kernel_rfl) (by kernel_rfl) ?_
  refine s_val (some 15) (uv NR) (fun w => by kernel_rfl) (by kernel_rfl) ?_
  refine s_val (some 16) (.int .i64 0) (fun w => by kernel_rfl) (by kernel_rfl) ?_
  refine s_alloc H4 (some 8) 24 (.agg #[.int .u64 0, .int .u64 0, .int .u64 0, .int .u64 0]) (by kernel_rfl) (by kernel_rfl) (by kernel_rfl) ?_
  intro b4 w5 H5; clear H4
  refine s_store H5 0 [(b4, Obj.cells (Value.cells (uv NR)) 24 (0, 0)), (b3, Obj.cells #[.int .u64 0, .int .u64 0, .int .u64 0, .int .u64 0] 24 (0, 0)), (b2, Obj.cells (Value.cells (uv B)) 24 (0, 0)), (b1, Obj.cells (Value.cells (uv A)) 24 (0, 0))] 24 (.tmp 8) (.tmp 15) b4 0 #[.int .u64 0, .int .u64 0, .int .u64 0, .int .u64 0] (Value.cells (uv NR)) 24 (uv NR) (by kernel_rfl) (by kernel_rfl) (by kernel_rfl) (by kernel_rfl) (by kernel_rfl) (by kernel_rfl) (of_decide_eq_true (by kernel_rfl)) (by kernel_rfl) (by kernel_rfl) ?_
  intro w6 H6; clear H5
  refine s_val (some 9) (.int .i64 0) (fun w => by kernel_rfl) (by kernel_rfl) ?_
  refine s_nil ?_
  refine g_seq (by kernel_rfl) ?_
  refine g_sreg [0, 1] (by kernel_rfl) (by kernel_rfl) ?_
  refine s_val (some 17) (.int .i64 0) (fun w => by kernel_rfl) (by kernel_rfl) ?_
  refine s_val (some 18) (.bool false) (fun w => by kernel_rfl) (by kernel_rfl) ?_
  refine s_nil ?_
  refine g_cond_f (by kernel_rfl) (by kernel_rfl) ?_
  refine g_skip (by kernel_rfl) ?_
  show WP _ _ _ _ _ _
  refine g_sdraw [0, 1, 2, 3, 4, 5, 6, 7, 8, 9, 10, 11, 12, 13, 14] [((some 22), fun _ => uv A), ((some 23), fun _ => .agg #[.int .u64 0, .int .u64 0, .int .u64 0, .int .u64 0]), ((some 24), fun _ => uv NR), ((some 25), fun _ => uv (rs A 0 NR)), ((some 26), fun _ => uv B), ((some 27), fun _ => .agg #[.int .u64 0, .int .u64 0, .int .u64 0, .int .u64 0]), ((some 28), fun _ => uv NR), ((some 29), fun _ => uv (rs B 0 NR)), ((some 30), fun _ => .tuple #[uv (df (rs A 0 NR) (rs B 0 NR)), .bool (lo (rs A 0 NR) (rs B 0 NR))]), ((some 21), fun _ => .tuple #[uv (df (rs A 0 NR) (rs B 0 NR)), .bool (lo (rs A 0 NR) (rs B 0 NR))]), ((some 31), fun _ => uv (df (rs A 0 NR) (rs B 0 NR))), ((some 32), fun _ => .bool (lo (rs A 0 NR) (rs B 0 NR))), ((some 10), fun b => .pointer (some ⟨b, 0, none⟩)), (none, fun _ => undef), ((some 11), fun _ => .bool (lo (rs A 0 NR) (rs B 0 NR)))] (fun L g x => St w.heap.size w x ([(b4, Obj.cells (Value.cells (uv NR)) 24 (0, 0)), (b3, Obj.cells #[.int .u64 0, .int .u64 0, .int .u64 0, .int .u64 0] 24 (0, 0)), (b2, Obj.cells (Value.cells (uv B)) 24 (0, 0)), (b1, Obj.cells (Value.cells (uv A)) 24 (0, 0))] ++ (bif L 12 then [(g 12, (bif L 13 then Obj.cells (Value.cells (uv (df (rs A 0 NR) (rs B 0 NR)))) 24 (0, 0) else Obj.cells #[.int .u64 0, .int .u64 0, .int .u64 0, .int .u64 0] 24 (0, 0)))] else []))) (by kernel_rfl) (by kernel_rfl) (by kernel_rfl) (by kernel_rfl) (H6.drew) ⟨?_, ?_, ?_, ?_, ?_, ?_, ?_, ?_, ?_, ?_, ?_, ?_, ?_, ?_, ?_, trivial⟩ ?_
  · exact gv_load 24 (.tmp 3) (fun _ => 3) (fun g => b1) (Value.cells (uv A)) 24 (0, 0) (fun _ _ _ h => h) (fun g => by kernel_rfl) (fun g => by kernel_rfl) (fun L g _ => by kernel_rfl) (by kernel_rfl)
  · exact gv_val (fun _ _ _ h => h) (fun g w => by kernel_rfl)
  · exact gv_load 24 (.tmp 8) (fun _ => 0) (fun g => b4) (Value.cells (uv NR)) 24 (0, 0) (fun _ _ _ h => h) (fun g => by kernel_rfl) (fun g => by kernel_rfl) (fun L g _ => by kernel_rfl) (by kernel_rfl)
  · exact gv_call 63 #[uv A, .agg #[.int .u64 0, .int .u64 0, .int .u64 0, .int .u64 0], uv NR] (fun _ _ _ h => h) (rest_fn A 0 NR hA (by unfold big; omega) nr_ok) (fun g w => by kernel_rfl)
  · exact gv_load 24 (.tmp 4) (fun _ => 2) (fun g => b2) (Value.cells (uv B)) 24 (0, 0) (fun _ _ _ h => h) (fun g => by kernel_rfl) (fun g => by kernel_rfl) (fun L g _ => by kernel_rfl) (by kernel_rfl)
  · exact gv_val (fun _ _ _ h => h) (fun g w => by kernel_rfl)
  · exact gv_load 24 (.tmp 8) (fun _ => 0) (fun g => b4) (Value.cells (uv NR)) 24 (0, 0) (fun _ _ _ h => h) (fun g => by kernel_rfl) (fun g => by kernel_rfl) (fun L g _ => by kernel_rfl) (by kernel_rfl)
  · exact gv_call 63 #[uv B, .agg #[.int .u64 0, .int .u64 0, .int .u64 0, .int .u64 0], uv NR] (fun _ _ _ h => h) (rest_fn B 0 NR hB (by unfold big; omega) nr_ok) (fun g w => by kernel_rfl)
  · exact gv_call 17 #[uv (rs A 0 NR), uv (rs B 0 NR)] (fun _ _ _ h => h) (sub_fn (rs A 0 NR) (rs B 0 NR) (rs_lt nr_ok) (rs_lt nr_ok)) (fun g w => by kernel_rfl)
  · exact gv_val (fun _ _ _ h => h) (fun g w => by kernel_rfl)
  · exact gv_val (fun _ _ _ h => h) (fun g w => by kernel_rfl)
  · exact gv_val (fun _ _ _ h => h) (fun g w => by kernel_rfl)
  · exact gv_alloc 24 (.agg #[.int .u64 0, .int .u64 0, .int .u64 0, .int .u64 0]) (fun L g => [(b4, Obj.cells (Value.cells (uv NR)) 24 (0, 0)), (b3, Obj.cells #[.int .u64 0, .int .u64 0, .int .u64 0, .int .u64 0] 24 (0, 0)), (b2, Obj.cells (Value.cells (uv B)) 24 (0, 0)), (b1, Obj.cells (Value.cells (uv A)) 24 (0, 0))]) (fun L g => ([] : List (Nat × Obj))) (fun g => by kernel_rfl) (by kernel_rfl) (fun L g hN => by (have hn : L 12 = false := hN.1; show ([(b4, Obj.cells (Value.cells (uv NR)) 24 (0, 0)), (b3, Obj.cells #[.int .u64 0, .int .u64 0, .int .u64 0, .int .u64 0] 24 (0, 0)), (b2, Obj.cells (Value.cells (uv B)) 24 (0, 0)), (b1, Obj.cells (Value.cells (uv A)) 24 (0, 0))] ++ (bif L 12 then [(g 12, (bif L 13 then Obj.cells (Value.cells (uv (df (rs A 0 NR) (rs B 0 NR)))) 24 (0, 0) else Obj.cells #[.int .u64 0, .int .u64 0, .int .u64 0, .int .u64 0] 24 (0, 0)))] else [])) = ([(b4, Obj.cells (Value.cells (uv NR)) 24 (0, 0)), (b3, Obj.cells #[.int .u64 0, .int .u64 0, .int .u64 0, .int .u64 0] 24 (0, 0)), (b2, Obj.cells (Value.cells (uv B)) 24 (0, 0)), (b1, Obj.cells (Value.cells (uv A)) 24 (0, 0))]) ++ (([] : List (Nat × Obj))); rw [hn]; rfl)) (fun L g b hN => by (have hz : L 13 = false := hN.2.2.no 12 13 (by kernel_rfl) hN.1; show ([(b4, Obj.cells (Value.cells (uv NR)) 24 (0, 0)), (b3, Obj.cells #[.int .u64 0, .int .u64 0, .int .u64 0, .int .u64 0] 24 (0, 0)), (b2, Obj.cells (Value.cells (uv B)) 24 (0, 0)), (b1, Obj.cells (Value.cells (uv A)) 24 (0, 0))]) ++ (b, Obj.cells #[.int .u64 0, .int .u64 0, .int .u64 0, .int .u64 0] 24 (0, 0)) :: (([] : List (Nat × Obj))) = ([(b4, Obj.cells (Value.cells (uv NR)) 24 (0, 0)), (b3, Obj.cells #[.int .u64 0, .int .u64 0, .int .u64 0, .int .u64 0] 24 (0, 0)), (b2, Obj.cells (Value.cells (uv B)) 24 (0, 0)), (b1, Obj.cells (Value.cells (uv A)) 24 (0, 0))] ++ ([(b, (bif L 13 then Obj.cells (Value.cells (uv (df (rs A 0 NR) (rs B 0 NR)))) 24 (0, 0) else Obj.cells #[.int .u64 0, .int .u64 0, .int .u64 0, .int .u64 0] 24 (0, 0)))])); rw [hz]; rfl))
  · exact gv_store (fun _ => 4) 24 (.tmp 10) (.tmp 31) (fun g => g 12) 0 #[.int .u64 0, .int .u64 0, .int .u64 0, .int .u64 0] (Value.cells (uv (df (rs A 0 NR) (rs B 0 NR)))) 24 (uv (df (rs A 0 NR) (rs B 0 NR))) (fun g => by kernel_rfl) (fun g => by kernel_rfl) (fun g => by kernel_rfl) (by kernel_rfl) (by kernel_rfl) (of_decide_eq_true (by kernel_rfl)) (by kernel_rfl) (fun L g hN => by (have hs13 : L 13 = false := hN.1; have hs12 : L 12 = true := before_yes hN.2.1 12 (by kernel_rfl); show ([(b4, Obj.cells (Value.cells (uv NR)) 24 (0, 0)), (b3, Obj.cells #[.int .u64 0, .int .u64 0, .int .u64 0, .int .u64 0] 24 (0, 0)), (b2, Obj.cells (Value.cells (uv B)) 24 (0, 0)), (b1, Obj.cells (Value.cells (uv A)) 24 (0, 0))] ++ (bif L 12 then [(g 12, (bif L 13 then Obj.cells (Value.cells (uv (df (rs A 0 NR) (rs B 0 NR)))) 24 (0, 0) else Obj.cells #[.int .u64 0, .int .u64 0, .int .u64 0, .int .u64 0] 24 (0, 0)))] else []))[(fun _ => 4) L]? = some (g 12, Obj.cells #[.int .u64 0, .int .u64 0, .int .u64 0, .int .u64 0] 24 (0, 0)) ∧ ([(b4, Obj.cells (Value.cells (uv NR)) 24 (0, 0)), (b3, Obj.cells #[.int .u64 0, .int .u64 0, .int .u64 0, .int .u64 0] 24 (0, 0)), (b2, Obj.cells (Value.cells (uv B)) 24 (0, 0)), (b1, Obj.cells (Value.cells (uv A)) 24 (0, 0))] ++ (bif L 12 then [(g 12, (bif L 13 then Obj.cells (Value.cells (uv (df (rs A 0 NR) (rs B 0 NR)))) 24 (0, 0) else Obj.cells #[.int .u64 0, .int .u64 0, .int .u64 0, .int .u64 0] 24 (0, 0)))] else [])).set ((fun _ => 4) L) (g 12, Obj.cells (Value.cells (uv (df (rs A 0 NR) (rs B 0 NR)))) 24 (0, 0)) = ([(b4, Obj.cells (Value.cells (uv NR)) 24 (0, 0)), (b3, Obj.cells #[.int .u64 0, .int .u64 0, .int .u64 0, .int .u64 0] 24 (0, 0)), (b2, Obj.cells (Value.cells (uv B)) 24 (0, 0)), (b1, Obj.cells (Value.cells (uv A)) 24 (0, 0))] ++ (bif L 12 then [(g 12, (bif true then Obj.cells (Value.cells (uv (df (rs A 0 NR) (rs B 0 NR)))) 24 (0, 0) else Obj.cells #[.int .u64 0, .int .u64 0, .int .u64 0, .int .u64 0] 24 (0, 0)))] else [])); rw [hs13, hs12]; exact ⟨rfl, rfl⟩))
  · exact gv_val (fun _ _ _ h => h) (fun g w => by kernel_rfl)
  intro L0 g7 w7 hall HL; clear H6
  have H7 : St w.heap.size w w7 [(b4, Obj.cells (Value.cells (uv NR)) 24 (0, 0)), (b3, Obj.cells #[.int .u64 0, .int .u64 0, .int .u64 0, .int .u64 0] 24 (0, 0)), (b2, Obj.cells (Value.cells (uv B)) 24 (0, 0)), (b1, Obj.cells (Value.cells (uv A)) 24 (0, 0)), ((g7 12), Obj.cells (Value.cells (uv (df (rs A 0 NR) (rs B 0 NR)))) 24 (0, 0))] := by have e13 := hall 13 (Nat.le_of_ble_eq_true (by kernel_rfl)); have e12 := hall 12 (Nat.le_of_ble_eq_true (by kernel_rfl)); simp only [e13, e12, cond_true] at HL; exact HL
  clear HL hall
  refine g_seq (by kernel_rfl) ?_
  refine g_sreg [0] (by kernel_rfl) (by kernel_rfl) ?_
  cases hlo : lo (rs A 0 NR) (rs B 0 NR)
  · skip
    refine s_val (some 33) (.bool false) (fun w => by kernel_rfl) (by kernel_rfl) ?_
    refine s_nil ?_
    refine g_cond_f (by kernel_rfl) (by kernel_rfl) ?_
    refine g_skip (by kernel_rfl) ?_
    show WP _ _ _ _ _ _
    refine g_sreg [0, 1, 2] (by kernel_rfl) (by kernel_rfl) ?_
    refine s_load H7 (some 40) 24 (.tmp 10) 4 (g7 12) (Value.cells (uv (df (rs A 0 NR) (rs B 0 NR)))) 24 (0, 0) (by kernel_rfl) (by kernel_rfl) (by kernel_rfl) (by kernel_rfl) (by kernel_rfl) ?_
    refine s_store H7 1 [(b4, Obj.cells (Value.cells (uv NR)) 24 (0, 0)), (b3, Obj.cells (Value.cells (uv (df (rs A 0 NR) (rs B 0 NR)))) 24 (0, 0)), (b2, Obj.cells (Value.cells (uv B)) 24 (0, 0)), (b1, Obj.cells (Value.cells (uv A)) 24 (0, 0)), ((g7 12), Obj.cells (Value.cells (uv (df (rs A 0 NR) (rs B 0 NR)))) 24 (0, 0))] 24 (.tmp 6) (.tmp 40) b3 0 #[.int .u64 0, .int .u64 0, .int .u64 0, .int .u64 0] (Value.cells (uv (df (rs A 0 NR) (rs B 0 NR)))) 24 (uv (df (rs A 0 NR) (rs B 0 NR))) (by kernel_rfl) (by kernel_rfl) (by kernel_rfl) (by kernel_rfl) (by kernel_rfl) (by kernel_rfl) (of_decide_eq_true (by kernel_rfl)) (by kernel_rfl) (by kernel_rfl) ?_
    intro w8 H8; clear H7
    refine s_val (some 7) (.int .i64 0) (fun w => by kernel_rfl) (by kernel_rfl) ?_
    refine s_nil ?_
    refine g_ret (by kernel_rfl) ?_
    show ∃ vs, Res _ _ _ _ vs ∧ _
    refine ⟨[uv (df (rs A 0 NR) (rs B 0 NR)), .int .i64 0], (.agg (b := b3) (Value.cells (uv (df (rs A 0 NR) (rs B 0 NR)))) 24 (0, 0) (by kernel_rfl) (H8.get 1 (by kernel_rfl)) (by kernel_rfl) (.tmp (.int .i64 0) (by kernel_rfl) .nil)), ?_, H8.below⟩
    exact congrArg (fun n => Value.tuple #[uv n, .int .i64 0]) (fSub_of2 nr_ok hlo)
  · skip
    refine s_val (some 33) (.bool true) (fun w => by kernel_rfl) (by kernel_rfl) ?_
    refine s_nil ?_
    refine g_cond_t (by kernel_rfl) (by kernel_rfl) ?_
    refine g_reg0 [0, 1, 2, 3, 4, 5, 6] (by kernel_rfl) ?_
    refine s_load H7 (some 35) 24 (.tmp 10) 4 (g7 12) (Value.cells (uv (df (rs A 0 NR) (rs B 0 NR)))) 24 (0, 0) (by kernel_rfl) (by kernel_rfl) (by kernel_rfl) (by kernel_rfl) (by kernel_rfl) ?_
    refine s_load H7 (some 36) 24 (.tmp 8) 0 b4 (Value.cells (uv NR)) 24 (0, 0) (by kernel_rfl) (by kernel_rfl) (by kernel_rfl) (by kernel_rfl) (by kernel_rfl) ?_
    refine s_call H7 (some 37) 16 #[uv (df (rs A 0 NR) (rs B 0 NR)), uv NR] (.tuple #[uv (sm (df (rs A 0 NR) (rs B 0 NR)) NR), .bool (ov (df (rs A 0 NR) (rs B 0 NR)) NR)]) (add_fn (df (rs A 0 NR) (rs B 0 NR)) NR (df_lt _ _) nr_ok.1) (fun w => by kernel_rfl) (by kernel_rfl) ?_
    intro w9 H9; clear H7
    refine s_val (some 34) (.tuple #[uv (sm (df (rs A 0 NR) (rs B 0 NR)) NR), .bool (ov (df (rs A 0 NR) (rs B 0 NR)) NR)]) (fun w => by kernel_rfl) (by kernel_rfl) ?_
    refine s_val (some 38) (uv (sm (df (rs A 0 NR) (rs B 0 NR)) NR)) (fun w => by kernel_rfl) (by kernel_rfl) ?_
    refine s_val (some 39) (.bool (ov (df (rs A 0 NR) (rs B 0 NR)) NR)) (fun w => by kernel_rfl) (by kernel_rfl) ?_
    refine s_store H9 4 [(b4, Obj.cells (Value.cells (uv NR)) 24 (0, 0)), (b3, Obj.cells #[.int .u64 0, .int .u64 0, .int .u64 0, .int .u64 0] 24 (0, 0)), (b2, Obj.cells (Value.cells (uv B)) 24 (0, 0)), (b1, Obj.cells (Value.cells (uv A)) 24 (0, 0)), ((g7 12), Obj.cells (Value.cells (uv (sm (df (rs A 0 NR) (rs B 0 NR)) NR))) 24 (0, 0))] 24 (.tmp 10) (.tmp 38) (g7 12) 0 (Value.cells (uv (df (rs A 0 NR) (rs B 0 NR)))) (Value.cells (uv (sm (df (rs A 0 NR) (rs B 0 NR)) NR))) 24 (uv (sm (df (rs A 0 NR) (rs B 0 NR)) NR)) (by kernel_rfl) (by kernel_rfl) (by kernel_rfl) (by kernel_rfl) (by kernel_rfl) (by kernel_rfl) (of_decide_eq_true (by kernel_rfl)) (by kernel_rfl) (by kernel_rfl) ?_
    intro w10 H10; clear H9
    refine s_nil ?_
    show WP _ _ _ _ _ _
    refine g_sreg [0, 1, 2] (by kernel_rfl) (by kernel_rfl) ?_
    refine s_load H10 (some 40) 24 (.tmp 10) 4 (g7 12) (Value.cells (uv (sm (df (rs A 0 NR) (rs B 0 NR)) NR))) 24 (0, 0) (by kernel_rfl) (by kernel_rfl) (by kernel_rfl) (by kernel_rfl) (by kernel_rfl) ?_
    refine s_store H10 1 [(b4, Obj.cells (Value.cells (uv NR)) 24 (0, 0)), (b3, Obj.cells (Value.cells (uv (sm (df (rs A 0 NR) (rs B 0 NR)) NR))) 24 (0, 0)), (b2, Obj.cells (Value.cells (uv B)) 24 (0, 0)), (b1, Obj.cells (Value.cells (uv A)) 24 (0, 0)), ((g7 12), Obj.cells (Value.cells (uv (sm (df (rs A 0 NR) (rs B 0 NR)) NR))) 24 (0, 0))] 24 (.tmp 6) (.tmp 40) b3 0 #[.int .u64 0, .int .u64 0, .int .u64 0, .int .u64 0] (Value.cells (uv (sm (df (rs A 0 NR) (rs B 0 NR)) NR))) 24 (uv (sm (df (rs A 0 NR) (rs B 0 NR)) NR)) (by kernel_rfl) (by kernel_rfl) (by kernel_rfl) (by kernel_rfl) (by kernel_rfl) (by kernel_rfl) (of_decide_eq_true (by kernel_rfl)) (by kernel_rfl) (by kernel_rfl) ?_
    intro w11 H11; clear H10
    refine s_val (some 7) (.int .i64 0) (fun w => by kernel_rfl) (by kernel_rfl) ?_
    refine s_nil ?_
    refine g_ret (by kernel_rfl) ?_
    show ∃ vs, Res _ _ _ _ vs ∧ _
    refine ⟨[uv (sm (df (rs A 0 NR) (rs B 0 NR)) NR), .int .i64 0], (.agg (b := b3) (Value.cells (uv (sm (df (rs A 0 NR) (rs B 0 NR)) NR))) 24 (0, 0) (by kernel_rfl) (H11.get 1 (by kernel_rfl)) (by kernel_rfl) (.tmp (.int .i64 0) (by kernel_rfl) .nil)), ?_, H11.below⟩
    exact congrArg (fun n => Value.tuple #[uv n, .int .i64 0]) (fSub_of1 nr_ok hlo)

set_option maxRecDepth 100000 in
theorem fsubNo_fn (A B : Nat) (hA : A < big) (hB : B < big) (n : Int) (h0 : n ≠ 0) (h1 : n ≠ 1) : Fn Try.prog 40 #[uv A, uv B, .int .i64 n] (.tuple #[.agg #[.int .u64 0, .int .u64 0, .int .u64 0, .int .u64 0], .int .i64 1]) := by
  refine Fn.intro (c := codeOf Try.f40) [.cell 6 24, .tmp 7] 41 Try.func40 (by kernel_rfl) (by kernel_rfl) (by kernel_rfl) fun w => ?_
  have H0 := St.start w
  refine g_sreg [0, 1, 2, 3] (by kernel_rfl) (by kernel_rfl) ?_
  refine s_box H0 (some 3) 24 (.tmp 0) (uv A) (by kernel_rfl) (by kernel_rfl) (by kernel_rfl) ?_
  intro b1 w1 H1; clear H0
  refine s_box H1 (some 4) 24 (.tmp 1) (uv B) (by kernel_rfl) (by kernel_rfl) (by kernel_rfl) ?_
  intro b2 w2 H2; clear H1
  refine s_alloc H2 (some 6) 24 (.agg #[.int .u64 0, .int .u64 0, .int .u64 0, .int .u64 0]) (by kernel_rfl) (by kernel_rfl) (by kernel_rfl) ?_
  intro b3 w3 H3; clear H2
  refine s_val (some 7) (.int .i64 0) (fun w => by kernel_rfl) (by kernel_rfl) ?_
  refine s_nil ?_
  refine g_sreg [0, 1, 2, 3, 4, 5, 6, 7] (by kernel_rfl) (by kernel_rfl) ?_
  refine s_val (some 13) (.int .i64 n) (fun w => by kernel_rfl) (by kernel_rfl) ?_
  refine s_call H3 (some 14) 38 #[.int .i64 n] (.tuple #[.agg #[.int .u64 0, .int .u64 0, .int .u64 0, .int .u64 0], .int .i64 1]) (primeNo_fn n h0 h1) (fun w => by kernel_rfl) (by kernel_rfl) ?_
  intro w4 H4; clear H3
  refine s_val (some 12) (.tuple #[.agg #[.int .u64 0, .int .u64 0, .int .u64 0, .int .u64 0], .int .i64 1]) (fun w => by kernel_rfl) (by kernel_rfl) ?_
  refine s_val (some 15) (.agg #[.int .u64 0, .int .u64 0, .int .u64 0, .int .u64 0]) (fun w => by kernel_rfl) (by kernel_rfl) ?_
  refine s_val (some 16) (.int .i64 1) (fun w => by kernel_rfl) (by kernel_rfl) ?_
  refine s_alloc H4 (some 8) 24 (.agg #[.int .u64 0, .int .u64 0, .int .u64 0, .int .u64 0]) (by kernel_rfl) (by kernel_rfl) (by kernel_rfl) ?_
  intro b4 w5 H5; clear H4
  refine s_store H5 0 [(b4, Obj.cells #[.int .u64 0, .int .u64 0, .int .u64 0, .int .u64 0] 24 (0, 0)), (b3, Obj.cells #[.int .u64 0, .int .u64 0, .int .u64 0, .int .u64 0] 24 (0, 0)), (b2, Obj.cells (Value.cells (uv B)) 24 (0, 0)), (b1, Obj.cells (Value.cells (uv A)) 24 (0, 0))] 24 (.tmp 8) (.tmp 15) b4 0 #[.int .u64 0, .int .u64 0, .int .u64 0, .int .u64 0] #[.int .u64 0, .int .u64 0, .int .u64 0, .int .u64 0] 24 (.agg #[.int .u64 0, .int .u64 0, .int .u64 0, .int .u64 0]) (by kernel_rfl) (by kernel_rfl) (by kernel_rfl) (by kernel_rfl) (by kernel_rfl) (by kernel_rfl) (of_decide_eq_true (by kernel_rfl)) (by kernel_rfl) (by kernel_rfl) ?_
  intro w6 H6; clear H5
  refine s_val (some 9) (.int .i64 1) (fun w => by kernel_rfl) (by kernel_rfl) ?_
  refine s_nil ?_
  refine g_seq (by kernel_rfl) ?_
  refine g_sreg [0, 1] (by kernel_rfl) (by kernel_rfl) ?_
  refine s_val (some 17) (.int .i64 1) (fun w => by kernel_rfl) (by kernel_rfl) ?_
  refine s_val (some 18) (.bool true) (fun w => by kernel_rfl) (by kernel_rfl) ?_
  refine s_nil ?_
  refine g_cond_t (by kernel_rfl) (by kernel_rfl) ?_
  refine g_sreg [0, 1, 2, 3] (by kernel_rfl) (by kernel_rfl) ?_
  refine s_val (some 19) (.agg #[.int .u64 0, .int .u64 0, .int .u64 0, .int .u64 0]) (fun w => by kernel_rfl) (by kernel_rfl) ?_
  refine s_val (some 20) (.int .i64 1) (fun w => by kernel_rfl) (by kernel_rfl) ?_
  refine s_store H6 1 [(b4, Obj.cells #[.int .u64 0, .int .u64 0, .int .u64 0, .int .u64 0] 24 (0, 0)), (b3, Obj.cells #[.int .u64 0, .int .u64 0, .int .u64 0, .int .u64 0] 24 (0, 0)), (b2, Obj.cells (Value.cells (uv B)) 24 (0, 0)), (b1, Obj.cells (Value.cells (uv A)) 24 (0, 0))] 24 (.tmp 6) (.tmp 19) b3 0 #[.int .u64 0, .int .u64 0, .int .u64 0, .int .u64 0] #[.int .u64 0, .int .u64 0, .int .u64 0, .int .u64 0] 24 (.agg #[.int .u64 0, .int .u64 0, .int .u64 0, .int .u64 0]) (by kernel_rfl) (by kernel_rfl) (by kernel_rfl) (by kernel_rfl) (by kernel_rfl) (by kernel_rfl) (of_decide_eq_true (by kernel_rfl)) (by kernel_rfl) (by kernel_rfl) ?_
  intro w7 H7; clear H6
  refine s_val (some 7) (.int .i64 1) (fun w => by kernel_rfl) (by kernel_rfl) ?_
  refine s_nil ?_
  refine g_ret (by kernel_rfl) ?_
  show ∃ vs, Res _ _ _ _ vs ∧ _
  refine ⟨[.agg #[.int .u64 0, .int .u64 0, .int .u64 0, .int .u64 0], .int .i64 1], (.agg (b := b3) #[.int .u64 0, .int .u64 0, .int .u64 0, .int .u64 0] 24 (0, 0) (by kernel_rfl) (H7.get 1 (by kernel_rfl)) (by kernel_rfl) (.tmp (.int .i64 1) (by kernel_rfl) .nil)), ?_, H7.below⟩
  kernel_rfl

set_option maxRecDepth 100000 in
theorem times_fn (X Y M bm : Nat) (hX : X < big) (hY : Y < big) (hM : MOK M) : FnP Try.prog 64 #[uv X, uv Y, .pointer (some ⟨bm, 0, none⟩)] (fun w => w.heap[bm]? = some (.cells (Value.cells (uv M)) 24 (0, 0))) (uv (rs (pl X Y) (ph X Y) M)) := by
  refine FnP.intro (c := codeOf Try.f64) [.cell 5 24] 18 Try.func64 (by kernel_rfl) (by kernel_rfl) (by kernel_rfl) fun w hpre => ?_
  have H0 := St.start w
  refine g_sreg [0, 1, 2] (by kernel_rfl) (by kernel_rfl) ?_
  refine s_box H0 (some 3) 24 (.tmp 0) (uv X) (by kernel_rfl) (by kernel_rfl) (by kernel_rfl) ?_
  intro b1 w1 H1; clear H0
  refine s_box H1 (some 4) 24 (.tmp 1) (uv Y) (by kernel_rfl) (by kernel_rfl) (by kernel_rfl) ?_
  intro b2 w2 H2; clear H1
  refine s_alloc H2 (some 5) 24 (.agg #[.int .u64 0, .int .u64 0, .int .u64 0, .int .u64 0]) (by kernel_rfl) (by kernel_rfl) (by kernel_rfl) ?_
  intro b3 w3 H3; clear H2
  refine s_nil ?_
  refine g_sreg [0, 1, 2, 3, 4, 5, 6, 7, 8, 9] (by kernel_rfl) (by kernel_rfl) ?_
  refine s_load H3 (some 9) 24 (.tmp 3) 2 b1 (Value.cells (uv X)) 24 (0, 0) (by kernel_rfl) (by kernel_rfl) (by kernel_rfl) (by kernel_rfl) (by kernel_rfl) ?_
  refine s_load H3 (some 10) 24 (.tmp 4) 1 b2 (Value.cells (uv Y)) 24 (0, 0) (by kernel_rfl) (by kernel_rfl) (by kernel_rfl) (by kernel_rfl) (by kernel_rfl) ?_
  refine s_call H3 (some 11) 26 #[uv X, uv Y] (.tuple #[uv (pl X Y), uv (ph X Y)]) (mul_fn X Y hX hY) (fun w => by kernel_rfl) (by kernel_rfl) ?_
  intro w4 H4; clear H3
  refine s_val (some 8) (.tuple #[uv (pl X Y), uv (ph X Y)]) (fun w => by kernel_rfl) (by kernel_rfl) ?_
  refine s_val (some 12) (uv (pl X Y)) (fun w => by kernel_rfl) (by kernel_rfl) ?_
  refine s_val (some 13) (uv (ph X Y)) (fun w => by kernel_rfl) (by kernel_rfl) ?_
  refine s_alloc H4 (some 6) 24 (.agg #[.int .u64 0, .int .u64 0, .int .u64 0, .int .u64 0]) (by kernel_rfl) (by kernel_rfl) (by kernel_rfl) ?_
  intro b4 w5 H5; clear H4
  refine s_alloc H5 (some 7) 24 (.agg #[.int .u64 0, .int .u64 0, .int .u64 0, .int .u64 0]) (by kernel_rfl) (by kernel_rfl) (by kernel_rfl) ?_
  intro b5 w6 H6; clear H5
  refine s_store H6 1 [(b5, Obj.cells #[.int .u64 0, .int .u64 0, .int .u64 0, .int .u64 0] 24 (0, 0)), (b4, Obj.cells (Value.cells (uv (pl X Y))) 24 (0, 0)), (b3, Obj.cells #[.int .u64 0, .int .u64 0, .int .u64 0, .int .u64 0] 24 (0, 0)), (b2, Obj.cells (Value.cells (uv Y)) 24 (0, 0)), (b1, Obj.cells (Value.cells (uv X)) 24 (0, 0))] 24 (.tmp 6) (.tmp 12) b4 0 #[.int .u64 0, .int .u64 0, .int .u64 0, .int .u64 0] (Value.cells (uv (pl X Y))) 24 (uv (pl X Y)) (by kernel_rfl) (by kernel_rfl) (by kernel_rfl) (by kernel_rfl) (by kernel_rfl) (by kernel_rfl) (of_decide_eq_true (by kernel_rfl)) (by kernel_rfl) (by kernel_rfl) ?_
  intro w7 H7; clear H6
  refine s_store H7 0 [(b5, Obj.cells (Value.cells (uv (ph X Y))) 24 (0, 0)), (b4, Obj.cells (Value.cells (uv (pl X Y))) 24 (0, 0)), (b3, Obj.cells #[.int .u64 0, .int .u64 0, .int .u64 0, .int .u64 0] 24 (0, 0)), (b2, Obj.cells (Value.cells (uv Y)) 24 (0, 0)), (b1, Obj.cells (Value.cells (uv X)) 24 (0, 0))] 24 (.tmp 7) (.tmp 13) b5 0 #[.int .u64 0, .int .u64 0, .int .u64 0, .int .u64 0] (Value.cells (uv (ph X Y))) 24 (uv (ph X Y)) (by kernel_rfl) (by kernel_rfl) (by kernel_rfl) (by kernel_rfl) (by kernel_rfl) (by kernel_rfl) (of_decide_eq_true (by kernel_rfl)) (by kernel_rfl) (by kernel_rfl) ?_
  intro w8 H8; clear H7
  refine s_nil ?_
  refine g_sreg [0, 1, 2, 3, 4] (by kernel_rfl) (by kernel_rfl) ?_
  refine s_load H8 (some 14) 24 (.tmp 6) 1 b4 (Value.cells (uv (pl X Y))) 24 (0, 0) (by kernel_rfl) (by kernel_rfl) (by kernel_rfl) (by kernel_rfl) (by kernel_rfl) ?_
  refine s_load H8 (some 15) 24 (.tmp 7) 0 b5 (Value.cells (uv (ph X Y))) 24 (0, 0) (by kernel_rfl) (by kernel_rfl) (by kernel_rfl) (by kernel_rfl) (by kernel_rfl) ?_
  refine s_loadF H8 (some 16) 24 (.tmp 2) bm (Value.cells (uv M)) 24 (0, 0) (by kernel_rfl) (by kernel_rfl) (by kernel_rfl) hpre (lt_of_heap hpre) (by kernel_rfl) ?_
  refine s_call H8 (some 17) 63 #[uv (pl X Y), uv (ph X Y), uv M] (uv (rs (pl X Y) (ph X Y) M)) (rest_fn (pl X Y) (ph X Y) M (pl_lt _ _) (ph_lt hX hY) hM) (fun w => by kernel_rfl) (by kernel_rfl) ?_
  intro w9 H9; clear H8
  refine s_store H9 2 [(b5, Obj.cells (Value.cells (uv (ph X Y))) 24 (0, 0)), (b4, Obj.cells (Value.cells (uv (pl X Y))) 24 (0, 0)), (b3, Obj.cells (Value.cells (uv (rs (pl X Y) (ph X Y) M))) 24 (0, 0)), (b2, Obj.cells (Value.cells (uv Y)) 24 (0, 0)), (b1, Obj.cells (Value.cells (uv X)) 24 (0, 0))] 24 (.tmp 5) (.tmp 17) b3 0 #[.int .u64 0, .int .u64 0, .int .u64 0, .int .u64 0] (Value.cells (uv (rs (pl X Y) (ph X Y) M))) 24 (uv (rs (pl X Y) (ph X Y) M)) (by kernel_rfl) (by kernel_rfl) (by kernel_rfl) (by kernel_rfl) (by kernel_rfl) (by kernel_rfl) (of_decide_eq_true (by kernel_rfl)) (by kernel_rfl) (by kernel_rfl) ?_
  intro w10 H10; clear H9
  refine s_nil ?_
  refine g_ret (by kernel_rfl) ?_
  show ∃ vs, Res _ _ _ _ vs ∧ _
  refine ⟨[uv (rs (pl X Y) (ph X Y) M)], (.agg (b := b3) (Value.cells (uv (rs (pl X Y) (ph X Y) M))) 24 (0, 0) (by kernel_rfl) (H10.get 2 (by kernel_rfl)) (by kernel_rfl) .nil), ?_, H10.below⟩
  rfl

set_option maxRecDepth 100000 in
theorem pow0_fn (A n : Nat) (hA : A < big) (hn : n < big) : Fn Try.prog 49 #[uv A, uv n, .int .i64 0] (.tuple #[uv (fpw A n PR), .int .i64 0]) := by
  refine Fn.intro (c := codeOf Try.f49) [.cell 6 24, .tmp 7] 43 Try.func49 (by kernel_rfl) (by kernel_rfl) (by kernel_rfl) fun w => ?_
  have H0 := St.start w
  refine g_sreg [0, 1, 2, 3] (by kernel_rfl) (by kernel_rfl) ?_
  refine s_box H0 (some 3) 24 (.tmp 0) (uv A) (by kernel_rfl) (by kernel_rfl) (by kernel_rfl) ?_
  intro b1 w1 H1; clear H0
  refine s_box H1 (some 4) 24 (.tmp 1) (uv n) (by kernel_rfl) (by kernel_rfl) (by kernel_rfl) ?_
  intro b2 w2 H2; clear H1
  refine s_alloc H2 (some 6) 24 (.agg #[.int .u64 0, .int .u64 0, .int .u64 0, .int .u64 0]) (by kernel_rfl) (by kernel_rfl) (by kernel_rfl) ?_
  intro b3 w3 H3; clear H2
  refine s_val (some 7) (.int .i64 0) (fun w => by kernel_rfl) (by kernel_rfl) ?_
  refine s_nil ?_
  refine g_sreg [0, 1, 2, 3, 4, 5, 6, 7] (by kernel_rfl) (by kernel_rfl) ?_
  refine s_val (some 14) (.int .i64 0) (fun w => by kernel_rfl) (by kernel_rfl) ?_
  refine s_call H3 (some 15) 38 #[.int .i64 0] (.tuple #[uv PR, .int .i64 0]) prime0_fn (fun w => by kernel_rfl) (by kernel_rfl) ?_
  intro w4 H4; clear H3
  refine s_val (some 13) (.tuple #[uv PR, .int .i64 0]) (fun w => by kernel_rfl) (by kernel_rfl) ?_
  refine s_val (some 16) (uv PR) (fun w => by kernel_rfl) (by kernel_rfl) ?_
  refine s_val (some 17) (.int .i64 0) (fun w => by kernel_rfl) (by kernel_rfl) ?_
  refine s_alloc H4 (some 8) 24 (.agg #[.int .u64 0, .int .u64 0, .int .u64 0, .int .u64 0]) (by kernel_rfl) (by kernel_rfl) (by kernel_rfl) ?_
  intro b4 w5 H5; clear H4
  refine s_store H5 0 [(b4, Obj.cells (Value.cells (uv PR)) 24 (0, 0)), (b3, Obj.cells #[.int .u64 0, .int .u64 0, .int .u64 0, .int .u64 0] 24 (0, 0)), (b2, Obj.cells (Value.cells (uv n)) 24 (0, 0)), (b1, Obj.cells (Value.cells (uv A)) 24 (0, 0))] 24 (.tmp 8) (.tmp 16) b4 0 #[.int .u64 0, .int .u64 0, .int .u64 0, .int .u64 0] (Value.cells (uv PR)) 24 (uv PR) (by kernel_rfl) (by kernel_rfl) (by kernel_rfl) (by kernel_rfl) (by kernel_rfl) (by kernel_rfl) (of_decide_eq_true (by kernel_rfl)) (by kernel_rfl) (by kernel_rfl) ?_
  intro w6 H6; clear H5
  refine s_val (some 9) (.int .i64 0) (fun w => by kernel_rfl) (by kernel_rfl) ?_
  refine s_nil ?_
  refine g_seq (by kernel_rfl) ?_
  refine g_sreg [0, 1] (by kernel_rfl) (by kernel_rfl) ?_
  refine s_val (some 18) (.int .i64 0) (fun w => by kernel_rfl) (by kernel_rfl) ?_
  refine s_val (some 19) (.bool false) (fun w => by kernel_rfl) (by kernel_rfl) ?_
  refine s_nil ?_
  refine g_cond_f (by kernel_rfl) (by kernel_rfl) ?_
  refine g_skip (by kernel_rfl) ?_
  show WP _ _ _ _ _ _
  refine g_sreg [0, 1] (by kernel_rfl) (by kernel_rfl) ?_
  refine s_val (some 22) (.func (.func 64) #[] #[.pointer (some ⟨b4, 0, none⟩)]) (fun w => by kernel_rfl) (by kernel_rfl) ?_
  refine s_val (some 10) (.func (.func 64) #[] #[.pointer (some ⟨b4, 0, none⟩)]) (fun w => by kernel_rfl) (by kernel_rfl) ?_
  refine s_nil ?_
  refine g_sreg [0, 1, 2] (by kernel_rfl) (by kernel_rfl) ?_
  refine s_call H6 (some 23) 36 #[.int .u64 1] (uv 1) (small_fn 1 (by omega)) (fun w => by kernel_rfl) (by kernel_rfl) ?_
  intro w7 H7; clear H6
  refine s_alloc H7 (some 11) 24 (.agg #[.int .u64 0, .int .u64 0, .int .u64 0, .int .u64 0]) (by kernel_rfl) (by kernel_rfl) (by kernel_rfl) ?_
  intro b5 w8 H8; clear H7
  refine s_store H8 0 [(b5, Obj.cells (Value.cells (uv 1)) 24 (0, 0)), (b4, Obj.cells (Value.cells (uv PR)) 24 (0, 0)), (b3, Obj.cells #[.int .u64 0, .int .u64 0, .int .u64 0, .int .u64 0] 24 (0, 0)), (b2, Obj.cells (Value.cells (uv n)) 24 (0, 0)), (b1, Obj.cells (Value.cells (uv A)) 24 (0, 0))] 24 (.tmp 11) (.tmp 23) b5 0 #[.int .u64 0, .int .u64 0, .int .u64 0, .int .u64 0] (Value.cells (uv 1)) 24 (uv 1) (by kernel_rfl) (by kernel_rfl) (by kernel_rfl) (by kernel_rfl) (by kernel_rfl) (by kernel_rfl) (of_decide_eq_true (by kernel_rfl)) (by kernel_rfl) (by kernel_rfl) ?_
  intro w9 H9; clear H8
  refine s_nil ?_
  refine g_seq (by kernel_rfl) ?_
  refine g_sreg [0, 1, 2, 3] (by kernel_rfl) (by kernel_rfl) ?_
  refine s_load H9 (some 24) 24 (.tmp 4) 3 b2 (Value.cells (uv n)) 24 (0, 0) (by kernel_rfl) (by kernel_rfl) (by kernel_rfl) (by kernel_rfl) (by kernel_rfl) ?_
  refine s_call H9 (some 25) 33 #[uv n] (.int .i64 (len n : Int)) (len_fn n hn) (fun w => by kernel_rfl) (by kernel_rfl) ?_
  intro w10 H10; clear H9
  refine s_valE (some 26) (.int .i64 (IntKind.i64.wrap ((len n : Int) - 1))) (.int .i64 ((len n : Int) - 1)) (fun w => by kernel_rfl) (int_eq (by rw [wrap_i64] <;> (have := len_le hn; omega))) (by kernel_rfl) ?_
  refine s_val (some 12) (.int .i64 ((len n : Int) - 1)) (fun w => by kernel_rfl) (by kernel_rfl) ?_
  refine s_nil ?_
  refine g_block 0 (by kernel_rfl) ?_
  have hst : uv 1 = uv (fpw A (n / 2 ^ len n) PR) := congrArg uv (fpw_start pr_ok (lt_two_pow_len n))
  rw [hst] at H10
  refine g_loop (by kernel_rfl) (fun m ρ x => ∃ (k : Nat), k = m ∧ (k ≤ 256) ∧ St w.heap.size w x [(b5, Obj.cells (Value.cells (uv (fpw A (n / 2 ^ k) PR))) 24 (0, 0)), (b4, Obj.cells (Value.cells (uv PR)) 24 (0, 0)), (b3, Obj.cells #[.int .u64 0, .int .u64 0, .int .u64 0, .int .u64 0] 24 (0, 0)), (b2, Obj.cells (Value.cells (uv n)) 24 (0, 0)), (b1, Obj.cells (Value.cells (uv A)) 24 (0, 0))] ∧ Is [(0, uv A), (1, uv n), (2, .int .i64 0), (3, .pointer (some ⟨b1, 0, none⟩)), (4, .pointer (some ⟨b2, 0, none⟩)), (6, .pointer (some ⟨b3, 0, none⟩)), (7, .int .i64 0), (8, .pointer (some ⟨b4, 0, none⟩)), (9, .int .i64 0), (10, .func (.func 64) #[] #[.pointer (some ⟨b4, 0, none⟩)]), (11, .pointer (some ⟨b5, 0, none⟩)), (12, .int .i64 ((k : Int) - 1)), (19, .bool false)] ρ) (len n) ⟨(len n), rfl, (len_le hn), H10, (Is.of ⟨(by kernel_rfl), (by kernel_rfl), (by kernel_rfl), (by kernel_rfl), (by kernel_rfl), (by kernel_rfl), (by kernel_rfl), (by kernel_rfl), (by kernel_rfl), (by kernel_rfl), (by kernel_rfl), (by kernel_rfl), (by kernel_rfl), trivial⟩)⟩ ?_
  clear H10
  rintro _ _ w11 ⟨k, rfl, hk, H11, _, rfl⟩
  refine g_seq (by kernel_rfl) ?_
  refine g_sreg [0, 1] (by kernel_rfl) (by kernel_rfl) ?_
  refine s_val (some 27) (.int .i64 ((k : Int) - 1)) (fun w => by kernel_rfl) (by kernel_rfl) ?_
  by_cases hc : 1 ≤ k
  · skip
    refine s_valE (some 28) (.bool (decide (0 ≤ (k : Int) - 1))) (.bool true) (fun w => by kernel_rfl) (bool_eq (decide_eq_true (by omega))) (by kernel_rfl) ?_
    refine s_nil ?_
    refine g_cond_t (by kernel_rfl) (by kernel_rfl) ?_
    refine g_skip (by kernel_rfl) ?_
    show WP _ _ _ _ _ _
    refine g_seq (by kernel_rfl) ?_
    refine g_block 1 (by kernel_rfl) ?_
    refine g_sreg [0, 1, 2, 3, 4] (by kernel_rfl) (by kernel_rfl) ?_
    refine s_val (some 31) (.func (.func 64) #[] #[.pointer (some ⟨b4, 0, none⟩)]) (fun w => by kernel_rfl) (by kernel_rfl) ?_
    refine s_load H11 (some 32) 24 (.tmp 11) 0 b5 (Value.cells (uv (fpw A (n / 2 ^ k) PR))) 24 (0, 0) (by kernel_rfl) (by kernel_rfl) (by kernel_rfl) (by kernel_rfl) (by kernel_rfl) ?_
    refine s_load H11 (some 33) 24 (.tmp 11) 0 b5 (Value.cells (uv (fpw A (n / 2 ^ k) PR))) 24 (0, 0) (by kernel_rfl) (by kernel_rfl) (by kernel_rfl) (by kernel_rfl) (by kernel_rfl) ?_
    refine s_callP H11 (some 34) 64 #[uv (fpw A (n / 2 ^ k) PR), uv (fpw A (n / 2 ^ k) PR), .pointer (some ⟨b4, 0, none⟩)] (fun w => w.heap[b4]? = some (.cells (Value.cells (uv PR)) 24 (0, 0))) (uv (rs (pl (fpw A (n / 2 ^ k) PR) (fpw A (n / 2 ^ k) PR)) (ph (fpw A (n / 2 ^ k) PR) (fpw A (n / 2 ^ k) PR)) PR)) (times_fn (fpw A (n / 2 ^ k) PR) (fpw A (n / 2 ^ k) PR) PR b4 (fpw_lt pr_ok) (fpw_lt pr_ok) pr_ok) (H11.get 1 (by kernel_rfl)) (fun w => by kernel_rfl) (by kernel_rfl) ?_
    intro w12 H12; clear H11
    refine s_store H12 0 [(b5, Obj.cells (Value.cells (uv (rs (pl (fpw A (n / 2 ^ k) PR) (fpw A (n / 2 ^ k) PR)) (ph (fpw A (n / 2 ^ k) PR) (fpw A (n / 2 ^ k) PR)) PR))) 24 (0, 0)), (b4, Obj.cells (Value.cells (uv PR)) 24 (0, 0)), (b3, Obj.cells #[.int .u64 0, .int .u64 0, .int .u64 0, .int .u64 0] 24 (0, 0)), (b2, Obj.cells (Value.cells (uv n)) 24 (0, 0)), (b1, Obj.cells (Value.cells (uv A)) 24 (0, 0))] 24 (.tmp 11) (.tmp 34) b5 0 (Value.cells (uv (fpw A (n / 2 ^ k) PR))) (Value.cells (uv (rs (pl (fpw A (n / 2 ^ k) PR) (fpw A (n / 2 ^ k) PR)) (ph (fpw A (n / 2 ^ k) PR) (fpw A (n / 2 ^ k) PR)) PR))) 24 (uv (rs (pl (fpw A (n / 2 ^ k) PR) (fpw A (n / 2 ^ k) PR)) (ph (fpw A (n / 2 ^ k) PR) (fpw A (n / 2 ^ k) PR)) PR)) (by kernel_rfl) (by kernel_rfl) (by kernel_rfl) (by kernel_rfl) (by kernel_rfl) (by kernel_rfl) (of_decide_eq_true (by kernel_rfl)) (by kernel_rfl) (by kernel_rfl) ?_
    intro w13 H13; clear H12
    refine s_nil ?_
    refine g_sreg [0, 1, 2] (by kernel_rfl) (by kernel_rfl) ?_
    refine s_load H13 (some 35) 24 (.tmp 4) 3 b2 (Value.cells (uv n)) 24 (0, 0) (by kernel_rfl) (by kernel_rfl) (by kernel_rfl) (by kernel_rfl) (by kernel_rfl) ?_
    refine s_valE (some 36) (.int .i64 ((k : Int) - 1)) (.int .i64 ((k - 1 : Nat) : Int)) (fun w => by kernel_rfl) (int_eq (by omega)) (by kernel_rfl) ?_
    refine s_call H13 (some 37) 35 #[uv n, .int .i64 ((k - 1 : Nat) : Int)] (.bool (bt n ((k - 1 : Nat) : Int))) (bit_fn n ((k - 1 : Nat) : Int)) (fun w => by kernel_rfl) (by kernel_rfl) ?_
    intro w14 H14; clear H13
    cases hbt : bt n ((k - 1 : Nat) : Int)
    · skip
      refine s_nil ?_
      refine g_cond_f (by kernel_rfl) (by kernel_rfl) ?_
      refine g_skip (by kernel_rfl) ?_
      show WP _ _ _ _ _ _
      refine g_reg0 [0, 1, 2] (by kernel_rfl) ?_
      refine s_val (some 29) (.int .i64 ((k : Int) - 1)) (fun w => by kernel_rfl) (by kernel_rfl) ?_
      refine s_valE (some 30) (.int .i64 (IntKind.i64.wrap (((k : Int) - 1) - 1))) (.int .i64 (((k - 1 : Nat) : Int) - 1)) (fun w => by kernel_rfl) (int_eq (by rw [wrap_i64 (by omega) (by omega)]; omega)) (by kernel_rfl) ?_
      refine s_val (some 12) (.int .i64 (((k - 1 : Nat) : Int) - 1)) (fun w => by kernel_rfl) (by kernel_rfl) ?_
      refine s_nil ?_
      rw [bt_nat (by omega)] at hbt
      have hst : (rs (pl (fpw A (n / 2 ^ k) PR) (fpw A (n / 2 ^ k) PR)) (ph (fpw A (n / 2 ^ k) PR) (fpw A (n / 2 ^ k) PR)) PR) = fpw A (n / 2 ^ (k - 1)) PR := fpw_double (by omega) hbt
      rw [hst] at H14
      show ∃ m, _ ∧ _
      exact ⟨_, (show k - 1 < k by omega), (k - 1), rfl, (by omega), H14, (Is.of ⟨(by kernel_rfl), (by kernel_rfl), (by kernel_rfl), (by kernel_rfl), (by kernel_rfl), (by kernel_rfl), (by kernel_rfl), (by kernel_rfl), (by kernel_rfl), (by kernel_rfl), (by kernel_rfl), (by kernel_rfl), (by kernel_rfl), trivial⟩)⟩
    · skip
      refine s_nil ?_
      refine g_cond_t (by kernel_rfl) (by kernel_rfl) ?_
      refine g_reg0 [0, 1, 2, 3, 4] (by kernel_rfl) ?_
      refine s_val (some 38) (.func (.func 64) #[] #[.pointer (some ⟨b4, 0, none⟩)]) (fun w => by kernel_rfl) (by kernel_rfl) ?_
      refine s_load H14 (some 39) 24 (.tmp 11) 0 b5 (Value.cells (uv (rs (pl (fpw A (n / 2 ^ k) PR) (fpw A (n / 2 ^ k) PR)) (ph (fpw A (n / 2 ^ k) PR) (fpw A (n / 2 ^ k) PR)) PR))) 24 (0, 0) (by kernel_rfl) (by kernel_rfl) (by kernel_rfl) (by kernel_rfl) (by kernel_rfl) ?_
      refine s_load H14 (some 40) 24 (.tmp 3) 4 b1 (Value.cells (uv A)) 24 (0, 0) (by kernel_rfl) (by kernel_rfl) (by kernel_rfl) (by kernel_rfl) (by kernel_rfl) ?_
      refine s_callP H14 (some 41) 64 #[uv (rs (pl (fpw A (n / 2 ^ k) PR) (fpw A (n / 2 ^ k) PR)) (ph (fpw A (n / 2 ^ k) PR) (fpw A (n / 2 ^ k) PR)) PR), uv A, .pointer (some ⟨b4, 0, none⟩)] (fun w => w.heap[b4]? = some (.cells (Value.cells (uv PR)) 24 (0, 0))) (uv (rs (pl (rs (pl (fpw A (n / 2 ^ k) PR) (fpw A (n / 2 ^ k) PR)) (ph (fpw A (n / 2 ^ k) PR) (fpw A (n / 2 ^ k) PR)) PR) A) (ph (rs (pl (fpw A (n / 2 ^ k) PR) (fpw A (n / 2 ^ k) PR)) (ph (fpw A (n / 2 ^ k) PR) (fpw A (n / 2 ^ k) PR)) PR) A) PR)) (times_fn (rs (pl (fpw A (n / 2 ^ k) PR) (fpw A (n / 2 ^ k) PR)) (ph (fpw A (n / 2 ^ k) PR) (fpw A (n / 2 ^ k) PR)) PR) A PR b4 (rs_lt pr_ok) hA pr_ok) (H14.get 1 (by kernel_rfl)) (fun w => by kernel_rfl) (by kernel_rfl) ?_
      intro w15 H15; clear H14
      refine s_store H15 0 [(b5, Obj.cells (Value.cells (uv (rs (pl (rs (pl (fpw A (n / 2 ^ k) PR) (fpw A (n / 2 ^ k) PR)) (ph (fpw A (n / 2 ^ k) PR) (fpw A (n / 2 ^ k) PR)) PR) A) (ph (rs (pl (fpw A (n / 2 ^ k) PR) (fpw A (n / 2 ^ k) PR)) (ph (fpw A (n / 2 ^ k) PR) (fpw A (n / 2 ^ k) PR)) PR) A) PR))) 24 (0, 0)), (b4, Obj.cells (Value.cells (uv PR)) 24 (0, 0)), (b3, Obj.cells #[.int .u64 0, .int .u64 0, .int .u64 0, .int .u64 0] 24 (0, 0)), (b2, Obj.cells (Value.cells (uv n)) 24 (0, 0)), (b1, Obj.cells (Value.cells (uv A)) 24 (0, 0))] 24 (.tmp 11) (.tmp 41) b5 0 (Value.cells (uv (rs (pl (fpw A (n / 2 ^ k) PR) (fpw A (n / 2 ^ k) PR)) (ph (fpw A (n / 2 ^ k) PR) (fpw A (n / 2 ^ k) PR)) PR))) (Value.cells (uv (rs (pl (rs (pl (fpw A (n / 2 ^ k) PR) (fpw A (n / 2 ^ k) PR)) (ph (fpw A (n / 2 ^ k) PR) (fpw A (n / 2 ^ k) PR)) PR) A) (ph (rs (pl (fpw A (n / 2 ^ k) PR) (fpw A (n / 2 ^ k) PR)) (ph (fpw A (n / 2 ^ k) PR) (fpw A (n / 2 ^ k) PR)) PR) A) PR))) 24 (uv (rs (pl (rs (pl (fpw A (n / 2 ^ k) PR) (fpw A (n / 2 ^ k) PR)) (ph (fpw A (n / 2 ^ k) PR) (fpw A (n / 2 ^ k) PR)) PR) A) (ph (rs (pl (fpw A (n / 2 ^ k) PR) (fpw A (n / 2 ^ k) PR)) (ph (fpw A (n / 2 ^ k) PR) (fpw A (n / 2 ^ k) PR)) PR) A) PR)) (by kernel_rfl) (by kernel_rfl) (by kernel_rfl) (by kernel_rfl) (by kernel_rfl) (by kernel_rfl) (of_decide_eq_true (by kernel_rfl)) (by kernel_rfl) (by kernel_rfl) ?_
      intro w16 H16; clear H15
      refine s_nil ?_
      show WP _ _ _ _ _ _
      refine g_reg0 [0, 1, 2] (by kernel_rfl) ?_
      refine s_val (some 29) (.int .i64 ((k : Int) - 1)) (fun w => by kernel_rfl) (by kernel_rfl) ?_
      refine s_valE (some 30) (.int .i64 (IntKind.i64.wrap (((k : Int) - 1) - 1))) (.int .i64 (((k - 1 : Nat) : Int) - 1)) (fun w => by kernel_rfl) (int_eq (by rw [wrap_i64 (by omega) (by omega)]; omega)) (by kernel_rfl) ?_
      refine s_val (some 12) (.int .i64 (((k - 1 : Nat) : Int) - 1)) (fun w => by kernel_rfl) (by kernel_rfl) ?_
      refine s_nil ?_
      rw [bt_nat (by omega)] at hbt
      have hst : (rs (pl (rs (pl (fpw A (n / 2 ^ k) PR) (fpw A (n / 2 ^ k) PR)) (ph (fpw A (n / 2 ^ k) PR) (fpw A (n / 2 ^ k) PR)) PR) A) (ph (rs (pl (fpw A (n / 2 ^ k) PR) (fpw A (n / 2 ^ k) PR)) (ph (fpw A (n / 2 ^ k) PR) (fpw A (n / 2 ^ k) PR)) PR) A) PR) = fpw A (n / 2 ^ (k - 1)) PR := fpw_odd (by omega) hbt
      rw [hst] at H16
      show ∃ m, _ ∧ _
      exact ⟨_, (show k - 1 < k by omega), (k - 1), rfl, (by omega), H16, (Is.of ⟨(by kernel_rfl), (by kernel_rfl), (by kernel_rfl), (by kernel_rfl), (by kernel_rfl), (by kernel_rfl), (by kernel_rfl), (by kernel_rfl), (by kernel_rfl), (by kernel_rfl), (by kernel_rfl), (by kernel_rfl), (by kernel_rfl), trivial⟩)⟩
  · skip
    refine s_valE (some 28) (.bool (decide (0 ≤ (k : Int) - 1))) (.bool false) (fun w => by kernel_rfl) (bool_eq (decide_eq_false (by omega))) (by kernel_rfl) ?_
    obtain rfl : k = 0 := by omega
    refine s_nil ?_
    refine g_cond_f (by kernel_rfl) (by kernel_rfl) ?_
    refine g_exit 0 (by kernel_rfl) ?_
    show WP _ _ _ _ _ _
    refine g_sreg [0, 1, 2] (by kernel_rfl) (by kernel_rfl) ?_
    refine s_load H11 (some 42) 24 (.tmp 11) 0 b5 (Value.cells (uv (fpw A (n / 2 ^ 0) PR))) 24 (0, 0) (by kernel_rfl) (by kernel_rfl) (by kernel_rfl) (by kernel_rfl) (by kernel_rfl) ?_
    refine s_store H11 2 [(b5, Obj.cells (Value.cells (uv (fpw A (n / 2 ^ 0) PR))) 24 (0, 0)), (b4, Obj.cells (Value.cells (uv PR)) 24 (0, 0)), (b3, Obj.cells (Value.cells (uv (fpw A (n / 2 ^ 0) PR))) 24 (0, 0)), (b2, Obj.cells (Value.cells (uv n)) 24 (0, 0)), (b1, Obj.cells (Value.cells (uv A)) 24 (0, 0))] 24 (.tmp 6) (.tmp 42) b3 0 #[.int .u64 0, .int .u64 0, .int .u64 0, .int .u64 0] (Value.cells (uv (fpw A (n / 2 ^ 0) PR))) 24 (uv (fpw A (n / 2 ^ 0) PR)) (by kernel_rfl) (by kernel_rfl) (by kernel_rfl) (by kernel_rfl) (by kernel_rfl) (by kernel_rfl) (of_decide_eq_true (by kernel_rfl)) (by kernel_rfl) (by kernel_rfl) ?_
    intro w17 H17; clear H11
    refine s_val (some 7) (.int .i64 0) (fun w => by kernel_rfl) (by kernel_rfl) ?_
    refine s_nil ?_
    refine g_ret (by kernel_rfl) ?_
    show ∃ vs, Res _ _ _ _ vs ∧ _
    refine ⟨[uv (fpw A (n / 2 ^ 0) PR), .int .i64 0], (.agg (b := b3) (Value.cells (uv (fpw A (n / 2 ^ 0) PR))) 24 (0, 0) (by kernel_rfl) (H17.get 2 (by kernel_rfl)) (by kernel_rfl) (.tmp (.int .i64 0) (by kernel_rfl) .nil)), ?_, H17.below⟩
    exact congrArg (fun q => Value.tuple #[uv (fpw A q PR), .int .i64 0]) (Nat.div_one n)

set_option maxRecDepth 100000 in
theorem pow1_fn (A n : Nat) (hA : A < big) (hn : n < big) : Fn Try.prog 49 #[uv A, uv n, .int .i64 1] (.tuple #[uv (fpw A n NR), .int .i64 0]) := by
  refine Fn.intro (c := codeOf Try.f49) [.cell 6 24, .tmp 7] 43 Try.func49 (by kernel_rfl) (by kernel_rfl) (by kernel_rfl) fun w => ?_
  have H0 := St.start w
  refine g_sreg [0, 1, 2, 3] (by kernel_rfl) (by kernel_rfl) ?_
  refine s_box H0 (some 3) 24 (.tmp 0) (uv A) (by kernel_rfl) (by kernel_rfl) (by kernel_rfl) ?_
  intro b1 w1 H1; clear H0
  refine s_box H1 (some 4) 24 (.tmp 1) (uv n) (by kernel_rfl) (by kernel_rfl) (by kernel_rfl) ?_
  intro b2 w2 H2; clear H1
  refine s_alloc H2 (some 6) 24 (.agg #[.int .u64 0, .int .u64 0, .int .u64 0, .int .u64 0]) (by kernel_rfl) (by kernel_rfl) (by kernel_rfl) ?_
  intro b3 w3 H3; clear H2
  refine s_val (some 7) (.int .i64 0) (fun w => by kernel_rfl) (by kernel_rfl) ?_
  refine s_nil ?_
  refine g_sreg [0, 1, 2, 3, 4, 5, 6, 7] (by kernel_rfl) (by kernel_rfl) ?_
  refine s_val (some 14) (.int .i64 1) (fun w => by kernel_rfl) (by kernel_rfl) ?_
  refine s_call H3 (some 15) 38 #[.int .i64 1] (.tuple #[uv NR, .int .i64 0]) prime1_fn (fun w => by kernel_rfl) (by kernel_rfl) ?_
  intro w4 H4; clear H3
  refine s_val (some 13) (.tuple #[uv NR, .int .i64 0]) (fun w => by kernel_rfl) (by kernel_rfl) ?_
  refine s_val (some 16) (uv NR) (fun w => by kernel_rfl) (by kernel_rfl) ?_
  refine s_val (some 17) (.int .i64 0) (fun w => by kernel_rfl) (by kernel_rfl) ?_
  refine s_alloc H4 (some 8) 24 (.agg #[.int .u64 0, .int .u64 0, .int .u64 0, .int .u64 0]) (by kernel_rfl) (by kernel_rfl) (by kernel_rfl) ?_
  intro b4 w5 H5; clear H4
  refine s_store H5 0 [(b4, Obj.cells (Value.cells (uv NR)) 24 (0, 0)), (b3, Obj.cells #[.int .u64 0, .int .u64 0, .int .u64 0, .int .u64 0] 24 (0, 0)), (b2, Obj.cells (Value.cells (uv n)) 24 (0, 0)), (b1, Obj.cells (Value.cells (uv A)) 24 (0, 0))] 24 (.tmp 8) (.tmp 16) b4 0 #[.int .u64 0, .int .u64 0, .int .u64 0, .int .u64 0] (Value.cells (uv NR)) 24 (uv NR) (by kernel_rfl) (by kernel_rfl) (by kernel_rfl) (by kernel_rfl) (by kernel_rfl) (by kernel_rfl) (of_decide_eq_true (by kernel_rfl)) (by kernel_rfl) (by kernel_rfl) ?_
  intro w6 H6; clear H5
  refine s_val (some 9) (.int .i64 0) (fun w => by kernel_rfl) (by kernel_rfl) ?_
  refine s_nil ?_
  refine g_seq (by kernel_rfl) ?_
  refine g_sreg [0, 1] (by kernel_rfl) (by kernel_rfl) ?_
  refine s_val (some 18) (.int .i64 0) (fun w => by kernel_rfl) (by kernel_rfl) ?_
  refine s_val (some 19) (.bool false) (fun w => by kernel_rfl) (by kernel_rfl) ?_
  refine s_nil ?_
  refine g_cond_f (by kernel_rfl) (by kernel_rfl) ?_
  refine g_skip (by kernel_rfl) ?_
  show WP _ _ _ _ _ _
  refine g_sreg [0, 1] (by kernel_rfl) (by kernel_rfl) ?_
  refine s_val (some 22) (.func (.func 64) #[] #[.pointer (some ⟨b4, 0, none⟩)]) (fun w => by kernel_rfl) (by kernel_rfl) ?_
  refine s_val (some 10) (.func (.func 64) #[] #[.pointer (some ⟨b4, 0, none⟩)]) (fun w => by kernel_rfl) (by kernel_rfl) ?_
  refine s_nil ?_
  refine g_sreg [0, 1, 2] (by kernel_rfl) (by kernel_rfl) ?_
  refine s_call H6 (some 23) 36 #[.int .u64 1] (uv 1) (small_fn 1 (by omega)) (fun w => by kernel_rfl) (by kernel_rfl) ?_
  intro w7 H7; clear H6
  refine s_alloc H7 (some 11) 24 (.agg #[.int .u64 0, .int .u64 0, .int .u64 0, .int .u64 0]) (by kernel_rfl) (by kernel_rfl) (by kernel_rfl) ?_
  intro b5 w8 H8; clear H7
  refine s_store H8 0 [(b5, Obj.cells (Value.cells (uv 1)) 24 (0, 0)), (b4, Obj.cells (Value.cells (uv NR)) 24 (0, 0)), (b3, Obj.cells #[.int .u64 0, .int .u64 0, .int .u64 0, .int .u64 0] 24 (0, 0)), (b2, Obj.cells (Value.cells (uv n)) 24 (0, 0)), (b1, Obj.cells (Value.cells (uv A)) 24 (0, 0))] 24 (.tmp 11) (.tmp 23) b5 0 #[.int .u64 0, .int .u64 0, .int .u64 0, .int .u64 0] (Value.cells (uv 1)) 24 (uv 1) (by kernel_rfl) (by kernel_rfl) (by kernel_rfl) (by kernel_rfl) (by kernel_rfl) (by kernel_rfl) (of_decide_eq_true (by kernel_rfl)) (by kernel_rfl) (by kernel_rfl) ?_
  intro w9 H9; clear H8
  refine s_nil ?_
  refine g_seq (by kernel_rfl) ?_
  refine g_sreg [0, 1, 2, 3] (by kernel_rfl) (by kernel_rfl) ?_
  refine s_load H9 (some 24) 24 (.tmp 4) 3 b2 (Value.cells (uv n)) 24 (0, 0) (by kernel_rfl) (by kernel_rfl) (by kernel_rfl) (by kernel_rfl) (by kernel_rfl) ?_
  refine s_call H9 (some 25) 33 #[uv n] (.int .i64 (len n : Int)) (len_fn n hn) (fun w => by kernel_rfl) (by kernel_rfl) ?_
  intro w10 H10; clear H9
  refine s_valE (some 26) (.int .i64 (IntKind.i64.wrap ((len n : Int) - 1))) (.int .i64 ((len n : Int) - 1)) (fun w => by kernel_rfl) (int_eq (by rw [wrap_i64] <;> (have := len_le hn; omega))) (by kernel_rfl) ?_
  refine s_val (some 12) (.int .i64 ((len n : Int) - 1)) (fun w => by kernel_rfl) (by kernel_rfl) ?_
  refine s_nil ?_
  refine g_block 0 (by kernel_rfl) ?_
  have hst : uv 1 = uv (fpw A (n / 2 ^ len n) NR) := congrArg uv (fpw_start nr_ok (lt_two_pow_len n))
  rw [hst] at H10
  refine g_loop (by kernel_rfl) (fun m ρ x => ∃ (k : Nat), k = m ∧ (k ≤ 256) ∧ St w.heap.size w x [(b5, Obj.cells (Value.cells (uv (fpw A (n / 2 ^ k) NR))) 24 (0, 0)), (b4, Obj.cells (Value.cells (uv NR)) 24 (0, 0)), (b3, Obj.cells #[.int .u64 0, .int .u64 0, .int .u64 0, .int .u64 0] 24 (0, 0)), (b2, Obj.cells (Value.cells (uv n)) 24 (0, 0)), (b1, Obj.cells (Value.cells (uv A)) 24 (0, 0))] ∧ Is [(0, uv A), (1, uv n), (2, .int .i64 1), (3, .pointer (some ⟨b1, 0, none⟩)), (4, .pointer (some ⟨b2, 0, none⟩)), (6, .pointer (some ⟨b3, 0, none⟩)), (7, .int .i64 0), (8, .pointer (some ⟨b4, 0, none⟩)), (9, .int .i64 0), (10, .func (.func 64) #[] #[.pointer (some ⟨b4, 0, none⟩)]), (11, .pointer (some ⟨b5, 0, none⟩)), (12, .int .i64 ((k : Int) - 1)), (19, .bool false)] ρ) (len n) ⟨(len n), rfl, (len_le hn), H10, (Is.of ⟨(by kernel_rfl), (by kernel_rfl), (by kernel_rfl), (by kernel_rfl), (by kernel_rfl), (by kernel_rfl), (by kernel_rfl), (by kernel_rfl), (by kernel_rfl), (by kernel_rfl), (by kernel_rfl), (by kernel_rfl), (by kernel_rfl), trivial⟩)⟩ ?_
  clear H10
  rintro _ _ w11 ⟨k, rfl, hk, H11, _, rfl⟩
  refine g_seq (by kernel_rfl) ?_
  refine g_sreg [0, 1] (by kernel_rfl) (by kernel_rfl) ?_
  refine s_val (some 27) (.int .i64 ((k : Int) - 1)) (fun w => by kernel_rfl) (by kernel_rfl) ?_
  by_cases hc : 1 ≤ k
  · skip
    refine s_valE (some 28) (.bool (decide (0 ≤ (k : Int) - 1))) (.bool true) (fun w => by kernel_rfl) (bool_eq (decide_eq_true (by omega))) (by kernel_rfl) ?_
    refine s_nil ?_
    refine g_cond_t (by kernel_rfl) (by kernel_rfl) ?_
    refine g_skip (by kernel_rfl) ?_
    show WP _ _ _ _ _ _
    refine g_seq (by kernel_rfl) ?_
    refine g_block 1 (by kernel_rfl) ?_
    refine g_sreg [0, 1, 2, 3, 4] (by kernel_rfl) (by kernel_rfl) ?_
    refine s_val (some 31) (.func (.func 64) #[] #[.pointer (some ⟨b4, 0, none⟩)]) (fun w => by kernel_rfl) (by kernel_rfl) ?_
    refine s_load H11 (some 32) 24 (.tmp 11) 0 b5 (Value.cells (uv (fpw A (n / 2 ^ k) NR))) 24 (0, 0) (by kernel_rfl) (by kernel_rfl) (by kernel_rfl) (by kernel_rfl) (by kernel_rfl) ?_
    refine s_load H11 (some 33) 24 (.tmp 11) 0 b5 (Value.cells (uv (fpw A (n / 2 ^ k) NR))) 24 (0, 0) (by kernel_rfl) (by kernel_rfl) (by kernel_rfl) (by kernel_rfl) (by kernel_rfl) ?_
    refine s_callP H11 (some 34) 64 #[uv (fpw A (n / 2 ^ k) NR), uv (fpw A (n / 2 ^ k) NR), .pointer (some ⟨b4, 0, none⟩)] (fun w => w.heap[b4]? = some (.cells (Value.cells (uv NR)) 24 (0, 0))) (uv (rs (pl (fpw A (n / 2 ^ k) NR) (fpw A (n / 2 ^ k) NR)) (ph (fpw A (n / 2 ^ k) NR) (fpw A (n / 2 ^ k) NR)) NR)) (times_fn (fpw A (n / 2 ^ k) NR) (fpw A (n / 2 ^ k) NR) NR b4 (fpw_lt nr_ok) (fpw_lt nr_ok) nr_ok) (H11.get 1 (by kernel_rfl)) (fun w => by kernel_rfl) (by kernel_rfl) ?_
    intro w12 H12; clear H11
    refine s_store H12 0 [(b5, Obj.cells (Value.cells (uv (rs (pl (fpw A (n / 2 ^ k) NR) (fpw A (n / 2 ^ k) NR)) (ph (fpw A (n / 2 ^ k) NR) (fpw A (n / 2 ^ k) NR)) NR))) 24 (0, 0)), (b4, Obj.cells (Value.cells (uv NR)) 24 (0, 0)), (b3, Obj.cells #[.int .u64 0, .int .u64 0, .int .u64 0, .int .u64 0] 24 (0, 0)), (b2, Obj.cells (Value.cells (uv n)) 24 (0, 0)), (b1, Obj.cells (Value.cells (uv A)) 24 (0, 0))] 24 (.tmp 11) (.tmp 34) b5 0 (Value.cells (uv (fpw A (n / 2 ^ k) NR))) (Value.cells (uv (rs (pl (fpw A (n / 2 ^ k) NR) (fpw A (n / 2 ^ k) NR)) (ph (fpw A (n / 2 ^ k) NR) (fpw A (n / 2 ^ k) NR)) NR))) 24 (uv (rs (pl (fpw A (n / 2 ^ k) NR) (fpw A (n / 2 ^ k) NR)) (ph (fpw A (n / 2 ^ k) NR) (fpw A (n / 2 ^ k) NR)) NR)) (by kernel_rfl) (by kernel_rfl) (by kernel_rfl) (by kernel_rfl) (by kernel_rfl) (by kernel_rfl) (of_decide_eq_true (by kernel_rfl)) (by kernel_rfl) (by kernel_rfl) ?_
    intro w13 H13; clear H12
    refine s_nil ?_
    refine g_sreg [0, 1, 2] (by kernel_rfl) (by kernel_rfl) ?_
    refine s_load H13 (some 35) 24 (.tmp 4) 3 b2 (Value.cells (uv n)) 24 (0, 0) (by kernel_rfl) (by kernel_rfl) (by kernel_rfl) (by kernel_rfl) (by kernel_rfl) ?_
    refine s_valE (some 36) (.int .i64 ((k : Int) - 1)) (.int .i64 ((k - 1 : Nat) : Int)) (fun w => by kernel_rfl) (int_eq (by omega)) (by kernel_rfl) ?_
    refine s_call H13 (some 37) 35 #[uv n, .int .i64 ((k - 1 : Nat) : Int)] (.bool (bt n ((k - 1 : Nat) : Int))) (bit_fn n ((k - 1 : Nat) : Int)) (fun w => by kernel_rfl) (by kernel_rfl) ?_
    intro w14 H14; clear H13
    cases hbt : bt n ((k - 1 : Nat) : Int)
    · skip
      refine s_nil ?_
      refine g_cond_f (by kernel_rfl) (by kernel_rfl) ?_
      refine g_skip (by kernel_rfl) ?_
      show WP _ _ _ _ _ _
      refine g_reg0 [0, 1, 2] (by kernel_rfl) ?_
      refine s_val (some 29) (.int .i64 ((k : Int) - 1)) (fun w => by kernel_rfl) (by kernel_rfl) ?_
      refine s_valE (some 30) (.int .i64 (IntKind.i64.wrap (((k : Int) - 1) - 1))) (.int .i64 (((k - 1 : Nat) : Int) - 1)) (fun w => by kernel_rfl) (int_eq (by rw [wrap_i64 (by omega) (by omega)]; omega)) (by kernel_rfl) ?_
      refine s_val (some 12) (.int .i64 (((k - 1 : Nat) : Int) - 1)) (fun w => by kernel_rfl) (by kernel_rfl) ?_
      refine s_nil ?_
      rw [bt_nat (by omega)] at hbt
      have hst : (rs (pl (fpw A (n / 2 ^ k) NR) (fpw A (n / 2 ^ k) NR)) (ph (fpw A (n / 2 ^ k) NR) (fpw A (n / 2 ^ k) NR)) NR) = fpw A (n / 2 ^ (k - 1)) NR := fpw_double (by omega) hbt
      rw [hst] at H14
      show ∃ m, _ ∧ _
      exact ⟨_, (show k - 1 < k by omega), (k - 1), rfl, (by omega), H14, (Is.of ⟨(by kernel_rfl), (by kernel_rfl), (by kernel_rfl), (by kernel_rfl), (by kernel_rfl), (by kernel_rfl), (by kernel_rfl), (by kernel_rfl), (by kernel_rfl), (by kernel_rfl), (by kernel_rfl), (by kernel_rfl), (by kernel_rfl), trivial⟩)⟩
    · skip
      refine s_nil ?_
      refine g_cond_t (by kernel_rfl) (by kernel_rfl) ?_
      refine g_reg0 [0, 1, 2, 3, 4] (by kernel_rfl) ?_
      refine s_val (some 38) (.func (.func 64) #[] #[.pointer (some ⟨b4, 0, none⟩)]) (fun w => by kernel_rfl) (by kernel_rfl) ?_
      refine s_load H14 (some 39) 24 (.tmp 11) 0 b5 (Value.cells (uv (rs (pl (fpw A (n / 2 ^ k) NR) (fpw A (n / 2 ^ k) NR)) (ph (fpw A (n / 2 ^ k) NR) (fpw A (n / 2 ^ k) NR)) NR))) 24 (0, 0) (by kernel_rfl) (by kernel_rfl) (by kernel_rfl) (by kernel_rfl) (by kernel_rfl) ?_
      refine s_load H14 (some 40) 24 (.tmp 3) 4 b1 (Value.cells (uv A)) 24 (0, 0) (by kernel_rfl) (by kernel_rfl) (by kernel_rfl) (by kernel_rfl) (by kernel_rfl) ?_
      refine s_callP H14 (some 41) 64 #[uv (rs (pl (fpw A (n / 2 ^ k) NR) (fpw A (n / 2 ^ k) NR)) (ph (fpw A (n / 2 ^ k) NR) (fpw A (n / 2 ^ k) NR)) NR), uv A, .pointer (some ⟨b4, 0, none⟩)] (fun w => w.heap[b4]? = some (.cells (Value.cells (uv NR)) 24 (0, 0))) (uv (rs (pl (rs (pl (fpw A (n / 2 ^ k) NR) (fpw A (n / 2 ^ k) NR)) (ph (fpw A (n / 2 ^ k) NR) (fpw A (n / 2 ^ k) NR)) NR) A) (ph (rs (pl (fpw A (n / 2 ^ k) NR) (fpw A (n / 2 ^ k) NR)) (ph (fpw A (n / 2 ^ k) NR) (fpw A (n / 2 ^ k) NR)) NR) A) NR)) (times_fn (rs (pl (fpw A (n / 2 ^ k) NR) (fpw A (n / 2 ^ k) NR)) (ph (fpw A (n / 2 ^ k) NR) (fpw A (n / 2 ^ k) NR)) NR) A NR b4 (rs_lt nr_ok) hA nr_ok) (H14.get 1 (by kernel_rfl)) (fun w => by kernel_rfl) (by kernel_rfl) ?_
      intro w15 H15; clear H14
      refine s_store H15 0 [(b5, Obj.cells (Value.cells (uv (rs (pl (rs (pl (fpw A (n / 2 ^ k) NR) (fpw A (n / 2 ^ k) NR)) (ph (fpw A (n / 2 ^ k) NR) (fpw A (n / 2 ^ k) NR)) NR) A) (ph (rs (pl (fpw A (n / 2 ^ k) NR) (fpw A (n / 2 ^ k) NR)) (ph (fpw A (n / 2 ^ k) NR) (fpw A (n / 2 ^ k) NR)) NR) A) NR))) 24 (0, 0)), (b4, Obj.cells (Value.cells (uv NR)) 24 (0, 0)), (b3, Obj.cells #[.int .u64 0, .int .u64 0, .int .u64 0, .int .u64 0] 24 (0, 0)), (b2, Obj.cells (Value.cells (uv n)) 24 (0, 0)), (b1, Obj.cells (Value.cells (uv A)) 24 (0, 0))] 24 (.tmp 11) (.tmp 41) b5 0 (Value.cells (uv (rs (pl (fpw A (n / 2 ^ k) NR) (fpw A (n / 2 ^ k) NR)) (ph (fpw A (n / 2 ^ k) NR) (fpw A (n / 2 ^ k) NR)) NR))) (Value.cells (uv (rs (pl (rs (pl (fpw A (n / 2 ^ k) NR) (fpw A (n / 2 ^ k) NR)) (ph (fpw A (n / 2 ^ k) NR) (fpw A (n / 2 ^ k) NR)) NR) A) (ph (rs (pl (fpw A (n / 2 ^ k) NR) (fpw A (n / 2 ^ k) NR)) (ph (fpw A (n / 2 ^ k) NR) (fpw A (n / 2 ^ k) NR)) NR) A) NR))) 24 (uv (rs (pl (rs (pl (fpw A (n / 2 ^ k) NR) (fpw A (n / 2 ^ k) NR)) (ph (fpw A (n / 2 ^ k) NR) (fpw A (n / 2 ^ k) NR)) NR) A) (ph (rs (pl (fpw A (n / 2 ^ k) NR) (fpw A (n / 2 ^ k) NR)) (ph (fpw A (n / 2 ^ k) NR) (fpw A (n / 2 ^ k) NR)) NR) A) NR)) (by kernel_rfl) (by kernel_rfl) (by kernel_rfl) (by kernel_rfl) (by kernel_rfl) (by kernel_rfl) (of_decide_eq_true (by kernel_rfl)) (by kernel_rfl) (by kernel_rfl) ?_
      intro w16 H16; clear H15
      refine s_nil ?_
      show WP _ _ _ _ _ _
      refine g_reg0 [0, 1, 2] (by kernel_rfl) ?_
      refine s_val (some 29) (.int .i64 ((k : Int) - 1)) (fun w => by kernel_rfl) (by kernel_rfl) ?_
      refine s_valE (some 30) (.int .i64 (IntKind.i64.wrap (((k : Int) - 1) - 1))) (.int .i64 (((k - 1 : Nat) : Int) - 1)) (fun w => by kernel_rfl) (int_eq (by rw [wrap_i64 (by omega) (by omega)]; omega)) (by kernel_rfl) ?_
      refine s_val (some 12) (.int .i64 (((k - 1 : Nat) : Int) - 1)) (fun w => by kernel_rfl) (by kernel_rfl) ?_
      refine s_nil ?_
      rw [bt_nat (by omega)] at hbt
      have hst : (rs (pl (rs (pl (fpw A (n / 2 ^ k) NR) (fpw A (n / 2 ^ k) NR)) (ph (fpw A (n / 2 ^ k) NR) (fpw A (n / 2 ^ k) NR)) NR) A) (ph (rs (pl (fpw A (n / 2 ^ k) NR) (fpw A (n / 2 ^ k) NR)) (ph (fpw A (n / 2 ^ k) NR) (fpw A (n / 2 ^ k) NR)) NR) A) NR) = fpw A (n / 2 ^ (k - 1)) NR := fpw_odd (by omega) hbt
      rw [hst] at H16
      show ∃ m, _ ∧ _
      exact ⟨_, (show k - 1 < k by omega), (k - 1), rfl, (by omega), H16, (Is.of ⟨(by kernel_rfl), (by kernel_rfl), (by kernel_rfl), (by kernel_rfl), (by kernel_rfl), (by kernel_rfl), (by kernel_rfl), (by kernel_rfl), (by kernel_rfl), (by kernel_rfl), (by kernel_rfl), (by kernel_rfl), (by kernel_rfl), trivial⟩)⟩
  · skip
    refine s_valE (some 28) (.bool (decide (0 ≤ (k : Int) - 1))) (.bool false) (fun w => by kernel_rfl) (bool_eq (decide_eq_false (by omega))) (by kernel_rfl) ?_
    obtain rfl : k = 0 := by omega
    refine s_nil ?_
    refine g_cond_f (by kernel_rfl) (by kernel_rfl) ?_
    refine g_exit 0 (by kernel_rfl) ?_
    show WP _ _ _ _ _ _
    refine g_sreg [0, 1, 2] (by kernel_rfl) (by kernel_rfl) ?_
    refine s_load H11 (some 42) 24 (.tmp 11) 0 b5 (Value.cells (uv (fpw A (n / 2 ^ 0) NR))) 24 (0, 0) (by kernel_rfl) (by kernel_rfl) (by kernel_rfl) (by kernel_rfl) (by kernel_rfl) ?_
    refine s_store H11 2 [(b5, Obj.cells (Value.cells (uv (fpw A (n / 2 ^ 0) NR))) 24 (0, 0)), (b4, Obj.cells (Value.cells (uv NR)) 24 (0, 0)), (b3, Obj.cells (Value.cells (uv (fpw A (n / 2 ^ 0) NR))) 24 (0, 0)), (b2, Obj.cells (Value.cells (uv n)) 24 (0, 0)), (b1, Obj.cells (Value.cells (uv A)) 24 (0, 0))] 24 (.tmp 6) (.tmp 42) b3 0 #[.int .u64 0, .int .u64 0, .int .u64 0, .int .u64 0] (Value.cells (uv (fpw A (n / 2 ^ 0) NR))) 24 (uv (fpw A (n / 2 ^ 0) NR)) (by kernel_rfl) (by kernel_rfl) (by kernel_rfl) (by kernel_rfl) (by kernel_rfl) (by kernel_rfl) (of_decide_eq_true (by kernel_rfl)) (by kernel_rfl) (by kernel_rfl) ?_
    intro w17 H17; clear H11
    refine s_val (some 7) (.int .i64 0) (fun w => by kernel_rfl) (by kernel_rfl) ?_
    refine s_nil ?_
    refine g_ret (by kernel_rfl) ?_
    show ∃ vs, Res _ _ _ _ vs ∧ _
    refine ⟨[uv (fpw A (n / 2 ^ 0) NR), .int .i64 0], (.agg (b := b3) (Value.cells (uv (fpw A (n / 2 ^ 0) NR))) 24 (0, 0) (by kernel_rfl) (H17.get 2 (by kernel_rfl)) (by kernel_rfl) (.tmp (.int .i64 0) (by kernel_rfl) .nil)), ?_, H17.below⟩
    exact congrArg (fun q => Value.tuple #[uv (fpw A q NR), .int .i64 0]) (Nat.div_one n)

set_option maxRecDepth 100000 in
theorem powNo_fn (A B : Nat) (hA : A < big) (hB : B < big) (n : Int) (h0 : n ≠ 0) (h1 : n ≠ 1) : Fn Try.prog 49 #[uv A, uv B, .int .i64 n] (.tuple #[.agg #[.int .u64 0, .int .u64 0, .int .u64 0, .int .u64 0], .int .i64 1]) := by
  refine Fn.intro (c := codeOf Try.f49) [.cell 6 24, .tmp 7] 43 Try.func49 (by kernel_rfl) (by kernel_rfl) (by kernel_rfl) fun w => ?_
  have H0 := St.start w
  refine g_sreg [0, 1, 2, 3] (by kernel_rfl) (by kernel_rfl) ?_
  refine s_box H0 (some 3) 24 (.tmp 0) (uv A) (by kernel_rfl) (by kernel_rfl) (by kernel_rfl) ?_
  intro b1 w1 H1; clear H0
  refine s_box H1 (some 4) 24 (.tmp 1) (uv B) (by kernel_rfl) (by kernel_rfl) (by kernel_rfl) ?_
  intro b2 w2 H2; clear H1
  refine s_alloc H2 (some 6) 24 (.agg #[.int .u64 0, .int .u64 0, .int .u64 0, .int .u64 0]) (by kernel_rfl) (by kernel_rfl) (by kernel_rfl) ?_
  intro b3 w3 H3; clear H2
  refine s_val (some 7) (.int .i64 0) (fun w => by kernel_rfl) (by kernel_rfl) ?_
  refine s_nil ?_
  refine g_sreg [0, 1, 2, 3, 4, 5, 6, 7] (by kernel_rfl) (by kernel_rfl) ?_
  refine s_val (some 14) (.int .i64 n) (fun w => by kernel_rfl) (by kernel_rfl) ?_
  refine s_call H3 (some 15) 38 #[.int .i64 n] (.tuple #[.agg #[.int .u64 0, .int .u64 0, .int .u64 0, .int .u64 0], .int .i64 1]) (primeNo_fn n h0 h1) (fun w => by kernel_rfl) (by kernel_rfl) ?_
  intro w4 H4; clear H3
  refine s_val (some 13) (.tuple #[.agg #[.int .u64 0, .int .u64 0, .int .u64 0, .int .u64 0], .int .i64 1]) (fun w => by kernel_rfl) (by kernel_rfl) ?_
  refine s_val (some 16) (.agg #[.int .u64 0, .int .u64 0, .int .u64 0, .int .u64 0]) (fun w => by kernel_rfl) (by kernel_rfl) ?_
  refine s_val (some 17) (.int .i64 1) (fun w => by kernel_rfl) (by kernel_rfl) ?_
  refine s_alloc H4 (some 8) 24 (.agg #[.int .u64 0, .int .u64 0, .int .u64 0, .int .u64 0]) (by kernel_rfl) (by kernel_rfl) (by kernel_rfl) ?_
  intro b4 w5 H5; clear H4
  refine s_store H5 0 [(b4, Obj.cells #[.int .u64 0, .int .u64 0, .int .u64 0, .int .u64 0] 24 (0, 0)), (b3, Obj.cells #[.int .u64 0, .int .u64 0, .int .u64 0, .int .u64 0] 24 (0, 0)), (b2, Obj.cells (Value.cells (uv B)) 24 (0, 0)), (b1, Obj.cells (Value.cells (uv A)) 24 (0, 0))] 24 (.tmp 8) (.tmp 16) b4 0 #[.int .u64 0, .int .u64 0, .int .u64 0, .int .u64 0] #[.int .u64 0, .int .u64 0, .int .u64 0, .int .u64 0] 24 (.agg #[.int .u64 0, .int .u64 0, .int .u64 0, .int .u64 0]) (by kernel_rfl) (by kernel_rfl) (by kernel_rfl) (by kernel_rfl) (by kernel_rfl) (by kernel_rfl) (of_decide_eq_true (by kernel_rfl)) (by kernel_rfl) (by kernel_rfl) ?_
  intro w6 H6; clear H5
  refine s_val (some 9) (.int .i64 1) (fun w => by kernel_rfl) (by kernel_rfl) ?_
  refine s_nil ?_
  refine g_seq (by kernel_rfl) ?_
  refine g_sreg [0, 1] (by kernel_rfl) (by kernel_rfl) ?_
  refine s_val (some 18) (.int .i64 1) (fun w => by kernel_rfl) (by kernel_rfl) ?_
  refine s_val (some 19) (.bool true) (fun w => by kernel_rfl) (by kernel_rfl) ?_
  refine s_nil ?_
  refine g_cond_t (by kernel_rfl) (by kernel_rfl) ?_
  refine g_sreg [0, 1, 2, 3] (by kernel_rfl) (by kernel_rfl) ?_
  refine s_val (some 20) (.agg #[.int .u64 0, .int .u64 0, .int .u64 0, .int .u64 0]) (fun w => by kernel_rfl) (by kernel_rfl) ?_
  refine s_val (some 21) (.int .i64 1) (fun w => by kernel_rfl) (by kernel_rfl) ?_
  refine s_store H6 1 [(b4, Obj.cells #[.int .u64 0, .int .u64 0, .int .u64 0, .int .u64 0] 24 (0, 0)), (b3, Obj.cells #[.int .u64 0, .int .u64 0, .int .u64 0, .int .u64 0] 24 (0, 0)), (b2, Obj.cells (Value.cells (uv B)) 24 (0, 0)), (b1, Obj.cells (Value.cells (uv A)) 24 (0, 0))] 24 (.tmp 6) (.tmp 20) b3 0 #[.int .u64 0, .int .u64 0, .int .u64 0, .int .u64 0] #[.int .u64 0, .int .u64 0, .int .u64 0, .int .u64 0] 24 (.agg #[.int .u64 0, .int .u64 0, .int .u64 0, .int .u64 0]) (by kernel_rfl) (by kernel_rfl) (by kernel_rfl) (by kernel_rfl) (by kernel_rfl) (by kernel_rfl) (of_decide_eq_true (by kernel_rfl)) (by kernel_rfl) (by kernel_rfl) ?_
  intro w7 H7; clear H6
  refine s_val (some 7) (.int .i64 1) (fun w => by kernel_rfl) (by kernel_rfl) ?_
  refine s_nil ?_
  refine g_ret (by kernel_rfl) ?_
  show ∃ vs, Res _ _ _ _ vs ∧ _
  refine ⟨[.agg #[.int .u64 0, .int .u64 0, .int .u64 0, .int .u64 0], .int .i64 1], (.agg (b := b3) #[.int .u64 0, .int .u64 0, .int .u64 0, .int .u64 0] 24 (0, 0) (by kernel_rfl) (H7.get 1 (by kernel_rfl)) (by kernel_rfl) (.tmp (.int .i64 1) (by kernel_rfl) .nil)), ?_, H7.below⟩
  kernel_rfl
end Go.Proofs.Ytiiichlmmngbbaa
