/-
  Texts of the proof, part 3.
-/
import Derived.Test.YtmmloghbnpfedaaDoorSW2

namespace Go.Proofs.YtmmloghbnpfedaaDoor
open Go Go.RowKit
set_option linter.unusedVariables false
theorem bt_nat {A n : Nat} (h : n < 256) : bt A (n : Int) = A.testBit n := by unfold bt; simp; omega
set_option maxRecDepth 100000 in
theorem fsub0_fn (A B : Nat) (hA : A < big) (hB : B < big) : Fn Tryd.prog 80 #[uv A, uv B, .int .i64 0] (.tuple #[uv (fSub A B PR), .int .i64 0]) := by
  refine Fn.intro (c := codeOf Tryd.f80) [.cell 6 24, .tmp 7] 41 Tryd.func80 kr kr kr fun w => ?_
  have H0 := St.start w
  refine g_sreg [0, 1, 2, 3] kr kr ?_
  refine s_box H0 (some 3) 24 (.tmp 0) (uv A) kr kr kr ?_
  intro b1 w1 H1; clear H0
  refine s_box H1 (some 4) 24 (.tmp 1) (uv B) kr kr kr ?_
  intro b2 w2 H2; clear H1
  refine s_alloc H2 (some 6) 24 (.agg #[.int .u64 0, .int .u64 0, .int .u64 0, .int .u64 0]) kr kr kr ?_
  intro b3 w3 H3; clear H2
  refine s_val (some 7) (.int .i64 0) (fun w => by kernel_rfl) kr ?_
  refine s_nil ?_
  refine g_sreg [0, 1, 2, 3, 4, 5, 6, 7] kr kr ?_
  refine s_val (some 13) (.int .i64 0) (fun w => by kernel_rfl) kr ?_
  refine s_call H3 (some 14) 52 #[.int .i64 0] (.tuple #[uv PR, .int .i64 0]) prime0_fn (fun w => by kernel_rfl) kr ?_
  intro w4 H4; clear H3
  refine s_val (some 12) (.tuple #[uv PR, .int .i64 0]) (fun w => by kernel_rfl) kr ?_
  refine s_val (some 15) (uv PR) (fun w => by kernel_rfl) kr ?_
  refine s_val (some 16) (.int .i64 0) (fun w => by kernel_rfl) kr ?_
  refine s_alloc H4 (some 8) 24 (.agg #[.int .u64 0, .int .u64 0, .int .u64 0, .int .u64 0]) kr kr kr ?_
  intro b4 w5 H5; clear H4
  refine s_store H5 0 [(b4, Obj.cells (Value.cells (uv PR)) 24 (0, 0)), (b3, Obj.cells #[.int .u64 0, .int .u64 0, .int .u64 0, .int .u64 0] 24 (0, 0)), (b2, Obj.cells (Value.cells (uv B)) 24 (0, 0)), (b1, Obj.cells (Value.cells (uv A)) 24 (0, 0))] 24 (.tmp 8) (.tmp 15) b4 0 #[.int .u64 0, .int .u64 0, .int .u64 0, .int .u64 0] (Value.cells (uv PR)) 24 (uv PR) kr kr kr kr kr kr (of_decide_eq_true kr) kr kr ?_
  intro w6 H6; clear H5
  refine s_val (some 9) (.int .i64 0) (fun w => by kernel_rfl) kr ?_
  refine s_nil ?_
  refine g_seq kr ?_
  refine g_sreg [0, 1] kr kr ?_
  refine s_val (some 17) (.int .i64 0) (fun w => by kernel_rfl) kr ?_
  refine s_val (some 18) (.bool false) (fun w => by kernel_rfl) kr ?_
  refine s_nil ?_
  refine g_cond_f kr kr ?_
  refine g_skip kr ?_
  show WP _ _ _ _ _ _
  refine g_sdraw [0, 1, 2, 3, 4, 5, 6, 7, 8, 9, 10, 11, 12, 13, 14] [((some 22), fun _ => uv A), ((some 23), fun _ => .agg #[.int .u64 0, .int .u64 0, .int .u64 0, .int .u64 0]), ((some 24), fun _ => uv PR), ((some 25), fun _ => uv (rs A 0 PR)), ((some 26), fun _ => uv B), ((some 27), fun _ => .agg #[.int .u64 0, .int .u64 0, .int .u64 0, .int .u64 0]), ((some 28), fun _ => uv PR), ((some 29), fun _ => uv (rs B 0 PR)), ((some 30), fun _ => .tuple #[uv (df (rs A 0 PR) (rs B 0 PR)), .bool (lo (rs A 0 PR) (rs B 0 PR))]), ((some 21), fun _ => .tuple #[uv (df (rs A 0 PR) (rs B 0 PR)), .bool (lo (rs A 0 PR) (rs B 0 PR))]), ((some 31), fun _ => uv (df (rs A 0 PR) (rs B 0 PR))), ((some 32), fun _ => .bool (lo (rs A 0 PR) (rs B 0 PR))), ((some 10), fun b => .pointer (some ⟨b, 0, none⟩)), (none, fun _ => undef), ((some 11), fun _ => .bool (lo (rs A 0 PR) (rs B 0 PR)))] (fun L g x => St w.heap.size w x ([(b4, Obj.cells (Value.cells (uv PR)) 24 (0, 0)), (b3, Obj.cells #[.int .u64 0, .int .u64 0, .int .u64 0, .int .u64 0] 24 (0, 0)), (b2, Obj.cells (Value.cells (uv B)) 24 (0, 0)), (b1, Obj.cells (Value.cells (uv A)) 24 (0, 0))] ++ (bif L 12 then [(g 12, (bif L 13 then Obj.cells (Value.cells (uv (df (rs A 0 PR) (rs B 0 PR)))) 24 (0, 0) else Obj.cells #[.int .u64 0, .int .u64 0, .int .u64 0, .int .u64 0] 24 (0, 0)))] else []))) kr kr kr kr (H6.drew) ⟨?_, ?_, ?_, ?_, ?_, ?_, ?_, ?_, ?_, ?_, ?_, ?_, ?_, ?_, ?_, trivial⟩ ?_
  · exact gv_load 24 (.tmp 3) (fun _ => 3) (fun g => b1) (Value.cells (uv A)) 24 (0, 0) (fun _ _ _ h => h) (fun g => by kernel_rfl) (fun g => by kernel_rfl) (fun L g _ => by kernel_rfl) kr
  · exact gv_val (fun _ _ _ h => h) (fun g w => by kernel_rfl)
  · exact gv_load 24 (.tmp 8) (fun _ => 0) (fun g => b4) (Value.cells (uv PR)) 24 (0, 0) (fun _ _ _ h => h) (fun g => by kernel_rfl) (fun g => by kernel_rfl) (fun L g _ => by kernel_rfl) kr
  · exact gv_call 53 #[uv A, .agg #[.int .u64 0, .int .u64 0, .int .u64 0, .int .u64 0], uv PR] (fun _ _ _ h => h) (rest_fn A 0 PR hA (by unfold big; omega) pr_ok) (fun g w => by kernel_rfl)
  · exact gv_load 24 (.tmp 4) (fun _ => 2) (fun g => b2) (Value.cells (uv B)) 24 (0, 0) (fun _ _ _ h => h) (fun g => by kernel_rfl) (fun g => by kernel_rfl) (fun L g _ => by kernel_rfl) kr
  · exact gv_val (fun _ _ _ h => h) (fun g w => by kernel_rfl)
  · exact gv_load 24 (.tmp 8) (fun _ => 0) (fun g => b4) (Value.cells (uv PR)) 24 (0, 0) (fun _ _ _ h => h) (fun g => by kernel_rfl) (fun g => by kernel_rfl) (fun L g _ => by kernel_rfl) kr
  · exact gv_call 53 #[uv B, .agg #[.int .u64 0, .int .u64 0, .int .u64 0, .int .u64 0], uv PR] (fun _ _ _ h => h) (rest_fn B 0 PR hB (by unfold big; omega) pr_ok) (fun g w => by kernel_rfl)
  · exact gv_call 54 #[uv (rs A 0 PR), uv (rs B 0 PR)] (fun _ _ _ h => h) (sub_fn (rs A 0 PR) (rs B 0 PR) (rs_lt pr_ok) (rs_lt pr_ok)) (fun g w => by kernel_rfl)
  · exact gv_val (fun _ _ _ h => h) (fun g w => by kernel_rfl)
  · exact gv_val (fun _ _ _ h => h) (fun g w => by kernel_rfl)
  · exact gv_val (fun _ _ _ h => h) (fun g w => by kernel_rfl)
  · exact gv_alloc 24 (.agg #[.int .u64 0, .int .u64 0, .int .u64 0, .int .u64 0]) (fun L g => [(b4, Obj.cells (Value.cells (uv PR)) 24 (0, 0)), (b3, Obj.cells #[.int .u64 0, .int .u64 0, .int .u64 0, .int .u64 0] 24 (0, 0)), (b2, Obj.cells (Value.cells (uv B)) 24 (0, 0)), (b1, Obj.cells (Value.cells (uv A)) 24 (0, 0))]) (fun L g => ([] : List (Nat × Obj))) (fun g => by kernel_rfl) kr (fun L g hN => by (have hn : L 12 = false := hN.1; show ([(b4, Obj.cells (Value.cells (uv PR)) 24 (0, 0)), (b3, Obj.cells #[.int .u64 0, .int .u64 0, .int .u64 0, .int .u64 0] 24 (0, 0)), (b2, Obj.cells (Value.cells (uv B)) 24 (0, 0)), (b1, Obj.cells (Value.cells (uv A)) 24 (0, 0))] ++ (bif L 12 then [(g 12, (bif L 13 then Obj.cells (Value.cells (uv (df (rs A 0 PR) (rs B 0 PR)))) 24 (0, 0) else Obj.cells #[.int .u64 0, .int .u64 0, .int .u64 0, .int .u64 0] 24 (0, 0)))] else [])) = ([(b4, Obj.cells (Value.cells (uv PR)) 24 (0, 0)), (b3, Obj.cells #[.int .u64 0, .int .u64 0, .int .u64 0, .int .u64 0] 24 (0, 0)), (b2, Obj.cells (Value.cells (uv B)) 24 (0, 0)), (b1, Obj.cells (Value.cells (uv A)) 24 (0, 0))]) ++ (([] : List (Nat × Obj))); rw [hn]; rfl)) (fun L g b hN => by (have hz : L 13 = false := hN.2.2.no 12 13 kr hN.1; show ([(b4, Obj.cells (Value.cells (uv PR)) 24 (0, 0)), (b3, Obj.cells #[.int .u64 0, .int .u64 0, .int .u64 0, .int .u64 0] 24 (0, 0)), (b2, Obj.cells (Value.cells (uv B)) 24 (0, 0)), (b1, Obj.cells (Value.cells (uv A)) 24 (0, 0))]) ++ (b, Obj.cells #[.int .u64 0, .int .u64 0, .int .u64 0, .int .u64 0] 24 (0, 0)) :: (([] : List (Nat × Obj))) = ([(b4, Obj.cells (Value.cells (uv PR)) 24 (0, 0)), (b3, Obj.cells #[.int .u64 0, .int .u64 0, .int .u64 0, .int .u64 0] 24 (0, 0)), (b2, Obj.cells (Value.cells (uv B)) 24 (0, 0)), (b1, Obj.cells (Value.cells (uv A)) 24 (0, 0))] ++ ([(b, (bif L 13 then Obj.cells (Value.cells (uv (df (rs A 0 PR) (rs B 0 PR)))) 24 (0, 0) else Obj.cells #[.int .u64 0, .int .u64 0, .int .u64 0, .int .u64 0] 24 (0, 0)))])); rw [hz]; rfl))
  · exact gv_store (fun _ => 4) 24 (.tmp 10) (.tmp 31) (fun g => g 12) 0 #[.int .u64 0, .int .u64 0, .int .u64 0, .int .u64 0] (Value.cells (uv (df (rs A 0 PR) (rs B 0 PR)))) 24 (uv (df (rs A 0 PR) (rs B 0 PR))) (fun g => by kernel_rfl) (fun g => by kernel_rfl) (fun g => by kernel_rfl) kr kr (of_decide_eq_true kr) kr (fun L g hN => by (have hs13 : L 13 = false := hN.1; have hs12 : L 12 = true := before_yes hN.2.1 12 kr; show ([(b4, Obj.cells (Value.cells (uv PR)) 24 (0, 0)), (b3, Obj.cells #[.int .u64 0, .int .u64 0, .int .u64 0, .int .u64 0] 24 (0, 0)), (b2, Obj.cells (Value.cells (uv B)) 24 (0, 0)), (b1, Obj.cells (Value.cells (uv A)) 24 (0, 0))] ++ (bif L 12 then [(g 12, (bif L 13 then Obj.cells (Value.cells (uv (df (rs A 0 PR) (rs B 0 PR)))) 24 (0, 0) else Obj.cells #[.int .u64 0, .int .u64 0, .int .u64 0, .int .u64 0] 24 (0, 0)))] else []))[(fun _ => 4) L]? = some (g 12, Obj.cells #[.int .u64 0, .int .u64 0, .int .u64 0, .int .u64 0] 24 (0, 0)) ∧ ([(b4, Obj.cells (Value.cells (uv PR)) 24 (0, 0)), (b3, Obj.cells #[.int .u64 0, .int .u64 0, .int .u64 0, .int .u64 0] 24 (0, 0)), (b2, Obj.cells (Value.cells (uv B)) 24 (0, 0)), (b1, Obj.cells (Value.cells (uv A)) 24 (0, 0))] ++ (bif L 12 then [(g 12, (bif L 13 then Obj.cells (Value.cells (uv (df (rs A 0 PR) (rs B 0 PR)))) 24 (0, 0) else Obj.cells #[.int .u64 0, .int .u64 0, .int .u64 0, .int .u64 0] 24 (0, 0)))] else [])).set ((fun _ => 4) L) (g 12, Obj.cells (Value.cells (uv (df (rs A 0 PR) (rs B 0 PR)))) 24 (0, 0)) = ([(b4, Obj.cells (Value.cells (uv PR)) 24 (0, 0)), (b3, Obj.cells #[.int .u64 0, .int .u64 0, .int .u64 0, .int .u64 0] 24 (0, 0)), (b2, Obj.cells (Value.cells (uv B)) 24 (0, 0)), (b1, Obj.cells (Value.cells (uv A)) 24 (0, 0))] ++ (bif L 12 then [(g 12, (bif true then Obj.cells (Value.cells (uv (df (rs A 0 PR) (rs B 0 PR)))) 24 (0, 0) else Obj.cells #[.int .u64 0, .int .u64 0, .int .u64 0, .int .u64 0] 24 (0, 0)))] else [])); rw [hs13, hs12]; exact ⟨rfl, rfl⟩))
  · exact gv_val (fun _ _ _ h => h) (fun g w => by kernel_rfl)
  intro L0 g7 w7 hall HL; clear H6
  have H7 : St w.heap.size w w7 [(b4, Obj.cells (Value.cells (uv PR)) 24 (0, 0)), (b3, Obj.cells #[.int .u64 0, .int .u64 0, .int .u64 0, .int .u64 0] 24 (0, 0)), (b2, Obj.cells (Value.cells (uv B)) 24 (0, 0)), (b1, Obj.cells (Value.cells (uv A)) 24 (0, 0)), ((g7 12), Obj.cells (Value.cells (uv (df (rs A 0 PR) (rs B 0 PR)))) 24 (0, 0))] := by have e13 := hall 13 (Nat.le_of_ble_eq_true kr); have e12 := hall 12 (Nat.le_of_ble_eq_true kr); simp only [e13, e12, cond_true] at HL; exact HL
  clear HL hall
  refine g_seq kr ?_
  refine g_sreg [0] kr kr ?_
  cases hlo : lo (rs A 0 PR) (rs B 0 PR)
  · skip
    refine s_val (some 33) (.bool false) (fun w => by kernel_rfl) kr ?_
    refine s_nil ?_
    refine g_cond_f kr kr ?_
    refine g_skip kr ?_
    show WP _ _ _ _ _ _
    refine g_sreg [0, 1, 2] kr kr ?_
    refine s_load H7 (some 40) 24 (.tmp 10) 4 (g7 12) (Value.cells (uv (df (rs A 0 PR) (rs B 0 PR)))) 24 (0, 0) kr kr kr kr kr ?_
    refine s_store H7 1 [(b4, Obj.cells (Value.cells (uv PR)) 24 (0, 0)), (b3, Obj.cells (Value.cells (uv (df (rs A 0 PR) (rs B 0 PR)))) 24 (0, 0)), (b2, Obj.cells (Value.cells (uv B)) 24 (0, 0)), (b1, Obj.cells (Value.cells (uv A)) 24 (0, 0)), ((g7 12), Obj.cells (Value.cells (uv (df (rs A 0 PR) (rs B 0 PR)))) 24 (0, 0))] 24 (.tmp 6) (.tmp 40) b3 0 #[.int .u64 0, .int .u64 0, .int .u64 0, .int .u64 0] (Value.cells (uv (df (rs A 0 PR) (rs B 0 PR)))) 24 (uv (df (rs A 0 PR) (rs B 0 PR))) kr kr kr kr kr kr (of_decide_eq_true kr) kr kr ?_
    intro w8 H8; clear H7
    refine s_val (some 7) (.int .i64 0) (fun w => by kernel_rfl) kr ?_
    refine s_nil ?_
    refine g_ret kr ?_
    show ∃ vs, Res _ _ _ _ vs ∧ _
    refine ⟨[uv (df (rs A 0 PR) (rs B 0 PR)), .int .i64 0], (.agg (b := b3) (Value.cells (uv (df (rs A 0 PR) (rs B 0 PR)))) 24 (0, 0) kr (H8.get 1 kr) kr (.tmp (.int .i64 0) kr .nil)), ?_, H8.below⟩
    exact congrArg (fun n => Value.tuple #[uv n, .int .i64 0]) (fSub_of2 pr_ok hlo)
  · skip
    refine s_val (some 33) (.bool true) (fun w => by kernel_rfl) kr ?_
    refine s_nil ?_
    refine g_cond_t kr kr ?_
    refine g_reg0 [0, 1, 2, 3, 4, 5, 6] kr ?_
    refine s_load H7 (some 35) 24 (.tmp 10) 4 (g7 12) (Value.cells (uv (df (rs A 0 PR) (rs B 0 PR)))) 24 (0, 0) kr kr kr kr kr ?_
    refine s_load H7 (some 36) 24 (.tmp 8) 0 b4 (Value.cells (uv PR)) 24 (0, 0) kr kr kr kr kr ?_
    refine s_call H7 (some 37) 84 #[uv (df (rs A 0 PR) (rs B 0 PR)), uv PR] (.tuple #[uv (sm (df (rs A 0 PR) (rs B 0 PR)) PR), .bool (ov (df (rs A 0 PR) (rs B 0 PR)) PR)]) (add_fn (df (rs A 0 PR) (rs B 0 PR)) PR (df_lt _ _) pr_ok.1) (fun w => by kernel_rfl) kr ?_
    intro w9 H9; clear H7
    refine s_val (some 34) (.tuple #[uv (sm (df (rs A 0 PR) (rs B 0 PR)) PR), .bool (ov (df (rs A 0 PR) (rs B 0 PR)) PR)]) (fun w => by kernel_rfl) kr ?_
    refine s_val (some 38) (uv (sm (df (rs A 0 PR) (rs B 0 PR)) PR)) (fun w => by kernel_rfl) kr ?_
    refine s_val (some 39) (.bool (ov (df (rs A 0 PR) (rs B 0 PR)) PR)) (fun w => by kernel_rfl) kr ?_
    refine s_store H9 4 [(b4, Obj.cells (Value.cells (uv PR)) 24 (0, 0)), (b3, Obj.cells #[.int .u64 0, .int .u64 0, .int .u64 0, .int .u64 0] 24 (0, 0)), (b2, Obj.cells (Value.cells (uv B)) 24 (0, 0)), (b1, Obj.cells (Value.cells (uv A)) 24 (0, 0)), ((g7 12), Obj.cells (Value.cells (uv (sm (df (rs A 0 PR) (rs B 0 PR)) PR))) 24 (0, 0))] 24 (.tmp 10) (.tmp 38) (g7 12) 0 (Value.cells (uv (df (rs A 0 PR) (rs B 0 PR)))) (Value.cells (uv (sm (df (rs A 0 PR) (rs B 0 PR)) PR))) 24 (uv (sm (df (rs A 0 PR) (rs B 0 PR)) PR)) kr kr kr kr kr kr (of_decide_eq_true kr) kr kr ?_
    intro w10 H10; clear H9
    refine s_nil ?_
    show WP _ _ _ _ _ _
    refine g_sreg [0, 1, 2] kr kr ?_
    refine s_load H10 (some 40) 24 (.tmp 10) 4 (g7 12) (Value.cells (uv (sm (df (rs A 0 PR) (rs B 0 PR)) PR))) 24 (0, 0) kr kr kr kr kr ?_
    refine s_store H10 1 [(b4, Obj.cells (Value.cells (uv PR)) 24 (0, 0)), (b3, Obj.cells (Value.cells (uv (sm (df (rs A 0 PR) (rs B 0 PR)) PR))) 24 (0, 0)), (b2, Obj.cells (Value.cells (uv B)) 24 (0, 0)), (b1, Obj.cells (Value.cells (uv A)) 24 (0, 0)), ((g7 12), Obj.cells (Value.cells (uv (sm (df (rs A 0 PR) (rs B 0 PR)) PR))) 24 (0, 0))] 24 (.tmp 6) (.tmp 40) b3 0 #[.int .u64 0, .int .u64 0, .int .u64 0, .int .u64 0] (Value.cells (uv (sm (df (rs A 0 PR) (rs B 0 PR)) PR))) 24 (uv (sm (df (rs A 0 PR) (rs B 0 PR)) PR)) kr kr kr kr kr kr (of_decide_eq_true kr) kr kr ?_
    intro w11 H11; clear H10
    refine s_val (some 7) (.int .i64 0) (fun w => by kernel_rfl) kr ?_
    refine s_nil ?_
    refine g_ret kr ?_
    show ∃ vs, Res _ _ _ _ vs ∧ _
    refine ⟨[uv (sm (df (rs A 0 PR) (rs B 0 PR)) PR), .int .i64 0], (.agg (b := b3) (Value.cells (uv (sm (df (rs A 0 PR) (rs B 0 PR)) PR))) 24 (0, 0) kr (H11.get 1 kr) kr (.tmp (.int .i64 0) kr .nil)), ?_, H11.below⟩
    exact congrArg (fun n => Value.tuple #[uv n, .int .i64 0]) (fSub_of1 pr_ok hlo)
set_option maxRecDepth 100000 in
theorem fsub1_fn (A B : Nat) (hA : A < big) (hB : B < big) : Fn Tryd.prog 80 #[uv A, uv B, .int .i64 1] (.tuple #[uv (fSub A B NR), .int .i64 0]) := by
  refine Fn.intro (c := codeOf Tryd.f80) [.cell 6 24, .tmp 7] 41 Tryd.func80 kr kr kr fun w => ?_
  have H0 := St.start w
  refine g_sreg [0, 1, 2, 3] kr kr ?_
  refine s_box H0 (some 3) 24 (.tmp 0) (uv A) kr kr kr ?_
  intro b1 w1 H1; clear H0
  refine s_box H1 (some 4) 24 (.tmp 1) (uv B) kr kr kr ?_
  intro b2 w2 H2; clear H1
  refine s_alloc H2 (some 6) 24 (.agg #[.int .u64 0, .int .u64 0, .int .u64 0, .int .u64 0]) kr kr kr ?_
  intro b3 w3 H3; clear H2
  refine s_val (some 7) (.int .i64 0) (fun w => by kernel_rfl) kr ?_
  refine s_nil ?_
  refine g_sreg [0, 1, 2, 3, 4, 5, 6, 7] kr kr ?_
  refine s_val (some 13) (.int .i64 1) (fun w => by kernel_rfl) kr ?_
  refine s_call H3 (some 14) 52 #[.int .i64 1] (.tuple #[uv NR, .int .i64 0]) prime1_fn (fun w => by kernel_rfl) kr ?_
  intro w4 H4; clear H3
  refine s_val (some 12) (.tuple #[uv NR, .int .i64 0]) (fun w => by kernel_rfl) kr ?_
  refine s_val (some 15) (uv NR) (fun w => by kernel_rfl) kr ?_
  refine s_val (some 16) (.int .i64 0) (fun w => by kernel_rfl) kr ?_
  refine s_alloc H4 (some 8) 24 (.agg #[.int .u64 0, .int .u64 0, .int .u64 0, .int .u64 0]) kr kr kr ?_
  intro b4 w5 H5; clear H4
  refine s_store H5 0 [(b4, Obj.cells (Value.cells (uv NR)) 24 (0, 0)), (b3, Obj.cells #[.int .u64 0, .int .u64 0, .int .u64 0, .int .u64 0] 24 (0, 0)), (b2, Obj.cells (Value.cells (uv B)) 24 (0, 0)), (b1, Obj.cells (Value.cells (uv A)) 24 (0, 0))] 24 (.tmp 8) (.tmp 15) b4 0 #[.int .u64 0, .int .u64 0, .int .u64 0, .int .u64 0] (Value.cells (uv NR)) 24 (uv NR) kr kr kr kr kr kr (of_decide_eq_true kr) kr kr ?_
  intro w6 H6; clear H5
  refine s_val (some 9) (.int .i64 0) (fun w => by kernel_rfl) kr ?_
  refine s_nil ?_
  refine g_seq kr ?_
  refine g_sreg [0, 1] kr kr ?_
  refine s_val (some 17) (.int .i64 0) (fun w => by kernel_rfl) kr ?_
  refine s_val (some 18) (.bool false) (fun w => by kernel_rfl) kr ?_
  refine s_nil ?_
  refine g_cond_f kr kr ?_
  refine g_skip kr ?_
  show WP _ _ _ _ _ _
  refine g_sdraw [0, 1, 2, 3, 4, 5, 6, 7, 8, 9, 10, 11, 12, 13, 14] [((some 22), fun _ => uv A), ((some 23), fun _ => .agg #[.int .u64 0, .int .u64 0, .int .u64 0, .int .u64 0]), ((some 24), fun _ => uv NR), ((some 25), fun _ => uv (rs A 0 NR)), ((some 26), fun _ => uv B), ((some 27), fun _ => .agg #[.int .u64 0, .int .u64 0, .int .u64 0, .int .u64 0]), ((some 28), fun _ => uv NR), ((some 29), fun _ => uv (rs B 0 NR)), ((some 30), fun _ => .tuple #[uv (df (rs A 0 NR) (rs B 0 NR)), .bool (lo (rs A 0 NR) (rs B 0 NR))]), ((some 21), fun _ => .tuple #[uv (df (rs A 0 NR) (rs B 0 NR)), .bool (lo (rs A 0 NR) (rs B 0 NR))]), ((some 31), fun _ => uv (df (rs A 0 NR) (rs B 0 NR))), ((some 32), fun _ => .bool (lo (rs A 0 NR) (rs B 0 NR))), ((some 10), fun b => .pointer (some ⟨b, 0, none⟩)), (none, fun _ => undef), ((some 11), fun _ => .bool (lo (rs A 0 NR) (rs B 0 NR)))] (fun L g x => St w.heap.size w x ([(b4, Obj.cells (Value.cells (uv NR)) 24 (0, 0)), (b3, Obj.cells #[.int .u64 0, .int .u64 0, .int .u64 0, .int .u64 0] 24 (0, 0)), (b2, Obj.cells (Value.cells (uv B)) 24 (0, 0)), (b1, Obj.cells (Value.cells (uv A)) 24 (0, 0))] ++ (bif L 12 then [(g 12, (bif L 13 then Obj.cells (Value.cells (uv (df (rs A 0 NR) (rs B 0 NR)))) 24 (0, 0) else Obj.cells #[.int .u64 0, .int .u64 0, .int .u64 0, .int .u64 0] 24 (0, 0)))] else []))) kr kr kr kr (H6.drew) ⟨?_, ?_, ?_, ?_, ?_, ?_, ?_, ?_, ?_, ?_, ?_, ?_, ?_, ?_, ?_, trivial⟩ ?_
  · exact gv_load 24 (.tmp 3) (fun _ => 3) (fun g => b1) (Value.cells (uv A)) 24 (0, 0) (fun _ _ _ h => h) (fun g => by kernel_rfl) (fun g => by kernel_rfl) (fun L g _ => by kernel_rfl) kr
  · exact gv_val (fun _ _ _ h => h) (fun g w => by kernel_rfl)
  · exact gv_load 24 (.tmp 8) (fun _ => 0) (fun g => b4) (Value.cells (uv NR)) 24 (0, 0) (fun _ _ _ h => h) (fun g => by kernel_rfl) (fun g => by kernel_rfl) (fun L g _ => by kernel_rfl) kr
  · exact gv_call 53 #[uv A, .agg #[.int .u64 0, .int .u64 0, .int .u64 0, .int .u64 0], uv NR] (fun _ _ _ h => h) (rest_fn A 0 NR hA (by unfold big; omega) nr_ok) (fun g w => by kernel_rfl)
  · exact gv_load 24 (.tmp 4) (fun _ => 2) (fun g => b2) (Value.cells (uv B)) 24 (0, 0) (fun _ _ _ h => h) (fun g => by kernel_rfl) (fun g => by kernel_rfl) (fun L g _ => by kernel_rfl) kr
  · exact gv_val (fun _ _ _ h => h) (fun g w => by kernel_rfl)
  · exact gv_load 24 (.tmp 8) (fun _ => 0) (fun g => b4) (Value.cells (uv NR)) 24 (0, 0) (fun _ _ _ h => h) (fun g => by kernel_rfl) (fun g => by kernel_rfl) (fun L g _ => by kernel_rfl) kr
  · exact gv_call 53 #[uv B, .agg #[.int .u64 0, .int .u64 0, .int .u64 0, .int .u64 0], uv NR] (fun _ _ _ h => h) (rest_fn B 0 NR hB (by unfold big; omega) nr_ok) (fun g w => by kernel_rfl)
  · exact gv_call 54 #[uv (rs A 0 NR), uv (rs B 0 NR)] (fun _ _ _ h => h) (sub_fn (rs A 0 NR) (rs B 0 NR) (rs_lt nr_ok) (rs_lt nr_ok)) (fun g w => by kernel_rfl)
  · exact gv_val (fun _ _ _ h => h) (fun g w => by kernel_rfl)
  · exact gv_val (fun _ _ _ h => h) (fun g w => by kernel_rfl)
  · exact gv_val (fun _ _ _ h => h) (fun g w => by kernel_rfl)
  · exact gv_alloc 24 (.agg #[.int .u64 0, .int .u64 0, .int .u64 0, .int .u64 0]) (fun L g => [(b4, Obj.cells (Value.cells (uv NR)) 24 (0, 0)), (b3, Obj.cells #[.int .u64 0, .int .u64 0, .int .u64 0, .int .u64 0] 24 (0, 0)), (b2, Obj.cells (Value.cells (uv B)) 24 (0, 0)), (b1, Obj.cells (Value.cells (uv A)) 24 (0, 0))]) (fun L g => ([] : List (Nat × Obj))) (fun g => by kernel_rfl) kr (fun L g hN => by (have hn : L 12 = false := hN.1; show ([(b4, Obj.cells (Value.cells (uv NR)) 24 (0, 0)), (b3, Obj.cells #[.int .u64 0, .int .u64 0, .int .u64 0, .int .u64 0] 24 (0, 0)), (b2, Obj.cells (Value.cells (uv B)) 24 (0, 0)), (b1, Obj.cells (Value.cells (uv A)) 24 (0, 0))] ++ (bif L 12 then [(g 12, (bif L 13 then Obj.cells (Value.cells (uv (df (rs A 0 NR) (rs B 0 NR)))) 24 (0, 0) else Obj.cells #[.int .u64 0, .int .u64 0, .int .u64 0, .int .u64 0] 24 (0, 0)))] else [])) = ([(b4, Obj.cells (Value.cells (uv NR)) 24 (0, 0)), (b3, Obj.cells #[.int .u64 0, .int .u64 0, .int .u64 0, .int .u64 0] 24 (0, 0)), (b2, Obj.cells (Value.cells (uv B)) 24 (0, 0)), (b1, Obj.cells (Value.cells (uv A)) 24 (0, 0))]) ++ (([] : List (Nat × Obj))); rw [hn]; rfl)) (fun L g b hN => by (have hz : L 13 = false := hN.2.2.no 12 13 kr hN.1; show ([(b4, Obj.cells (Value.cells (uv NR)) 24 (0, 0)), (b3, Obj.cells #[.int .u64 0, .int .u64 0, .int .u64 0, .int .u64 0] 24 (0, 0)), (b2, Obj.cells (Value.cells (uv B)) 24 (0, 0)), (b1, Obj.cells (Value.cells (uv A)) 24 (0, 0))]) ++ (b, Obj.cells #[.int .u64 0, .int .u64 0, .int .u64 0, .int .u64 0] 24 (0, 0)) :: (([] : List (Nat × Obj))) = ([(b4, Obj.cells (Value.cells (uv NR)) 24 (0, 0)), (b3, Obj.cells #[.int .u64 0, .int .u64 0, .int .u64 0, .int .u64 0] 24 (0, 0)), (b2, Obj.cells (Value.cells (uv B)) 24 (0, 0)), (b1, Obj.cells (Value.cells (uv A)) 24 (0, 0))] ++ ([(b, (bif L 13 then Obj.cells (Value.cells (uv (df (rs A 0 NR) (rs B 0 NR)))) 24 (0, 0) else Obj.cells #[.int .u64 0, .int .u64 0, .int .u64 0, .int .u64 0] 24 (0, 0)))])); rw [hz]; rfl))
  · exact gv_store (fun _ => 4) 24 (.tmp 10) (.tmp 31) (fun g => g 12) 0 #[.int .u64 0, .int .u64 0, .int .u64 0, .int .u64 0] (Value.cells (uv (df (rs A 0 NR) (rs B 0 NR)))) 24 (uv (df (rs A 0 NR) (rs B 0 NR))) (fun g => by kernel_rfl) (fun g => by kernel_rfl) (fun g => by kernel_rfl) kr kr (of_decide_eq_true kr) kr (fun L g hN => by (have hs13 : L 13 = false := hN.1; have hs12 : L 12 = true := before_yes hN.2.1 12 kr; show ([(b4, Obj.cells (Value.cells (uv NR)) 24 (0, 0)), (b3, Obj.cells #[.int .u64 0, .int .u64 0, .int .u64 0, .int .u64 0] 24 (0, 0)), (b2, Obj.cells (Value.cells (uv B)) 24 (0, 0)), (b1, Obj.cells (Value.cells (uv A)) 24 (0, 0))] ++ (bif L 12 then [(g 12, (bif L 13 then Obj.cells (Value.cells (uv (df (rs A 0 NR) (rs B 0 NR)))) 24 (0, 0) else Obj.cells #[.int .u64 0, .int .u64 0, .int .u64 0, .int .u64 0] 24 (0, 0)))] else []))[(fun _ => 4) L]? = some (g 12, Obj.cells #[.int .u64 0, .int .u64 0, .int .u64 0, .int .u64 0] 24 (0, 0)) ∧ ([(b4, Obj.cells (Value.cells (uv NR)) 24 (0, 0)), (b3, Obj.cells #[.int .u64 0, .int .u64 0, .int .u64 0, .int .u64 0] 24 (0, 0)), (b2, Obj.cells (Value.cells (uv B)) 24 (0, 0)), (b1, Obj.cells (Value.cells (uv A)) 24 (0, 0))] ++ (bif L 12 then [(g 12, (bif L 13 then Obj.cells (Value.cells (uv (df (rs A 0 NR) (rs B 0 NR)))) 24 (0, 0) else Obj.cells #[.int .u64 0, .int .u64 0, .int .u64 0, .int .u64 0] 24 (0, 0)))] else [])).set ((fun _ => 4) L) (g 12, Obj.cells (Value.cells (uv (df (rs A 0 NR) (rs B 0 NR)))) 24 (0, 0)) = ([(b4, Obj.cells (Value.cells (uv NR)) 24 (0, 0)), (b3, Obj.cells #[.int .u64 0, .int .u64 0, .int .u64 0, .int .u64 0] 24 (0, 0)), (b2, Obj.cells (Value.cells (uv B)) 24 (0, 0)), (b1, Obj.cells (Value.cells (uv A)) 24 (0, 0))] ++ (bif L 12 then [(g 12, (bif true then Obj.cells (Value.cells (uv (df (rs A 0 NR) (rs B 0 NR)))) 24 (0, 0) else Obj.cells #[.int .u64 0, .int .u64 0, .int .u64 0, .int .u64 0] 24 (0, 0)))] else [])); rw [hs13, hs12]; exact ⟨rfl, rfl⟩))
  · exact gv_val (fun _ _ _ h => h) (fun g w => by kernel_rfl)
  intro L0 g7 w7 hall HL; clear H6
  have H7 : St w.heap.size w w7 [(b4, Obj.cells (Value.cells (uv NR)) 24 (0, 0)), (b3, Obj.cells #[.int .u64 0, .int .u64 0, .int .u64 0, .int .u64 0] 24 (0, 0)), (b2, Obj.cells (Value.cells (uv B)) 24 (0, 0)), (b1, Obj.cells (Value.cells (uv A)) 24 (0, 0)), ((g7 12), Obj.cells (Value.cells (uv (df (rs A 0 NR) (rs B 0 NR)))) 24 (0, 0))] := by have e13 := hall 13 (Nat.le_of_ble_eq_true kr); have e12 := hall 12 (Nat.le_of_ble_eq_true kr); simp only [e13, e12, cond_true] at HL; exact HL
  clear HL hall
  refine g_seq kr ?_
  refine g_sreg [0] kr kr ?_
  cases hlo : lo (rs A 0 NR) (rs B 0 NR)
  · skip
    refine s_val (some 33) (.bool false) (fun w => by kernel_rfl) kr ?_
    refine s_nil ?_
    refine g_cond_f kr kr ?_
    refine g_skip kr ?_
    show WP _ _ _ _ _ _
    refine g_sreg [0, 1, 2] kr kr ?_
    refine s_load H7 (some 40) 24 (.tmp 10) 4 (g7 12) (Value.cells (uv (df (rs A 0 NR) (rs B 0 NR)))) 24 (0, 0) kr kr kr kr kr ?_
    refine s_store H7 1 [(b4, Obj.cells (Value.cells (uv NR)) 24 (0, 0)), (b3, Obj.cells (Value.cells (uv (df (rs A 0 NR) (rs B 0 NR)))) 24 (0, 0)), (b2, Obj.cells (Value.cells (uv B)) 24 (0, 0)), (b1, Obj.cells (Value.cells (uv A)) 24 (0, 0)), ((g7 12), Obj.cells (Value.cells (uv (df (rs A 0 NR) (rs B 0 NR)))) 24 (0, 0))] 24 (.tmp 6) (.tmp 40) b3 0 #[.int .u64 0, .int .u64 0, .int .u64 0, .int .u64 0] (Value.cells (uv (df (rs A 0 NR) (rs B 0 NR)))) 24 (uv (df (rs A 0 NR) (rs B 0 NR))) kr kr kr kr kr kr (of_decide_eq_true kr) kr kr ?_
    intro w8 H8; clear H7
    refine s_val (some 7) (.int .i64 0) (fun w => by kernel_rfl) kr ?_
    refine s_nil ?_
    refine g_ret kr ?_
    show ∃ vs, Res _ _ _ _ vs ∧ _
    refine ⟨[uv (df (rs A 0 NR) (rs B 0 NR)), .int .i64 0], (.agg (b := b3) (Value.cells (uv (df (rs A 0 NR) (rs B 0 NR)))) 24 (0, 0) kr (H8.get 1 kr) kr (.tmp (.int .i64 0) kr .nil)), ?_, H8.below⟩
    exact congrArg (fun n => Value.tuple #[uv n, .int .i64 0]) (fSub_of2 nr_ok hlo)
  · skip
    refine s_val (some 33) (.bool true) (fun w => by kernel_rfl) kr ?_
    refine s_nil ?_
    refine g_cond_t kr kr ?_
    refine g_reg0 [0, 1, 2, 3, 4, 5, 6] kr ?_
    refine s_load H7 (some 35) 24 (.tmp 10) 4 (g7 12) (Value.cells (uv (df (rs A 0 NR) (rs B 0 NR)))) 24 (0, 0) kr kr kr kr kr ?_
    refine s_load H7 (some 36) 24 (.tmp 8) 0 b4 (Value.cells (uv NR)) 24 (0, 0) kr kr kr kr kr ?_
    refine s_call H7 (some 37) 84 #[uv (df (rs A 0 NR) (rs B 0 NR)), uv NR] (.tuple #[uv (sm (df (rs A 0 NR) (rs B 0 NR)) NR), .bool (ov (df (rs A 0 NR) (rs B 0 NR)) NR)]) (add_fn (df (rs A 0 NR) (rs B 0 NR)) NR (df_lt _ _) nr_ok.1) (fun w => by kernel_rfl) kr ?_
    intro w9 H9; clear H7
    refine s_val (some 34) (.tuple #[uv (sm (df (rs A 0 NR) (rs B 0 NR)) NR), .bool (ov (df (rs A 0 NR) (rs B 0 NR)) NR)]) (fun w => by kernel_rfl) kr ?_
    refine s_val (some 38) (uv (sm (df (rs A 0 NR) (rs B 0 NR)) NR)) (fun w => by kernel_rfl) kr ?_
    refine s_val (some 39) (.bool (ov (df (rs A 0 NR) (rs B 0 NR)) NR)) (fun w => by kernel_rfl) kr ?_
    refine s_store H9 4 [(b4, Obj.cells (Value.cells (uv NR)) 24 (0, 0)), (b3, Obj.cells #[.int .u64 0, .int .u64 0, .int .u64 0, .int .u64 0] 24 (0, 0)), (b2, Obj.cells (Value.cells (uv B)) 24 (0, 0)), (b1, Obj.cells (Value.cells (uv A)) 24 (0, 0)), ((g7 12), Obj.cells (Value.cells (uv (sm (df (rs A 0 NR) (rs B 0 NR)) NR))) 24 (0, 0))] 24 (.tmp 10) (.tmp 38) (g7 12) 0 (Value.cells (uv (df (rs A 0 NR) (rs B 0 NR)))) (Value.cells (uv (sm (df (rs A 0 NR) (rs B 0 NR)) NR))) 24 (uv (sm (df (rs A 0 NR) (rs B 0 NR)) NR)) kr kr kr kr kr kr (of_decide_eq_true kr) kr kr ?_
    intro w10 H10; clear H9
    refine s_nil ?_
    show WP _ _ _ _ _ _
    refine g_sreg [0, 1, 2] kr kr ?_
    refine s_load H10 (some 40) 24 (.tmp 10) 4 (g7 12) (Value.cells (uv (sm (df (rs A 0 NR) (rs B 0 NR)) NR))) 24 (0, 0) kr kr kr kr kr ?_
    refine s_store H10 1 [(b4, Obj.cells (Value.cells (uv NR)) 24 (0, 0)), (b3, Obj.cells (Value.cells (uv (sm (df (rs A 0 NR) (rs B 0 NR)) NR))) 24 (0, 0)), (b2, Obj.cells (Value.cells (uv B)) 24 (0, 0)), (b1, Obj.cells (Value.cells (uv A)) 24 (0, 0)), ((g7 12), Obj.cells (Value.cells (uv (sm (df (rs A 0 NR) (rs B 0 NR)) NR))) 24 (0, 0))] 24 (.tmp 6) (.tmp 40) b3 0 #[.int .u64 0, .int .u64 0, .int .u64 0, .int .u64 0] (Value.cells (uv (sm (df (rs A 0 NR) (rs B 0 NR)) NR))) 24 (uv (sm (df (rs A 0 NR) (rs B 0 NR)) NR)) kr kr kr kr kr kr (of_decide_eq_true kr) kr kr ?_
    intro w11 H11; clear H10
    refine s_val (some 7) (.int .i64 0) (fun w => by kernel_rfl) kr ?_
    refine s_nil ?_
    refine g_ret kr ?_
    show ∃ vs, Res _ _ _ _ vs ∧ _
    refine ⟨[uv (sm (df (rs A 0 NR) (rs B 0 NR)) NR), .int .i64 0], (.agg (b := b3) (Value.cells (uv (sm (df (rs A 0 NR) (rs B 0 NR)) NR))) 24 (0, 0) kr (H11.get 1 kr) kr (.tmp (.int .i64 0) kr .nil)), ?_, H11.below⟩
    exact congrArg (fun n => Value.tuple #[uv n, .int .i64 0]) (fSub_of1 nr_ok hlo)
set_option maxRecDepth 100000 in
theorem ftimes_fn (X Y M bm : Nat) (hX : X < big) (hY : Y < big) (hM : MOK M) : FnP Tryd.prog 86 #[uv X, uv Y, .pointer (some ⟨bm, 0, none⟩)] (fun w => w.heap[bm]? = some (.cells (Value.cells (uv M)) 24 (0, 0))) (uv (rs (pl X Y) (ph X Y) M)) := by
  refine FnP.intro (c := codeOf Tryd.f86) [.cell 5 24] 18 Tryd.func86 kr kr kr fun w hpre => ?_
  have H0 := St.start w
  refine g_sreg [0, 1, 2] kr kr ?_
  refine s_box H0 (some 3) 24 (.tmp 0) (uv X) kr kr kr ?_
  intro b1 w1 H1; clear H0
  refine s_box H1 (some 4) 24 (.tmp 1) (uv Y) kr kr kr ?_
  intro b2 w2 H2; clear H1
  refine s_alloc H2 (some 5) 24 (.agg #[.int .u64 0, .int .u64 0, .int .u64 0, .int .u64 0]) kr kr kr ?_
  intro b3 w3 H3; clear H2
  refine s_nil ?_
  refine g_sreg [0, 1, 2, 3, 4, 5, 6, 7, 8, 9] kr kr ?_
  refine s_load H3 (some 9) 24 (.tmp 3) 2 b1 (Value.cells (uv X)) 24 (0, 0) kr kr kr kr kr ?_
  refine s_load H3 (some 10) 24 (.tmp 4) 1 b2 (Value.cells (uv Y)) 24 (0, 0) kr kr kr kr kr ?_
  refine s_call H3 (some 11) 83 #[uv X, uv Y] (.tuple #[uv (pl X Y), uv (ph X Y)]) (mul_fn X Y hX hY) (fun w => by kernel_rfl) kr ?_
  intro w4 H4; clear H3
  refine s_val (some 8) (.tuple #[uv (pl X Y), uv (ph X Y)]) (fun w => by kernel_rfl) kr ?_
  refine s_val (some 12) (uv (pl X Y)) (fun w => by kernel_rfl) kr ?_
  refine s_val (some 13) (uv (ph X Y)) (fun w => by kernel_rfl) kr ?_
  refine s_alloc H4 (some 6) 24 (.agg #[.int .u64 0, .int .u64 0, .int .u64 0, .int .u64 0]) kr kr kr ?_
  intro b4 w5 H5; clear H4
  refine s_alloc H5 (some 7) 24 (.agg #[.int .u64 0, .int .u64 0, .int .u64 0, .int .u64 0]) kr kr kr ?_
  intro b5 w6 H6; clear H5
  refine s_store H6 1 [(b5, Obj.cells #[.int .u64 0, .int .u64 0, .int .u64 0, .int .u64 0] 24 (0, 0)), (b4, Obj.cells (Value.cells (uv (pl X Y))) 24 (0, 0)), (b3, Obj.cells #[.int .u64 0, .int .u64 0, .int .u64 0, .int .u64 0] 24 (0, 0)), (b2, Obj.cells (Value.cells (uv Y)) 24 (0, 0)), (b1, Obj.cells (Value.cells (uv X)) 24 (0, 0))] 24 (.tmp 6) (.tmp 12) b4 0 #[.int .u64 0, .int .u64 0, .int .u64 0, .int .u64 0] (Value.cells (uv (pl X Y))) 24 (uv (pl X Y)) kr kr kr kr kr kr (of_decide_eq_true kr) kr kr ?_
  intro w7 H7; clear H6
  refine s_store H7 0 [(b5, Obj.cells (Value.cells (uv (ph X Y))) 24 (0, 0)), (b4, Obj.cells (Value.cells (uv (pl X Y))) 24 (0, 0)), (b3, Obj.cells #[.int .u64 0, .int .u64 0, .int .u64 0, .int .u64 0] 24 (0, 0)), (b2, Obj.cells (Value.cells (uv Y)) 24 (0, 0)), (b1, Obj.cells (Value.cells (uv X)) 24 (0, 0))] 24 (.tmp 7) (.tmp 13) b5 0 #[.int .u64 0, .int .u64 0, .int .u64 0, .int .u64 0] (Value.cells (uv (ph X Y))) 24 (uv (ph X Y)) kr kr kr kr kr kr (of_decide_eq_true kr) kr kr ?_
  intro w8 H8; clear H7
  refine s_nil ?_
  refine g_sreg [0, 1, 2, 3, 4] kr kr ?_
  refine s_load H8 (some 14) 24 (.tmp 6) 1 b4 (Value.cells (uv (pl X Y))) 24 (0, 0) kr kr kr kr kr ?_
  refine s_load H8 (some 15) 24 (.tmp 7) 0 b5 (Value.cells (uv (ph X Y))) 24 (0, 0) kr kr kr kr kr ?_
  refine s_loadF H8 (some 16) 24 (.tmp 2) bm (Value.cells (uv M)) 24 (0, 0) kr kr kr hpre (lt_of_heap hpre) kr ?_
  refine s_call H8 (some 17) 53 #[uv (pl X Y), uv (ph X Y), uv M] (uv (rs (pl X Y) (ph X Y) M)) (rest_fn (pl X Y) (ph X Y) M (pl_lt _ _) (ph_lt hX hY) hM) (fun w => by kernel_rfl) kr ?_
  intro w9 H9; clear H8
  refine s_store H9 2 [(b5, Obj.cells (Value.cells (uv (ph X Y))) 24 (0, 0)), (b4, Obj.cells (Value.cells (uv (pl X Y))) 24 (0, 0)), (b3, Obj.cells (Value.cells (uv (rs (pl X Y) (ph X Y) M))) 24 (0, 0)), (b2, Obj.cells (Value.cells (uv Y)) 24 (0, 0)), (b1, Obj.cells (Value.cells (uv X)) 24 (0, 0))] 24 (.tmp 5) (.tmp 17) b3 0 #[.int .u64 0, .int .u64 0, .int .u64 0, .int .u64 0] (Value.cells (uv (rs (pl X Y) (ph X Y) M))) 24 (uv (rs (pl X Y) (ph X Y) M)) kr kr kr kr kr kr (of_decide_eq_true kr) kr kr ?_
  intro w10 H10; clear H9
  refine s_nil ?_
  refine g_ret kr ?_
  show ∃ vs, Res _ _ _ _ vs ∧ _
  refine ⟨[uv (rs (pl X Y) (ph X Y) M)], (.agg (b := b3) (Value.cells (uv (rs (pl X Y) (ph X Y) M))) 24 (0, 0) kr (H10.get 2 kr) kr .nil), ?_, H10.below⟩
  rfl
set_option maxRecDepth 100000 in
theorem pow0_fn (A n : Nat) (hA : A < big) (hn : n < big) : Fn Tryd.prog 56 #[uv A, uv n, .int .i64 0] (.tuple #[uv (fpw A n PR), .int .i64 0]) := by
  refine Fn.intro (c := codeOf Tryd.f56) [.cell 6 24, .tmp 7] 43 Tryd.func56 kr kr kr fun w => ?_
  have H0 := St.start w
  refine g_sreg [0, 1, 2, 3] kr kr ?_
  refine s_box H0 (some 3) 24 (.tmp 0) (uv A) kr kr kr ?_
  intro b1 w1 H1; clear H0
  refine s_box H1 (some 4) 24 (.tmp 1) (uv n) kr kr kr ?_
  intro b2 w2 H2; clear H1
  refine s_alloc H2 (some 6) 24 (.agg #[.int .u64 0, .int .u64 0, .int .u64 0, .int .u64 0]) kr kr kr ?_
  intro b3 w3 H3; clear H2
  refine s_val (some 7) (.int .i64 0) (fun w => by kernel_rfl) kr ?_
  refine s_nil ?_
  refine g_sreg [0, 1, 2, 3, 4, 5, 6, 7] kr kr ?_
  refine s_val (some 14) (.int .i64 0) (fun w => by kernel_rfl) kr ?_
  refine s_call H3 (some 15) 52 #[.int .i64 0] (.tuple #[uv PR, .int .i64 0]) prime0_fn (fun w => by kernel_rfl) kr ?_
  intro w4 H4; clear H3
  refine s_val (some 13) (.tuple #[uv PR, .int .i64 0]) (fun w => by kernel_rfl) kr ?_
  refine s_val (some 16) (uv PR) (fun w => by kernel_rfl) kr ?_
  refine s_val (some 17) (.int .i64 0) (fun w => by kernel_rfl) kr ?_
  refine s_alloc H4 (some 8) 24 (.agg #[.int .u64 0, .int .u64 0, .int .u64 0, .int .u64 0]) kr kr kr ?_
  intro b4 w5 H5; clear H4
  refine s_store H5 0 [(b4, Obj.cells (Value.cells (uv PR)) 24 (0, 0)), (b3, Obj.cells #[.int .u64 0, .int .u64 0, .int .u64 0, .int .u64 0] 24 (0, 0)), (b2, Obj.cells (Value.cells (uv n)) 24 (0, 0)), (b1, Obj.cells (Value.cells (uv A)) 24 (0, 0))] 24 (.tmp 8) (.tmp 16) b4 0 #[.int .u64 0, .int .u64 0, .int .u64 0, .int .u64 0] (Value.cells (uv PR)) 24 (uv PR) kr kr kr kr kr kr (of_decide_eq_true kr) kr kr ?_
  intro w6 H6; clear H5
  refine s_val (some 9) (.int .i64 0) (fun w => by kernel_rfl) kr ?_
  refine s_nil ?_
  refine g_seq kr ?_
  refine g_sreg [0, 1] kr kr ?_
  refine s_val (some 18) (.int .i64 0) (fun w => by kernel_rfl) kr ?_
  refine s_val (some 19) (.bool false) (fun w => by kernel_rfl) kr ?_
  refine s_nil ?_
  refine g_cond_f kr kr ?_
  refine g_skip kr ?_
  show WP _ _ _ _ _ _
  refine g_sreg [0, 1] kr kr ?_
  refine s_val (some 22) (.func (.func 86) #[] #[.pointer (some ⟨b4, 0, none⟩)]) (fun w => by kernel_rfl) kr ?_
  refine s_val (some 10) (.func (.func 86) #[] #[.pointer (some ⟨b4, 0, none⟩)]) (fun w => by kernel_rfl) kr ?_
  refine s_nil ?_
  refine g_sreg [0, 1, 2] kr kr ?_
  refine s_call H6 (some 23) 55 #[.int .u64 1] (uv 1) (small_fn 1 (by omega)) (fun w => by kernel_rfl) kr ?_
  intro w7 H7; clear H6
  refine s_alloc H7 (some 11) 24 (.agg #[.int .u64 0, .int .u64 0, .int .u64 0, .int .u64 0]) kr kr kr ?_
  intro b5 w8 H8; clear H7
  refine s_store H8 0 [(b5, Obj.cells (Value.cells (uv 1)) 24 (0, 0)), (b4, Obj.cells (Value.cells (uv PR)) 24 (0, 0)), (b3, Obj.cells #[.int .u64 0, .int .u64 0, .int .u64 0, .int .u64 0] 24 (0, 0)), (b2, Obj.cells (Value.cells (uv n)) 24 (0, 0)), (b1, Obj.cells (Value.cells (uv A)) 24 (0, 0))] 24 (.tmp 11) (.tmp 23) b5 0 #[.int .u64 0, .int .u64 0, .int .u64 0, .int .u64 0] (Value.cells (uv 1)) 24 (uv 1) kr kr kr kr kr kr (of_decide_eq_true kr) kr kr ?_
  intro w9 H9; clear H8
  refine s_nil ?_
  refine g_seq kr ?_
  refine g_sreg [0, 1, 2, 3] kr kr ?_
  refine s_load H9 (some 24) 24 (.tmp 4) 3 b2 (Value.cells (uv n)) 24 (0, 0) kr kr kr kr kr ?_
  refine s_call H9 (some 25) 87 #[uv n] (.int .i64 (len n : Int)) (len_fn n hn) (fun w => by kernel_rfl) kr ?_
  intro w10 H10; clear H9
  refine s_valE (some 26) (.int .i64 (IntKind.i64.wrap ((len n : Int) - 1))) (.int .i64 ((len n : Int) - 1)) (fun w => by kernel_rfl) (int_eq (by rw [wrap_i64] <;> (have := len_le hn; omega))) kr ?_
  refine s_val (some 12) (.int .i64 ((len n : Int) - 1)) (fun w => by kernel_rfl) kr ?_
  refine s_nil ?_
  refine g_block 0 kr ?_
  have hst : uv 1 = uv (fpw A (n / 2 ^ len n) PR) := congrArg uv (fpw_start pr_ok (lt_two_pow_len n))
  rw [hst] at H10
  refine g_loop kr (fun m ρ x => ∃ (k : Nat), k = m ∧ (k ≤ 256) ∧ St w.heap.size w x [(b5, Obj.cells (Value.cells (uv (fpw A (n / 2 ^ k) PR))) 24 (0, 0)), (b4, Obj.cells (Value.cells (uv PR)) 24 (0, 0)), (b3, Obj.cells #[.int .u64 0, .int .u64 0, .int .u64 0, .int .u64 0] 24 (0, 0)), (b2, Obj.cells (Value.cells (uv n)) 24 (0, 0)), (b1, Obj.cells (Value.cells (uv A)) 24 (0, 0))] ∧ Is [(0, uv A), (1, uv n), (2, .int .i64 0), (3, .pointer (some ⟨b1, 0, none⟩)), (4, .pointer (some ⟨b2, 0, none⟩)), (6, .pointer (some ⟨b3, 0, none⟩)), (7, .int .i64 0), (8, .pointer (some ⟨b4, 0, none⟩)), (9, .int .i64 0), (10, .func (.func 86) #[] #[.pointer (some ⟨b4, 0, none⟩)]), (11, .pointer (some ⟨b5, 0, none⟩)), (12, .int .i64 ((k : Int) - 1)), (19, .bool false)] ρ) (len n) ⟨(len n), rfl, (len_le hn), H10, (Is.of ⟨kr, kr, kr, kr, kr, kr, kr, kr, kr, kr, kr, kr, kr, trivial⟩)⟩ ?_
  clear H10
  rintro _ _ w11 ⟨k, rfl, hk, H11, _, rfl⟩
  refine g_seq kr ?_
  refine g_sreg [0, 1] kr kr ?_
  refine s_val (some 27) (.int .i64 ((k : Int) - 1)) (fun w => by kernel_rfl) kr ?_
  by_cases hc : 1 ≤ k
  · skip
    refine s_valE (some 28) (.bool (decide (0 ≤ (k : Int) - 1))) (.bool true) (fun w => by kernel_rfl) (bool_eq (decide_eq_true (by omega))) kr ?_
    refine s_nil ?_
    refine g_cond_t kr kr ?_
    refine g_skip kr ?_
    show WP _ _ _ _ _ _
    refine g_seq kr ?_
    refine g_block 1 kr ?_
    refine g_sreg [0, 1, 2, 3, 4] kr kr ?_
    refine s_val (some 31) (.func (.func 86) #[] #[.pointer (some ⟨b4, 0, none⟩)]) (fun w => by kernel_rfl) kr ?_
    refine s_load H11 (some 32) 24 (.tmp 11) 0 b5 (Value.cells (uv (fpw A (n / 2 ^ k) PR))) 24 (0, 0) kr kr kr kr kr ?_
    refine s_load H11 (some 33) 24 (.tmp 11) 0 b5 (Value.cells (uv (fpw A (n / 2 ^ k) PR))) 24 (0, 0) kr kr kr kr kr ?_
    refine s_callP H11 (some 34) 86 #[uv (fpw A (n / 2 ^ k) PR), uv (fpw A (n / 2 ^ k) PR), .pointer (some ⟨b4, 0, none⟩)] (fun w => w.heap[b4]? = some (.cells (Value.cells (uv PR)) 24 (0, 0))) (uv (rs (pl (fpw A (n / 2 ^ k) PR) (fpw A (n / 2 ^ k) PR)) (ph (fpw A (n / 2 ^ k) PR) (fpw A (n / 2 ^ k) PR)) PR)) (ftimes_fn (fpw A (n / 2 ^ k) PR) (fpw A (n / 2 ^ k) PR) PR b4 (fpw_lt pr_ok) (fpw_lt pr_ok) pr_ok) (H11.get 1 kr) (fun w => by kernel_rfl) kr ?_
    intro w12 H12; clear H11
    refine s_store H12 0 [(b5, Obj.cells (Value.cells (uv (rs (pl (fpw A (n / 2 ^ k) PR) (fpw A (n / 2 ^ k) PR)) (ph (fpw A (n / 2 ^ k) PR) (fpw A (n / 2 ^ k) PR)) PR))) 24 (0, 0)), (b4, Obj.cells (Value.cells (uv PR)) 24 (0, 0)), (b3, Obj.cells #[.int .u64 0, .int .u64 0, .int .u64 0, .int .u64 0] 24 (0, 0)), (b2, Obj.cells (Value.cells (uv n)) 24 (0, 0)), (b1, Obj.cells (Value.cells (uv A)) 24 (0, 0))] 24 (.tmp 11) (.tmp 34) b5 0 (Value.cells (uv (fpw A (n / 2 ^ k) PR))) (Value.cells (uv (rs (pl (fpw A (n / 2 ^ k) PR) (fpw A (n / 2 ^ k) PR)) (ph (fpw A (n / 2 ^ k) PR) (fpw A (n / 2 ^ k) PR)) PR))) 24 (uv (rs (pl (fpw A (n / 2 ^ k) PR) (fpw A (n / 2 ^ k) PR)) (ph (fpw A (n / 2 ^ k) PR) (fpw A (n / 2 ^ k) PR)) PR)) kr kr kr kr kr kr (of_decide_eq_true kr) kr kr ?_
    intro w13 H13; clear H12
    refine s_nil ?_
    refine g_sreg [0, 1, 2] kr kr ?_
    refine s_load H13 (some 35) 24 (.tmp 4) 3 b2 (Value.cells (uv n)) 24 (0, 0) kr kr kr kr kr ?_
    refine s_valE (some 36) (.int .i64 ((k : Int) - 1)) (.int .i64 ((k - 1 : Nat) : Int)) (fun w => by kernel_rfl) (int_eq (by omega)) kr ?_
    refine s_call H13 (some 37) 81 #[uv n, .int .i64 ((k - 1 : Nat) : Int)] (.bool (bt n ((k - 1 : Nat) : Int))) (bit_fn n ((k - 1 : Nat) : Int)) (fun w => by kernel_rfl) kr ?_
    intro w14 H14; clear H13
    cases hbt : bt n ((k - 1 : Nat) : Int)
    · skip
      refine s_nil ?_
      refine g_cond_f kr kr ?_
      refine g_skip kr ?_
      show WP _ _ _ _ _ _
      refine g_reg0 [0, 1, 2] kr ?_
      refine s_val (some 29) (.int .i64 ((k : Int) - 1)) (fun w => by kernel_rfl) kr ?_
      refine s_valE (some 30) (.int .i64 (IntKind.i64.wrap (((k : Int) - 1) - 1))) (.int .i64 (((k - 1 : Nat) : Int) - 1)) (fun w => by kernel_rfl) (int_eq (by rw [wrap_i64 (by omega) (by omega)]; omega)) kr ?_
      refine s_val (some 12) (.int .i64 (((k - 1 : Nat) : Int) - 1)) (fun w => by kernel_rfl) kr ?_
      refine s_nil ?_
      rw [bt_nat (by omega)] at hbt
      have hst : (rs (pl (fpw A (n / 2 ^ k) PR) (fpw A (n / 2 ^ k) PR)) (ph (fpw A (n / 2 ^ k) PR) (fpw A (n / 2 ^ k) PR)) PR) = fpw A (n / 2 ^ (k - 1)) PR := fpw_double (by omega) hbt
      rw [hst] at H14
      show ∃ m, _ ∧ _
      exact ⟨_, (show k - 1 < k by omega), (k - 1), rfl, (by omega), H14, (Is.of ⟨kr, kr, kr, kr, kr, kr, kr, kr, kr, kr, kr, kr, kr, trivial⟩)⟩
    · skip
      refine s_nil ?_
      refine g_cond_t kr kr ?_
      refine g_reg0 [0, 1, 2, 3, 4] kr ?_
      refine s_val (some 38) (.func (.func 86) #[] #[.pointer (some ⟨b4, 0, none⟩)]) (fun w => by kernel_rfl) kr ?_
      refine s_load H14 (some 39) 24 (.tmp 11) 0 b5 (Value.cells (uv (rs (pl (fpw A (n / 2 ^ k) PR) (fpw A (n / 2 ^ k) PR)) (ph (fpw A (n / 2 ^ k) PR) (fpw A (n / 2 ^ k) PR)) PR))) 24 (0, 0) kr kr kr kr kr ?_
      refine s_load H14 (some 40) 24 (.tmp 3) 4 b1 (Value.cells (uv A)) 24 (0, 0) kr kr kr kr kr ?_
      refine s_callP H14 (some 41) 86 #[uv (rs (pl (fpw A (n / 2 ^ k) PR) (fpw A (n / 2 ^ k) PR)) (ph (fpw A (n / 2 ^ k) PR) (fpw A (n / 2 ^ k) PR)) PR), uv A, .pointer (some ⟨b4, 0, none⟩)] (fun w => w.heap[b4]? = some (.cells (Value.cells (uv PR)) 24 (0, 0))) (uv (rs (pl (rs (pl (fpw A (n / 2 ^ k) PR) (fpw A (n / 2 ^ k) PR)) (ph (fpw A (n / 2 ^ k) PR) (fpw A (n / 2 ^ k) PR)) PR) A) (ph (rs (pl (fpw A (n / 2 ^ k) PR) (fpw A (n / 2 ^ k) PR)) (ph (fpw A (n / 2 ^ k) PR) (fpw A (n / 2 ^ k) PR)) PR) A) PR)) (ftimes_fn (rs (pl (fpw A (n / 2 ^ k) PR) (fpw A (n / 2 ^ k) PR)) (ph (fpw A (n / 2 ^ k) PR) (fpw A (n / 2 ^ k) PR)) PR) A PR b4 (rs_lt pr_ok) hA pr_ok) (H14.get 1 kr) (fun w => by kernel_rfl) kr ?_
      intro w15 H15; clear H14
      refine s_store H15 0 [(b5, Obj.cells (Value.cells (uv (rs (pl (rs (pl (fpw A (n / 2 ^ k) PR) (fpw A (n / 2 ^ k) PR)) (ph (fpw A (n / 2 ^ k) PR) (fpw A (n / 2 ^ k) PR)) PR) A) (ph (rs (pl (fpw A (n / 2 ^ k) PR) (fpw A (n / 2 ^ k) PR)) (ph (fpw A (n / 2 ^ k) PR) (fpw A (n / 2 ^ k) PR)) PR) A) PR))) 24 (0, 0)), (b4, Obj.cells (Value.cells (uv PR)) 24 (0, 0)), (b3, Obj.cells #[.int .u64 0, .int .u64 0, .int .u64 0, .int .u64 0] 24 (0, 0)), (b2, Obj.cells (Value.cells (uv n)) 24 (0, 0)), (b1, Obj.cells (Value.cells (uv A)) 24 (0, 0))] 24 (.tmp 11) (.tmp 41) b5 0 (Value.cells (uv (rs (pl (fpw A (n / 2 ^ k) PR) (fpw A (n / 2 ^ k) PR)) (ph (fpw A (n / 2 ^ k) PR) (fpw A (n / 2 ^ k) PR)) PR))) (Value.cells (uv (rs (pl (rs (pl (fpw A (n / 2 ^ k) PR) (fpw A (n / 2 ^ k) PR)) (ph (fpw A (n / 2 ^ k) PR) (fpw A (n / 2 ^ k) PR)) PR) A) (ph (rs (pl (fpw A (n / 2 ^ k) PR) (fpw A (n / 2 ^ k) PR)) (ph (fpw A (n / 2 ^ k) PR) (fpw A (n / 2 ^ k) PR)) PR) A) PR))) 24 (uv (rs (pl (rs (pl (fpw A (n / 2 ^ k) PR) (fpw A (n / 2 ^ k) PR)) (ph (fpw A (n / 2 ^ k) PR) (fpw A (n / 2 ^ k) PR)) PR) A) (ph (rs (pl (fpw A (n / 2 ^ k) PR) (fpw A (n / 2 ^ k) PR)) (ph (fpw A (n / 2 ^ k) PR) (fpw A (n / 2 ^ k) PR)) PR) A) PR)) kr kr kr kr kr kr (of_decide_eq_true kr) kr kr ?_
      intro w16 H16; clear H15
      refine s_nil ?_
      show WP _ _ _ _ _ _
      refine g_reg0 [0, 1, 2] kr ?_
      refine s_val (some 29) (.int .i64 ((k : Int) - 1)) (fun w => by kernel_rfl) kr ?_
      refine s_valE (some 30) (.int .i64 (IntKind.i64.wrap (((k : Int) - 1) - 1))) (.int .i64 (((k - 1 : Nat) : Int) - 1)) (fun w => by kernel_rfl) (int_eq (by rw [wrap_i64 (by omega) (by omega)]; omega)) kr ?_
      refine s_val (some 12) (.int .i64 (((k - 1 : Nat) : Int) - 1)) (fun w => by kernel_rfl) kr ?_
      refine s_nil ?_
      rw [bt_nat (by omega)] at hbt
      have hst : (rs (pl (rs (pl (fpw A (n / 2 ^ k) PR) (fpw A (n / 2 ^ k) PR)) (ph (fpw A (n / 2 ^ k) PR) (fpw A (n / 2 ^ k) PR)) PR) A) (ph (rs (pl (fpw A (n / 2 ^ k) PR) (fpw A (n / 2 ^ k) PR)) (ph (fpw A (n / 2 ^ k) PR) (fpw A (n / 2 ^ k) PR)) PR) A) PR) = fpw A (n / 2 ^ (k - 1)) PR := fpw_odd (by omega) hbt
      rw [hst] at H16
      show ∃ m, _ ∧ _
      exact ⟨_, (show k - 1 < k by omega), (k - 1), rfl, (by omega), H16, (Is.of ⟨kr, kr, kr, kr, kr, kr, kr, kr, kr, kr, kr, kr, kr, trivial⟩)⟩
  · skip
    refine s_valE (some 28) (.bool (decide (0 ≤ (k : Int) - 1))) (.bool false) (fun w => by kernel_rfl) (bool_eq (decide_eq_false (by omega))) kr ?_
    obtain rfl : k = 0 := by omega
    refine s_nil ?_
    refine g_cond_f kr kr ?_
    refine g_exit 0 kr ?_
    show WP _ _ _ _ _ _
    refine g_sreg [0, 1, 2] kr kr ?_
    refine s_load H11 (some 42) 24 (.tmp 11) 0 b5 (Value.cells (uv (fpw A (n / 2 ^ 0) PR))) 24 (0, 0) kr kr kr kr kr ?_
    refine s_store H11 2 [(b5, Obj.cells (Value.cells (uv (fpw A (n / 2 ^ 0) PR))) 24 (0, 0)), (b4, Obj.cells (Value.cells (uv PR)) 24 (0, 0)), (b3, Obj.cells (Value.cells (uv (fpw A (n / 2 ^ 0) PR))) 24 (0, 0)), (b2, Obj.cells (Value.cells (uv n)) 24 (0, 0)), (b1, Obj.cells (Value.cells (uv A)) 24 (0, 0))] 24 (.tmp 6) (.tmp 42) b3 0 #[.int .u64 0, .int .u64 0, .int .u64 0, .int .u64 0] (Value.cells (uv (fpw A (n / 2 ^ 0) PR))) 24 (uv (fpw A (n / 2 ^ 0) PR)) kr kr kr kr kr kr (of_decide_eq_true kr) kr kr ?_
    intro w17 H17; clear H11
    refine s_val (some 7) (.int .i64 0) (fun w => by kernel_rfl) kr ?_
    refine s_nil ?_
    refine g_ret kr ?_
    show ∃ vs, Res _ _ _ _ vs ∧ _
    refine ⟨[uv (fpw A (n / 2 ^ 0) PR), .int .i64 0], (.agg (b := b3) (Value.cells (uv (fpw A (n / 2 ^ 0) PR))) 24 (0, 0) kr (H17.get 2 kr) kr (.tmp (.int .i64 0) kr .nil)), ?_, H17.below⟩
    exact congrArg (fun q => Value.tuple #[uv (fpw A q PR), .int .i64 0]) (Nat.div_one n)
set_option maxRecDepth 100000 in
theorem pow1_fn (A n : Nat) (hA : A < big) (hn : n < big) : Fn Tryd.prog 56 #[uv A, uv n, .int .i64 1] (.tuple #[uv (fpw A n NR), .int .i64 0]) := by
  refine Fn.intro (c := codeOf Tryd.f56) [.cell 6 24, .tmp 7] 43 Tryd.func56 kr kr kr fun w => ?_
  have H0 := St.start w
  refine g_sreg [0, 1, 2, 3] kr kr ?_
  refine s_box H0 (some 3) 24 (.tmp 0) (uv A) kr kr kr ?_
  intro b1 w1 H1; clear H0
  refine s_box H1 (some 4) 24 (.tmp 1) (uv n) kr kr kr ?_
  intro b2 w2 H2; clear H1
  refine s_alloc H2 (some 6) 24 (.agg #[.int .u64 0, .int .u64 0, .int .u64 0, .int .u64 0]) kr kr kr ?_
  intro b3 w3 H3; clear H2
  refine s_val (some 7) (.int .i64 0) (fun w => by kernel_rfl) kr ?_
  refine s_nil ?_
  refine g_sreg [0, 1, 2, 3, 4, 5, 6, 7] kr kr ?_
  refine s_val (some 14) (.int .i64 1) (fun w => by kernel_rfl) kr ?_
  refine s_call H3 (some 15) 52 #[.int .i64 1] (.tuple #[uv NR, .int .i64 0]) prime1_fn (fun w => by kernel_rfl) kr ?_
  intro w4 H4; clear H3
  refine s_val (some 13) (.tuple #[uv NR, .int .i64 0]) (fun w => by kernel_rfl) kr ?_
  refine s_val (some 16) (uv NR) (fun w => by kernel_rfl) kr ?_
  refine s_val (some 17) (.int .i64 0) (fun w => by kernel_rfl) kr ?_
  refine s_alloc H4 (some 8) 24 (.agg #[.int .u64 0, .int .u64 0, .int .u64 0, .int .u64 0]) kr kr kr ?_
  intro b4 w5 H5; clear H4
  refine s_store H5 0 [(b4, Obj.cells (Value.cells (uv NR)) 24 (0, 0)), (b3, Obj.cells #[.int .u64 0, .int .u64 0, .int .u64 0, .int .u64 0] 24 (0, 0)), (b2, Obj.cells (Value.cells (uv n)) 24 (0, 0)), (b1, Obj.cells (Value.cells (uv A)) 24 (0, 0))] 24 (.tmp 8) (.tmp 16) b4 0 #[.int .u64 0, .int .u64 0, .int .u64 0, .int .u64 0] (Value.cells (uv NR)) 24 (uv NR) kr kr kr kr kr kr (of_decide_eq_true kr) kr kr ?_
  intro w6 H6; clear H5
  refine s_val (some 9) (.int .i64 0) (fun w => by kernel_rfl) kr ?_
  refine s_nil ?_
  refine g_seq kr ?_
  refine g_sreg [0, 1] kr kr ?_
  refine s_val (some 18) (.int .i64 0) (fun w => by kernel_rfl) kr ?_
  refine s_val (some 19) (.bool false) (fun w => by kernel_rfl) kr ?_
  refine s_nil ?_
  refine g_cond_f kr kr ?_
  refine g_skip kr ?_
  show WP _ _ _ _ _ _
  refine g_sreg [0, 1] kr kr ?_
  refine s_val (some 22) (.func (.func 86) #[] #[.pointer (some ⟨b4, 0, none⟩)]) (fun w => by kernel_rfl) kr ?_
  refine s_val (some 10) (.func (.func 86) #[] #[.pointer (some ⟨b4, 0, none⟩)]) (fun w => by kernel_rfl) kr ?_
  refine s_nil ?_
  refine g_sreg [0, 1, 2] kr kr ?_
  refine s_call H6 (some 23) 55 #[.int .u64 1] (uv 1) (small_fn 1 (by omega)) (fun w => by kernel_rfl) kr ?_
  intro w7 H7; clear H6
  refine s_alloc H7 (some 11) 24 (.agg #[.int .u64 0, .int .u64 0, .int .u64 0, .int .u64 0]) kr kr kr ?_
  intro b5 w8 H8; clear H7
  refine s_store H8 0 [(b5, Obj.cells (Value.cells (uv 1)) 24 (0, 0)), (b4, Obj.cells (Value.cells (uv NR)) 24 (0, 0)), (b3, Obj.cells #[.int .u64 0, .int .u64 0, .int .u64 0, .int .u64 0] 24 (0, 0)), (b2, Obj.cells (Value.cells (uv n)) 24 (0, 0)), (b1, Obj.cells (Value.cells (uv A)) 24 (0, 0))] 24 (.tmp 11) (.tmp 23) b5 0 #[.int .u64 0, .int .u64 0, .int .u64 0, .int .u64 0] (Value.cells (uv 1)) 24 (uv 1) kr kr kr kr kr kr (of_decide_eq_true kr) kr kr ?_
  intro w9 H9; clear H8
  refine s_nil ?_
  refine g_seq kr ?_
  refine g_sreg [0, 1, 2, 3] kr kr ?_
  refine s_load H9 (some 24) 24 (.tmp 4) 3 b2 (Value.cells (uv n)) 24 (0, 0) kr kr kr kr kr ?_
  refine s_call H9 (some 25) 87 #[uv n] (.int .i64 (len n : Int)) (len_fn n hn) (fun w => by kernel_rfl) kr ?_
  intro w10 H10; clear H9
  refine s_valE (some 26) (.int .i64 (IntKind.i64.wrap ((len n : Int) - 1))) (.int .i64 ((len n : Int) - 1)) (fun w => by kernel_rfl) (int_eq (by rw [wrap_i64] <;> (have := len_le hn; omega))) kr ?_
  refine s_val (some 12) (.int .i64 ((len n : Int) - 1)) (fun w => by kernel_rfl) kr ?_
  refine s_nil ?_
  refine g_block 0 kr ?_
  have hst : uv 1 = uv (fpw A (n / 2 ^ len n) NR) := congrArg uv (fpw_start nr_ok (lt_two_pow_len n))
  rw [hst] at H10
  refine g_loop kr (fun m ρ x => ∃ (k : Nat), k = m ∧ (k ≤ 256) ∧ St w.heap.size w x [(b5, Obj.cells (Value.cells (uv (fpw A (n / 2 ^ k) NR))) 24 (0, 0)), (b4, Obj.cells (Value.cells (uv NR)) 24 (0, 0)), (b3, Obj.cells #[.int .u64 0, .int .u64 0, .int .u64 0, .int .u64 0] 24 (0, 0)), (b2, Obj.cells (Value.cells (uv n)) 24 (0, 0)), (b1, Obj.cells (Value.cells (uv A)) 24 (0, 0))] ∧ Is [(0, uv A), (1, uv n), (2, .int .i64 1), (3, .pointer (some ⟨b1, 0, none⟩)), (4, .pointer (some ⟨b2, 0, none⟩)), (6, .pointer (some ⟨b3, 0, none⟩)), (7, .int .i64 0), (8, .pointer (some ⟨b4, 0, none⟩)), (9, .int .i64 0), (10, .func (.func 86) #[] #[.pointer (some ⟨b4, 0, none⟩)]), (11, .pointer (some ⟨b5, 0, none⟩)), (12, .int .i64 ((k : Int) - 1)), (19, .bool false)] ρ) (len n) ⟨(len n), rfl, (len_le hn), H10, (Is.of ⟨kr, kr, kr, kr, kr, kr, kr, kr, kr, kr, kr, kr, kr, trivial⟩)⟩ ?_
  clear H10
  rintro _ _ w11 ⟨k, rfl, hk, H11, _, rfl⟩
  refine g_seq kr ?_
  refine g_sreg [0, 1] kr kr ?_
  refine s_val (some 27) (.int .i64 ((k : Int) - 1)) (fun w => by kernel_rfl) kr ?_
  by_cases hc : 1 ≤ k
  · skip
    refine s_valE (some 28) (.bool (decide (0 ≤ (k : Int) - 1))) (.bool true) (fun w => by kernel_rfl) (bool_eq (decide_eq_true (by omega))) kr ?_
    refine s_nil ?_
    refine g_cond_t kr kr ?_
    refine g_skip kr ?_
    show WP _ _ _ _ _ _
    refine g_seq kr ?_
    refine g_block 1 kr ?_
    refine g_sreg [0, 1, 2, 3, 4] kr kr ?_
    refine s_val (some 31) (.func (.func 86) #[] #[.pointer (some ⟨b4, 0, none⟩)]) (fun w => by kernel_rfl) kr ?_
    refine s_load H11 (some 32) 24 (.tmp 11) 0 b5 (Value.cells (uv (fpw A (n / 2 ^ k) NR))) 24 (0, 0) kr kr kr kr kr ?_
    refine s_load H11 (some 33) 24 (.tmp 11) 0 b5 (Value.cells (uv (fpw A (n / 2 ^ k) NR))) 24 (0, 0) kr kr kr kr kr ?_
    refine s_callP H11 (some 34) 86 #[uv (fpw A (n / 2 ^ k) NR), uv (fpw A (n / 2 ^ k) NR), .pointer (some ⟨b4, 0, none⟩)] (fun w => w.heap[b4]? = some (.cells (Value.cells (uv NR)) 24 (0, 0))) (uv (rs (pl (fpw A (n / 2 ^ k) NR) (fpw A (n / 2 ^ k) NR)) (ph (fpw A (n / 2 ^ k) NR) (fpw A (n / 2 ^ k) NR)) NR)) (ftimes_fn (fpw A (n / 2 ^ k) NR) (fpw A (n / 2 ^ k) NR) NR b4 (fpw_lt nr_ok) (fpw_lt nr_ok) nr_ok) (H11.get 1 kr) (fun w => by kernel_rfl) kr ?_
    intro w12 H12; clear H11
    refine s_store H12 0 [(b5, Obj.cells (Value.cells (uv (rs (pl (fpw A (n / 2 ^ k) NR) (fpw A (n / 2 ^ k) NR)) (ph (fpw A (n / 2 ^ k) NR) (fpw A (n / 2 ^ k) NR)) NR))) 24 (0, 0)), (b4, Obj.cells (Value.cells (uv NR)) 24 (0, 0)), (b3, Obj.cells #[.int .u64 0, .int .u64 0, .int .u64 0, .int .u64 0] 24 (0, 0)), (b2, Obj.cells (Value.cells (uv n)) 24 (0, 0)), (b1, Obj.cells (Value.cells (uv A)) 24 (0, 0))] 24 (.tmp 11) (.tmp 34) b5 0 (Value.cells (uv (fpw A (n / 2 ^ k) NR))) (Value.cells (uv (rs (pl (fpw A (n / 2 ^ k) NR) (fpw A (n / 2 ^ k) NR)) (ph (fpw A (n / 2 ^ k) NR) (fpw A (n / 2 ^ k) NR)) NR))) 24 (uv (rs (pl (fpw A (n / 2 ^ k) NR) (fpw A (n / 2 ^ k) NR)) (ph (fpw A (n / 2 ^ k) NR) (fpw A (n / 2 ^ k) NR)) NR)) kr kr kr kr kr kr (of_decide_eq_true kr) kr kr ?_
    intro w13 H13; clear H12
    refine s_nil ?_
    refine g_sreg [0, 1, 2] kr kr ?_
    refine s_load H13 (some 35) 24 (.tmp 4) 3 b2 (Value.cells (uv n)) 24 (0, 0) kr kr kr kr kr ?_
    refine s_valE (some 36) (.int .i64 ((k : Int) - 1)) (.int .i64 ((k - 1 : Nat) : Int)) (fun w => by kernel_rfl) (int_eq (by omega)) kr ?_
    refine s_call H13 (some 37) 81 #[uv n, .int .i64 ((k - 1 : Nat) : Int)] (.bool (bt n ((k - 1 : Nat) : Int))) (bit_fn n ((k - 1 : Nat) : Int)) (fun w => by kernel_rfl) kr ?_
    intro w14 H14; clear H13
    cases hbt : bt n ((k - 1 : Nat) : Int)
    · skip
      refine s_nil ?_
      refine g_cond_f kr kr ?_
      refine g_skip kr ?_
      show WP _ _ _ _ _ _
      refine g_reg0 [0, 1, 2] kr ?_
      refine s_val (some 29) (.int .i64 ((k : Int) - 1)) (fun w => by kernel_rfl) kr ?_
      refine s_valE (some 30) (.int .i64 (IntKind.i64.wrap (((k : Int) - 1) - 1))) (.int .i64 (((k - 1 : Nat) : Int) - 1)) (fun w => by kernel_rfl) (int_eq (by rw [wrap_i64 (by omega) (by omega)]; omega)) kr ?_
      refine s_val (some 12) (.int .i64 (((k - 1 : Nat) : Int) - 1)) (fun w => by kernel_rfl) kr ?_
      refine s_nil ?_
      rw [bt_nat (by omega)] at hbt
      have hst : (rs (pl (fpw A (n / 2 ^ k) NR) (fpw A (n / 2 ^ k) NR)) (ph (fpw A (n / 2 ^ k) NR) (fpw A (n / 2 ^ k) NR)) NR) = fpw A (n / 2 ^ (k - 1)) NR := fpw_double (by omega) hbt
      rw [hst] at H14
      show ∃ m, _ ∧ _
      exact ⟨_, (show k - 1 < k by omega), (k - 1), rfl, (by omega), H14, (Is.of ⟨kr, kr, kr, kr, kr, kr, kr, kr, kr, kr, kr, kr, kr, trivial⟩)⟩
    · skip
      refine s_nil ?_
      refine g_cond_t kr kr ?_
      refine g_reg0 [0, 1, 2, 3, 4] kr ?_
      refine s_val (some 38) (.func (.func 86) #[] #[.pointer (some ⟨b4, 0, none⟩)]) (fun w => by kernel_rfl) kr ?_
      refine s_load H14 (some 39) 24 (.tmp 11) 0 b5 (Value.cells (uv (rs (pl (fpw A (n / 2 ^ k) NR) (fpw A (n / 2 ^ k) NR)) (ph (fpw A (n / 2 ^ k) NR) (fpw A (n / 2 ^ k) NR)) NR))) 24 (0, 0) kr kr kr kr kr ?_
      refine s_load H14 (some 40) 24 (.tmp 3) 4 b1 (Value.cells (uv A)) 24 (0, 0) kr kr kr kr kr ?_
      refine s_callP H14 (some 41) 86 #[uv (rs (pl (fpw A (n / 2 ^ k) NR) (fpw A (n / 2 ^ k) NR)) (ph (fpw A (n / 2 ^ k) NR) (fpw A (n / 2 ^ k) NR)) NR), uv A, .pointer (some ⟨b4, 0, none⟩)] (fun w => w.heap[b4]? = some (.cells (Value.cells (uv NR)) 24 (0, 0))) (uv (rs (pl (rs (pl (fpw A (n / 2 ^ k) NR) (fpw A (n / 2 ^ k) NR)) (ph (fpw A (n / 2 ^ k) NR) (fpw A (n / 2 ^ k) NR)) NR) A) (ph (rs (pl (fpw A (n / 2 ^ k) NR) (fpw A (n / 2 ^ k) NR)) (ph (fpw A (n / 2 ^ k) NR) (fpw A (n / 2 ^ k) NR)) NR) A) NR)) (ftimes_fn (rs (pl (fpw A (n / 2 ^ k) NR) (fpw A (n / 2 ^ k) NR)) (ph (fpw A (n / 2 ^ k) NR) (fpw A (n / 2 ^ k) NR)) NR) A NR b4 (rs_lt nr_ok) hA nr_ok) (H14.get 1 kr) (fun w => by kernel_rfl) kr ?_
      intro w15 H15; clear H14
      refine s_store H15 0 [(b5, Obj.cells (Value.cells (uv (rs (pl (rs (pl (fpw A (n / 2 ^ k) NR) (fpw A (n / 2 ^ k) NR)) (ph (fpw A (n / 2 ^ k) NR) (fpw A (n / 2 ^ k) NR)) NR) A) (ph (rs (pl (fpw A (n / 2 ^ k) NR) (fpw A (n / 2 ^ k) NR)) (ph (fpw A (n / 2 ^ k) NR) (fpw A (n / 2 ^ k) NR)) NR) A) NR))) 24 (0, 0)), (b4, Obj.cells (Value.cells (uv NR)) 24 (0, 0)), (b3, Obj.cells #[.int .u64 0, .int .u64 0, .int .u64 0, .int .u64 0] 24 (0, 0)), (b2, Obj.cells (Value.cells (uv n)) 24 (0, 0)), (b1, Obj.cells (Value.cells (uv A)) 24 (0, 0))] 24 (.tmp 11) (.tmp 41) b5 0 (Value.cells (uv (rs (pl (fpw A (n / 2 ^ k) NR) (fpw A (n / 2 ^ k) NR)) (ph (fpw A (n / 2 ^ k) NR) (fpw A (n / 2 ^ k) NR)) NR))) (Value.cells (uv (rs (pl (rs (pl (fpw A (n / 2 ^ k) NR) (fpw A (n / 2 ^ k) NR)) (ph (fpw A (n / 2 ^ k) NR) (fpw A (n / 2 ^ k) NR)) NR) A) (ph (rs (pl (fpw A (n / 2 ^ k) NR) (fpw A (n / 2 ^ k) NR)) (ph (fpw A (n / 2 ^ k) NR) (fpw A (n / 2 ^ k) NR)) NR) A) NR))) 24 (uv (rs (pl (rs (pl (fpw A (n / 2 ^ k) NR) (fpw A (n / 2 ^ k) NR)) (ph (fpw A (n / 2 ^ k) NR) (fpw A (n / 2 ^ k) NR)) NR) A) (ph (rs (pl (fpw A (n / 2 ^ k) NR) (fpw A (n / 2 ^ k) NR)) (ph (fpw A (n / 2 ^ k) NR) (fpw A (n / 2 ^ k) NR)) NR) A) NR)) kr kr kr kr kr kr (of_decide_eq_true kr) kr kr ?_
      intro w16 H16; clear H15
      refine s_nil ?_
      show WP _ _ _ _ _ _
      refine g_reg0 [0, 1, 2] kr ?_
      refine s_val (some 29) (.int .i64 ((k : Int) - 1)) (fun w => by kernel_rfl) kr ?_
      refine s_valE (some 30) (.int .i64 (IntKind.i64.wrap (((k : Int) - 1) - 1))) (.int .i64 (((k - 1 : Nat) : Int) - 1)) (fun w => by kernel_rfl) (int_eq (by rw [wrap_i64 (by omega) (by omega)]; omega)) kr ?_
      refine s_val (some 12) (.int .i64 (((k - 1 : Nat) : Int) - 1)) (fun w => by kernel_rfl) kr ?_
      refine s_nil ?_
      rw [bt_nat (by omega)] at hbt
      have hst : (rs (pl (rs (pl (fpw A (n / 2 ^ k) NR) (fpw A (n / 2 ^ k) NR)) (ph (fpw A (n / 2 ^ k) NR) (fpw A (n / 2 ^ k) NR)) NR) A) (ph (rs (pl (fpw A (n / 2 ^ k) NR) (fpw A (n / 2 ^ k) NR)) (ph (fpw A (n / 2 ^ k) NR) (fpw A (n / 2 ^ k) NR)) NR) A) NR) = fpw A (n / 2 ^ (k - 1)) NR := fpw_odd (by omega) hbt
      rw [hst] at H16
      show ∃ m, _ ∧ _
      exact ⟨_, (show k - 1 < k by omega), (k - 1), rfl, (by omega), H16, (Is.of ⟨kr, kr, kr, kr, kr, kr, kr, kr, kr, kr, kr, kr, kr, trivial⟩)⟩
  · skip
    refine s_valE (some 28) (.bool (decide (0 ≤ (k : Int) - 1))) (.bool false) (fun w => by kernel_rfl) (bool_eq (decide_eq_false (by omega))) kr ?_
    obtain rfl : k = 0 := by omega
    refine s_nil ?_
    refine g_cond_f kr kr ?_
    refine g_exit 0 kr ?_
    show WP _ _ _ _ _ _
    refine g_sreg [0, 1, 2] kr kr ?_
    refine s_load H11 (some 42) 24 (.tmp 11) 0 b5 (Value.cells (uv (fpw A (n / 2 ^ 0) NR))) 24 (0, 0) kr kr kr kr kr ?_
    refine s_store H11 2 [(b5, Obj.cells (Value.cells (uv (fpw A (n / 2 ^ 0) NR))) 24 (0, 0)), (b4, Obj.cells (Value.cells (uv NR)) 24 (0, 0)), (b3, Obj.cells (Value.cells (uv (fpw A (n / 2 ^ 0) NR))) 24 (0, 0)), (b2, Obj.cells (Value.cells (uv n)) 24 (0, 0)), (b1, Obj.cells (Value.cells (uv A)) 24 (0, 0))] 24 (.tmp 6) (.tmp 42) b3 0 #[.int .u64 0, .int .u64 0, .int .u64 0, .int .u64 0] (Value.cells (uv (fpw A (n / 2 ^ 0) NR))) 24 (uv (fpw A (n / 2 ^ 0) NR)) kr kr kr kr kr kr (of_decide_eq_true kr) kr kr ?_
    intro w17 H17; clear H11
    refine s_val (some 7) (.int .i64 0) (fun w => by kernel_rfl) kr ?_
    refine s_nil ?_
    refine g_ret kr ?_
    show ∃ vs, Res _ _ _ _ vs ∧ _
    refine ⟨[uv (fpw A (n / 2 ^ 0) NR), .int .i64 0], (.agg (b := b3) (Value.cells (uv (fpw A (n / 2 ^ 0) NR))) 24 (0, 0) kr (H17.get 2 kr) kr (.tmp (.int .i64 0) kr .nil)), ?_, H17.below⟩
    exact congrArg (fun q => Value.tuple #[uv (fpw A q NR), .int .i64 0]) (Nat.div_one n)
end Go.Proofs.YtmmloghbnpfedaaDoor

namespace Go.Proofs.YtmmloghbnpfedaaDoor
open Go Go.RowKit
set_option linter.unusedVariables false
/-- The power that turns a number. -/
def finv (A M : Nat) : Nat := fpw A (df M 2) M
def QR : Nat := 28948022309329048855892746252171976963317496166410141009864396001977208667916
/-- The root, if there is one. -/
def rt (A : Nat) : Nat := if bt (fpw A QR PR) 0 then fSub 0 (fpw A QR PR) PR else fpw A QR PR
theorem rt_lt (A : Nat) : rt A < big := by unfold rt; split; exact fSub_lt pr_ok; exact fpw_lt pr_ok
theorem qr_lt : QR < big := by unfold QR big; omega
set_option maxRecDepth 100000 in
theorem inv0_fn (A : Nat) (hA : A < big) (hz : rs A 0 PR ≠ 0) : Fn Tryd.prog 21 #[uv A, .int .i64 0] (.tuple #[uv (finv A PR), .int .i64 0]) := by
  refine Fn.intro (c := codeOf Tryd.f21) [.cell 4 24, .tmp 5] 38 Tryd.func21 kr kr kr fun w => ?_
  have H0 := St.start w
  refine g_sreg [0, 1, 2] kr kr ?_
  refine s_box H0 (some 2) 24 (.tmp 0) (uv A) kr kr kr ?_
  intro b1 w1 H1; clear H0
  refine s_alloc H1 (some 4) 24 (.agg #[.int .u64 0, .int .u64 0, .int .u64 0, .int .u64 0]) kr kr kr ?_
  intro b2 w2 H2; clear H1
  refine s_val (some 5) (.int .i64 0) (fun w => by kernel_rfl) kr ?_
  refine s_nil ?_
  refine g_sreg [0, 1, 2, 3, 4, 5, 6, 7] kr kr ?_
  refine s_val (some 11) (.int .i64 0) (fun w => by kernel_rfl) kr ?_
  refine s_call H2 (some 12) 52 #[.int .i64 0] (.tuple #[uv PR, .int .i64 0]) prime0_fn (fun w => by kernel_rfl) kr ?_
  intro w3 H3; clear H2
  refine s_val (some 10) (.tuple #[uv PR, .int .i64 0]) (fun w => by kernel_rfl) kr ?_
  refine s_val (some 13) (uv PR) (fun w => by kernel_rfl) kr ?_
  refine s_val (some 14) (.int .i64 0) (fun w => by kernel_rfl) kr ?_
  refine s_alloc H3 (some 6) 24 (.agg #[.int .u64 0, .int .u64 0, .int .u64 0, .int .u64 0]) kr kr kr ?_
  intro b3 w4 H4; clear H3
  refine s_store H4 0 [(b3, Obj.cells (Value.cells (uv PR)) 24 (0, 0)), (b2, Obj.cells #[.int .u64 0, .int .u64 0, .int .u64 0, .int .u64 0] 24 (0, 0)), (b1, Obj.cells (Value.cells (uv A)) 24 (0, 0))] 24 (.tmp 6) (.tmp 13) b3 0 #[.int .u64 0, .int .u64 0, .int .u64 0, .int .u64 0] (Value.cells (uv PR)) 24 (uv PR) kr kr kr kr kr kr (of_decide_eq_true kr) kr kr ?_
  intro w5 H5; clear H4
  refine s_val (some 7) (.int .i64 0) (fun w => by kernel_rfl) kr ?_
  refine s_nil ?_
  refine g_seq kr ?_
  refine g_sreg [0, 1] kr kr ?_
  refine s_val (some 15) (.int .i64 0) (fun w => by kernel_rfl) kr ?_
  refine s_val (some 16) (.bool false) (fun w => by kernel_rfl) kr ?_
  refine s_nil ?_
  refine g_cond_f kr kr ?_
  refine g_skip kr ?_
  show WP _ _ _ _ _ _
  refine g_seq kr ?_
  refine g_sreg [0, 1, 2, 3, 4, 5] kr kr ?_
  refine s_load H5 (some 19) 24 (.tmp 2) 2 b1 (Value.cells (uv A)) 24 (0, 0) kr kr kr kr kr ?_
  refine s_val (some 20) (.agg #[.int .u64 0, .int .u64 0, .int .u64 0, .int .u64 0]) (fun w => by kernel_rfl) kr ?_
  refine s_load H5 (some 21) 24 (.tmp 6) 0 b3 (Value.cells (uv PR)) 24 (0, 0) kr kr kr kr kr ?_
  refine s_call H5 (some 22) 53 #[uv A, .agg #[.int .u64 0, .int .u64 0, .int .u64 0, .int .u64 0], uv PR] (uv (rs A 0 PR)) (rest_fn A 0 PR hA (by unfold big; omega) pr_ok) (fun w => by kernel_rfl) kr ?_
  intro w6 H6; clear H5
  refine s_val (some 23) (.agg #[.int .u64 0, .int .u64 0, .int .u64 0, .int .u64 0]) (fun w => by kernel_rfl) kr ?_
  refine s_opE (some 24) _ (.bool (decide ((rs A 0 PR) = 0))) (.bool false) kr (fun o w ho => eqU_run (x := (.tmp 22)) (y := (.tmp 23)) (rs A 0 PR) 0 (rs_lt pr_ok) (by unfold big; omega) w ho kr kr) (by rw [decide_eq_false hz] <;> rfl) kr ?_
  refine s_nil ?_
  refine g_cond_f kr kr ?_
  refine g_skip kr ?_
  show WP _ _ _ _ _ _
  refine g_sdraw [0, 1, 2, 3, 4, 5, 6, 7, 8] [((some 27), fun _ => uv PR), ((some 28), fun _ => uv 2), ((some 29), fun _ => .tuple #[uv (df PR 2), .bool (lo PR 2)]), ((some 26), fun _ => .tuple #[uv (df PR 2), .bool (lo PR 2)]), ((some 30), fun _ => uv (df PR 2)), ((some 31), fun _ => .bool (lo PR 2)), ((some 8), fun b => .pointer (some ⟨b, 0, none⟩)), (none, fun _ => undef), ((some 9), fun _ => .bool (lo PR 2))] (fun L g x => St w.heap.size w x ([(b3, Obj.cells (Value.cells (uv PR)) 24 (0, 0)), (b2, Obj.cells #[.int .u64 0, .int .u64 0, .int .u64 0, .int .u64 0] 24 (0, 0)), (b1, Obj.cells (Value.cells (uv A)) 24 (0, 0))] ++ (bif L 6 then [(g 6, (bif L 7 then Obj.cells (Value.cells (uv (df PR 2))) 24 (0, 0) else Obj.cells #[.int .u64 0, .int .u64 0, .int .u64 0, .int .u64 0] 24 (0, 0)))] else []))) kr kr kr kr (H6.drew) ⟨?_, ?_, ?_, ?_, ?_, ?_, ?_, ?_, ?_, trivial⟩ ?_
  · exact gv_load 24 (.tmp 6) (fun _ => 0) (fun g => b3) (Value.cells (uv PR)) 24 (0, 0) (fun _ _ _ h => h) (fun g => by kernel_rfl) (fun g => by kernel_rfl) (fun L g _ => by kernel_rfl) kr
  · exact gv_call 55 #[.int .u64 2] (fun _ _ _ h => h) (small_fn 2 (by omega)) (fun g w => by kernel_rfl)
  · exact gv_call 54 #[uv PR, uv 2] (fun _ _ _ h => h) (sub_fn PR 2 pr_ok.1 (by unfold big; omega)) (fun g w => by kernel_rfl)
  · exact gv_val (fun _ _ _ h => h) (fun g w => by kernel_rfl)
  · exact gv_val (fun _ _ _ h => h) (fun g w => by kernel_rfl)
  · exact gv_val (fun _ _ _ h => h) (fun g w => by kernel_rfl)
  · exact gv_alloc 24 (.agg #[.int .u64 0, .int .u64 0, .int .u64 0, .int .u64 0]) (fun L g => [(b3, Obj.cells (Value.cells (uv PR)) 24 (0, 0)), (b2, Obj.cells #[.int .u64 0, .int .u64 0, .int .u64 0, .int .u64 0] 24 (0, 0)), (b1, Obj.cells (Value.cells (uv A)) 24 (0, 0))]) (fun L g => ([] : List (Nat × Obj))) (fun g => by kernel_rfl) kr (fun L g hN => by (have hn : L 6 = false := hN.1; show ([(b3, Obj.cells (Value.cells (uv PR)) 24 (0, 0)), (b2, Obj.cells #[.int .u64 0, .int .u64 0, .int .u64 0, .int .u64 0] 24 (0, 0)), (b1, Obj.cells (Value.cells (uv A)) 24 (0, 0))] ++ (bif L 6 then [(g 6, (bif L 7 then Obj.cells (Value.cells (uv (df PR 2))) 24 (0, 0) else Obj.cells #[.int .u64 0, .int .u64 0, .int .u64 0, .int .u64 0] 24 (0, 0)))] else [])) = ([(b3, Obj.cells (Value.cells (uv PR)) 24 (0, 0)), (b2, Obj.cells #[.int .u64 0, .int .u64 0, .int .u64 0, .int .u64 0] 24 (0, 0)), (b1, Obj.cells (Value.cells (uv A)) 24 (0, 0))]) ++ (([] : List (Nat × Obj))); rw [hn]; rfl)) (fun L g b hN => by (have hz : L 7 = false := hN.2.2.no 6 7 kr hN.1; show ([(b3, Obj.cells (Value.cells (uv PR)) 24 (0, 0)), (b2, Obj.cells #[.int .u64 0, .int .u64 0, .int .u64 0, .int .u64 0] 24 (0, 0)), (b1, Obj.cells (Value.cells (uv A)) 24 (0, 0))]) ++ (b, Obj.cells #[.int .u64 0, .int .u64 0, .int .u64 0, .int .u64 0] 24 (0, 0)) :: (([] : List (Nat × Obj))) = ([(b3, Obj.cells (Value.cells (uv PR)) 24 (0, 0)), (b2, Obj.cells #[.int .u64 0, .int .u64 0, .int .u64 0, .int .u64 0] 24 (0, 0)), (b1, Obj.cells (Value.cells (uv A)) 24 (0, 0))] ++ ([(b, (bif L 7 then Obj.cells (Value.cells (uv (df PR 2))) 24 (0, 0) else Obj.cells #[.int .u64 0, .int .u64 0, .int .u64 0, .int .u64 0] 24 (0, 0)))])); rw [hz]; rfl))
  · exact gv_store (fun _ => 3) 24 (.tmp 8) (.tmp 30) (fun g => g 6) 0 #[.int .u64 0, .int .u64 0, .int .u64 0, .int .u64 0] (Value.cells (uv (df PR 2))) 24 (uv (df PR 2)) (fun g => by kernel_rfl) (fun g => by kernel_rfl) (fun g => by kernel_rfl) kr kr (of_decide_eq_true kr) kr (fun L g hN => by (have hs7 : L 7 = false := hN.1; have hs6 : L 6 = true := before_yes hN.2.1 6 kr; show ([(b3, Obj.cells (Value.cells (uv PR)) 24 (0, 0)), (b2, Obj.cells #[.int .u64 0, .int .u64 0, .int .u64 0, .int .u64 0] 24 (0, 0)), (b1, Obj.cells (Value.cells (uv A)) 24 (0, 0))] ++ (bif L 6 then [(g 6, (bif L 7 then Obj.cells (Value.cells (uv (df PR 2))) 24 (0, 0) else Obj.cells #[.int .u64 0, .int .u64 0, .int .u64 0, .int .u64 0] 24 (0, 0)))] else []))[(fun _ => 3) L]? = some (g 6, Obj.cells #[.int .u64 0, .int .u64 0, .int .u64 0, .int .u64 0] 24 (0, 0)) ∧ ([(b3, Obj.cells (Value.cells (uv PR)) 24 (0, 0)), (b2, Obj.cells #[.int .u64 0, .int .u64 0, .int .u64 0, .int .u64 0] 24 (0, 0)), (b1, Obj.cells (Value.cells (uv A)) 24 (0, 0))] ++ (bif L 6 then [(g 6, (bif L 7 then Obj.cells (Value.cells (uv (df PR 2))) 24 (0, 0) else Obj.cells #[.int .u64 0, .int .u64 0, .int .u64 0, .int .u64 0] 24 (0, 0)))] else [])).set ((fun _ => 3) L) (g 6, Obj.cells (Value.cells (uv (df PR 2))) 24 (0, 0)) = ([(b3, Obj.cells (Value.cells (uv PR)) 24 (0, 0)), (b2, Obj.cells #[.int .u64 0, .int .u64 0, .int .u64 0, .int .u64 0] 24 (0, 0)), (b1, Obj.cells (Value.cells (uv A)) 24 (0, 0))] ++ (bif L 6 then [(g 6, (bif true then Obj.cells (Value.cells (uv (df PR 2))) 24 (0, 0) else Obj.cells #[.int .u64 0, .int .u64 0, .int .u64 0, .int .u64 0] 24 (0, 0)))] else [])); rw [hs7, hs6]; exact ⟨rfl, rfl⟩))
  · exact gv_val (fun _ _ _ h => h) (fun g w => by kernel_rfl)
  intro L0 g7 w7 hall HL; clear H6
  have H7 : St w.heap.size w w7 [(b3, Obj.cells (Value.cells (uv PR)) 24 (0, 0)), (b2, Obj.cells #[.int .u64 0, .int .u64 0, .int .u64 0, .int .u64 0] 24 (0, 0)), (b1, Obj.cells (Value.cells (uv A)) 24 (0, 0)), ((g7 6), Obj.cells (Value.cells (uv (df PR 2))) 24 (0, 0))] := by have e7 := hall 7 (Nat.le_of_ble_eq_true kr); have e6 := hall 6 (Nat.le_of_ble_eq_true kr); simp only [e7, e6, cond_true] at HL; exact HL
  clear HL hall
  refine g_sreg [0, 1, 2, 3, 4, 5, 6, 7] kr kr ?_
  refine s_load H7 (some 32) 24 (.tmp 2) 2 b1 (Value.cells (uv A)) 24 (0, 0) kr kr kr kr kr ?_
  refine s_load H7 (some 33) 24 (.tmp 8) 3 (g7 6) (Value.cells (uv (df PR 2))) 24 (0, 0) kr kr kr kr kr ?_
  refine s_val (some 34) (.int .i64 0) (fun w => by kernel_rfl) kr ?_
  refine s_call H7 (some 35) 56 #[uv A, uv (df PR 2), .int .i64 0] (.tuple #[uv (fpw A (df PR 2) PR), .int .i64 0]) (pow0_fn A (df PR 2) hA (df_lt _ _)) (fun w => by kernel_rfl) kr ?_
  intro w8 H8; clear H7
  refine s_val (some 36) (uv (fpw A (df PR 2) PR)) (fun w => by kernel_rfl) kr ?_
  refine s_val (some 37) (.int .i64 0) (fun w => by kernel_rfl) kr ?_
  refine s_store H8 1 [(b3, Obj.cells (Value.cells (uv PR)) 24 (0, 0)), (b2, Obj.cells (Value.cells (uv (fpw A (df PR 2) PR))) 24 (0, 0)), (b1, Obj.cells (Value.cells (uv A)) 24 (0, 0)), ((g7 6), Obj.cells (Value.cells (uv (df PR 2))) 24 (0, 0))] 24 (.tmp 4) (.tmp 36) b2 0 #[.int .u64 0, .int .u64 0, .int .u64 0, .int .u64 0] (Value.cells (uv (fpw A (df PR 2) PR))) 24 (uv (fpw A (df PR 2) PR)) kr kr kr kr kr kr (of_decide_eq_true kr) kr kr ?_
  intro w9 H9; clear H8
  refine s_val (some 5) (.int .i64 0) (fun w => by kernel_rfl) kr ?_
  refine s_nil ?_
  refine g_ret kr ?_
  show ∃ vs, Res _ _ _ _ vs ∧ _
  refine ⟨[uv (fpw A (df PR 2) PR), .int .i64 0], (.agg (b := b2) (Value.cells (uv (fpw A (df PR 2) PR))) 24 (0, 0) kr (H9.get 1 kr) kr (.tmp (.int .i64 0) kr .nil)), ?_, H9.below⟩
  rfl
set_option maxRecDepth 100000 in
theorem inv1_fn (A : Nat) (hA : A < big) (hz : rs A 0 NR ≠ 0) : Fn Tryd.prog 21 #[uv A, .int .i64 1] (.tuple #[uv (finv A NR), .int .i64 0]) := by
  refine Fn.intro (c := codeOf Tryd.f21) [.cell 4 24, .tmp 5] 38 Tryd.func21 kr kr kr fun w => ?_
  have H0 := St.start w
  refine g_sreg [0, 1, 2] kr kr ?_
  refine s_box H0 (some 2) 24 (.tmp 0) (uv A) kr kr kr ?_
  intro b1 w1 H1; clear H0
  refine s_alloc H1 (some 4) 24 (.agg #[.int .u64 0, .int .u64 0, .int .u64 0, .int .u64 0]) kr kr kr ?_
  intro b2 w2 H2; clear H1
  refine s_val (some 5) (.int .i64 0) (fun w => by kernel_rfl) kr ?_
  refine s_nil ?_
  refine g_sreg [0, 1, 2, 3, 4, 5, 6, 7] kr kr ?_
  refine s_val (some 11) (.int .i64 1) (fun w => by kernel_rfl) kr ?_
  refine s_call H2 (some 12) 52 #[.int .i64 1] (.tuple #[uv NR, .int .i64 0]) prime1_fn (fun w => by kernel_rfl) kr ?_
  intro w3 H3; clear H2
  refine s_val (some 10) (.tuple #[uv NR, .int .i64 0]) (fun w => by kernel_rfl) kr ?_
  refine s_val (some 13) (uv NR) (fun w => by kernel_rfl) kr ?_
  refine s_val (some 14) (.int .i64 0) (fun w => by kernel_rfl) kr ?_
  refine s_alloc H3 (some 6) 24 (.agg #[.int .u64 0, .int .u64 0, .int .u64 0, .int .u64 0]) kr kr kr ?_
  intro b3 w4 H4; clear H3
  refine s_store H4 0 [(b3, Obj.cells (Value.cells (uv NR)) 24 (0, 0)), (b2, Obj.cells #[.int .u64 0, .int .u64 0, .int .u64 0, .int .u64 0] 24 (0, 0)), (b1, Obj.cells (Value.cells (uv A)) 24 (0, 0))] 24 (.tmp 6) (.tmp 13) b3 0 #[.int .u64 0, .int .u64 0, .int .u64 0, .int .u64 0] (Value.cells (uv NR)) 24 (uv NR) kr kr kr kr kr kr (of_decide_eq_true kr) kr kr ?_
  intro w5 H5; clear H4
  refine s_val (some 7) (.int .i64 0) (fun w => by kernel_rfl) kr ?_
  refine s_nil ?_
  refine g_seq kr ?_
  refine g_sreg [0, 1] kr kr ?_
  refine s_val (some 15) (.int .i64 0) (fun w => by kernel_rfl) kr ?_
  refine s_val (some 16) (.bool false) (fun w => by kernel_rfl) kr ?_
  refine s_nil ?_
  refine g_cond_f kr kr ?_
  refine g_skip kr ?_
  show WP _ _ _ _ _ _
  refine g_seq kr ?_
  refine g_sreg [0, 1, 2, 3, 4, 5] kr kr ?_
  refine s_load H5 (some 19) 24 (.tmp 2) 2 b1 (Value.cells (uv A)) 24 (0, 0) kr kr kr kr kr ?_
  refine s_val (some 20) (.agg #[.int .u64 0, .int .u64 0, .int .u64 0, .int .u64 0]) (fun w => by kernel_rfl) kr ?_
  refine s_load H5 (some 21) 24 (.tmp 6) 0 b3 (Value.cells (uv NR)) 24 (0, 0) kr kr kr kr kr ?_
  refine s_call H5 (some 22) 53 #[uv A, .agg #[.int .u64 0, .int .u64 0, .int .u64 0, .int .u64 0], uv NR] (uv (rs A 0 NR)) (rest_fn A 0 NR hA (by unfold big; omega) nr_ok) (fun w => by kernel_rfl) kr ?_
  intro w6 H6; clear H5
  refine s_val (some 23) (.agg #[.int .u64 0, .int .u64 0, .int .u64 0, .int .u64 0]) (fun w => by kernel_rfl) kr ?_
  refine s_opE (some 24) _ (.bool (decide ((rs A 0 NR) = 0))) (.bool false) kr (fun o w ho => eqU_run (x := (.tmp 22)) (y := (.tmp 23)) (rs A 0 NR) 0 (rs_lt nr_ok) (by unfold big; omega) w ho kr kr) (by rw [decide_eq_false hz] <;> rfl) kr ?_
  refine s_nil ?_
  refine g_cond_f kr kr ?_
  refine g_skip kr ?_
  show WP _ _ _ _ _ _
  refine g_sdraw [0, 1, 2, 3, 4, 5, 6, 7, 8] [((some 27), fun _ => uv NR), ((some 28), fun _ => uv 2), ((some 29), fun _ => .tuple #[uv (df NR 2), .bool (lo NR 2)]), ((some 26), fun _ => .tuple #[uv (df NR 2), .bool (lo NR 2)]), ((some 30), fun _ => uv (df NR 2)), ((some 31), fun _ => .bool (lo NR 2)), ((some 8), fun b => .pointer (some ⟨b, 0, none⟩)), (none, fun _ => undef), ((some 9), fun _ => .bool (lo NR 2))] (fun L g x => St w.heap.size w x ([(b3, Obj.cells (Value.cells (uv NR)) 24 (0, 0)), (b2, Obj.cells #[.int .u64 0, .int .u64 0, .int .u64 0, .int .u64 0] 24 (0, 0)), (b1, Obj.cells (Value.cells (uv A)) 24 (0, 0))] ++ (bif L 6 then [(g 6, (bif L 7 then Obj.cells (Value.cells (uv (df NR 2))) 24 (0, 0) else Obj.cells #[.int .u64 0, .int .u64 0, .int .u64 0, .int .u64 0] 24 (0, 0)))] else []))) kr kr kr kr (H6.drew) ⟨?_, ?_, ?_, ?_, ?_, ?_, ?_, ?_, ?_, trivial⟩ ?_
  · exact gv_load 24 (.tmp 6) (fun _ => 0) (fun g => b3) (Value.cells (uv NR)) 24 (0, 0) (fun _ _ _ h => h) (fun g => by kernel_rfl) (fun g => by kernel_rfl) (fun L g _ => by kernel_rfl) kr
  · exact gv_call 55 #[.int .u64 2] (fun _ _ _ h => h) (small_fn 2 (by omega)) (fun g w => by kernel_rfl)
  · exact gv_call 54 #[uv NR, uv 2] (fun _ _ _ h => h) (sub_fn NR 2 nr_ok.1 (by unfold big; omega)) (fun g w => by kernel_rfl)
  · exact gv_val (fun _ _ _ h => h) (fun g w => by kernel_rfl)
  · exact gv_val (fun _ _ _ h => h) (fun g w => by kernel_rfl)
  · exact gv_val (fun _ _ _ h => h) (fun g w => by kernel_rfl)
  · exact gv_alloc 24 (.agg #[.int .u64 0, .int .u64 0, .int .u64 0, .int .u64 0]) (fun L g => [(b3, Obj.cells (Value.cells (uv NR)) 24 (0, 0)), (b2, Obj.cells #[.int .u64 0, .int .u64 0, .int .u64 0, .int .u64 0] 24 (0, 0)), (b1, Obj.cells (Value.cells (uv A)) 24 (0, 0))]) (fun L g => ([] : List (Nat × Obj))) (fun g => by kernel_rfl) kr (fun L g hN => by (have hn : L 6 = false := hN.1; show ([(b3, Obj.cells (Value.cells (uv NR)) 24 (0, 0)), (b2, Obj.cells #[.int .u64 0, .int .u64 0, .int .u64 0, .int .u64 0] 24 (0, 0)), (b1, Obj.cells (Value.cells (uv A)) 24 (0, 0))] ++ (bif L 6 then [(g 6, (bif L 7 then Obj.cells (Value.cells (uv (df NR 2))) 24 (0, 0) else Obj.cells #[.int .u64 0, .int .u64 0, .int .u64 0, .int .u64 0] 24 (0, 0)))] else [])) = ([(b3, Obj.cells (Value.cells (uv NR)) 24 (0, 0)), (b2, Obj.cells #[.int .u64 0, .int .u64 0, .int .u64 0, .int .u64 0] 24 (0, 0)), (b1, Obj.cells (Value.cells (uv A)) 24 (0, 0))]) ++ (([] : List (Nat × Obj))); rw [hn]; rfl)) (fun L g b hN => by (have hz : L 7 = false := hN.2.2.no 6 7 kr hN.1; show ([(b3, Obj.cells (Value.cells (uv NR)) 24 (0, 0)), (b2, Obj.cells #[.int .u64 0, .int .u64 0, .int .u64 0, .int .u64 0] 24 (0, 0)), (b1, Obj.cells (Value.cells (uv A)) 24 (0, 0))]) ++ (b, Obj.cells #[.int .u64 0, .int .u64 0, .int .u64 0, .int .u64 0] 24 (0, 0)) :: (([] : List (Nat × Obj))) = ([(b3, Obj.cells (Value.cells (uv NR)) 24 (0, 0)), (b2, Obj.cells #[.int .u64 0, .int .u64 0, .int .u64 0, .int .u64 0] 24 (0, 0)), (b1, Obj.cells (Value.cells (uv A)) 24 (0, 0))] ++ ([(b, (bif L 7 then Obj.cells (Value.cells (uv (df NR 2))) 24 (0, 0) else Obj.cells #[.int .u64 0, .int .u64 0, .int .u64 0, .int .u64 0] 24 (0, 0)))])); rw [hz]; rfl))
  · exact gv_store (fun _ => 3) 24 (.tmp 8) (.tmp 30) (fun g => g 6) 0 #[.int .u64 0, .int .u64 0, .int .u64 0, .int .u64 0] (Value.cells (uv (df NR 2))) 24 (uv (df NR 2)) (fun g => by kernel_rfl) (fun g => by kernel_rfl) (fun g => by kernel_rfl) kr kr (of_decide_eq_true kr) kr (fun L g hN => by (have hs7 : L 7 = false := hN.1; have hs6 : L 6 = true := before_yes hN.2.1 6 kr; show ([(b3, Obj.cells (Value.cells (uv NR)) 24 (0, 0)), (b2, Obj.cells #[.int .u64 0, .int .u64 0, .int .u64 0, .int .u64 0] 24 (0, 0)), (b1, Obj.cells (Value.cells (uv A)) 24 (0, 0))] ++ (bif L 6 then [(g 6, (bif L 7 then Obj.cells (Value.cells (uv (df NR 2))) 24 (0, 0) else Obj.cells #[.int .u64 0, .int .u64 0, .int .u64 0, .int .u64 0] 24 (0, 0)))] else []))[(fun _ => 3) L]? = some (g 6, Obj.cells #[.int .u64 0, .int .u64 0, .int .u64 0, .int .u64 0] 24 (0, 0)) ∧ ([(b3, Obj.cells (Value.cells (uv NR)) 24 (0, 0)), (b2, Obj.cells #[.int .u64 0, .int .u64 0, .int .u64 0, .int .u64 0] 24 (0, 0)), (b1, Obj.cells (Value.cells (uv A)) 24 (0, 0))] ++ (bif L 6 then [(g 6, (bif L 7 then Obj.cells (Value.cells (uv (df NR 2))) 24 (0, 0) else Obj.cells #[.int .u64 0, .int .u64 0, .int .u64 0, .int .u64 0] 24 (0, 0)))] else [])).set ((fun _ => 3) L) (g 6, Obj.cells (Value.cells (uv (df NR 2))) 24 (0, 0)) = ([(b3, Obj.cells (Value.cells (uv NR)) 24 (0, 0)), (b2, Obj.cells #[.int .u64 0, .int .u64 0, .int .u64 0, .int .u64 0] 24 (0, 0)), (b1, Obj.cells (Value.cells (uv A)) 24 (0, 0))] ++ (bif L 6 then [(g 6, (bif true then Obj.cells (Value.cells (uv (df NR 2))) 24 (0, 0) else Obj.cells #[.int .u64 0, .int .u64 0, .int .u64 0, .int .u64 0] 24 (0, 0)))] else [])); rw [hs7, hs6]; exact ⟨rfl, rfl⟩))
  · exact gv_val (fun _ _ _ h => h) (fun g w => by kernel_rfl)
  intro L0 g7 w7 hall HL; clear H6
  have H7 : St w.heap.size w w7 [(b3, Obj.cells (Value.cells (uv NR)) 24 (0, 0)), (b2, Obj.cells #[.int .u64 0, .int .u64 0, .int .u64 0, .int .u64 0] 24 (0, 0)), (b1, Obj.cells (Value.cells (uv A)) 24 (0, 0)), ((g7 6), Obj.cells (Value.cells (uv (df NR 2))) 24 (0, 0))] := by have e7 := hall 7 (Nat.le_of_ble_eq_true kr); have e6 := hall 6 (Nat.le_of_ble_eq_true kr); simp only [e7, e6, cond_true] at HL; exact HL
  clear HL hall
  refine g_sreg [0, 1, 2, 3, 4, 5, 6, 7] kr kr ?_
  refine s_load H7 (some 32) 24 (.tmp 2) 2 b1 (Value.cells (uv A)) 24 (0, 0) kr kr kr kr kr ?_
  refine s_load H7 (some 33) 24 (.tmp 8) 3 (g7 6) (Value.cells (uv (df NR 2))) 24 (0, 0) kr kr kr kr kr ?_
  refine s_val (some 34) (.int .i64 1) (fun w => by kernel_rfl) kr ?_
  refine s_call H7 (some 35) 56 #[uv A, uv (df NR 2), .int .i64 1] (.tuple #[uv (fpw A (df NR 2) NR), .int .i64 0]) (pow1_fn A (df NR 2) hA (df_lt _ _)) (fun w => by kernel_rfl) kr ?_
  intro w8 H8; clear H7
  refine s_val (some 36) (uv (fpw A (df NR 2) NR)) (fun w => by kernel_rfl) kr ?_
  refine s_val (some 37) (.int .i64 0) (fun w => by kernel_rfl) kr ?_
  refine s_store H8 1 [(b3, Obj.cells (Value.cells (uv NR)) 24 (0, 0)), (b2, Obj.cells (Value.cells (uv (fpw A (df NR 2) NR))) 24 (0, 0)), (b1, Obj.cells (Value.cells (uv A)) 24 (0, 0)), ((g7 6), Obj.cells (Value.cells (uv (df NR 2))) 24 (0, 0))] 24 (.tmp 4) (.tmp 36) b2 0 #[.int .u64 0, .int .u64 0, .int .u64 0, .int .u64 0] (Value.cells (uv (fpw A (df NR 2) NR))) 24 (uv (fpw A (df NR 2) NR)) kr kr kr kr kr kr (of_decide_eq_true kr) kr kr ?_
  intro w9 H9; clear H8
  refine s_val (some 5) (.int .i64 0) (fun w => by kernel_rfl) kr ?_
  refine s_nil ?_
  refine g_ret kr ?_
  show ∃ vs, Res _ _ _ _ vs ∧ _
  refine ⟨[uv (fpw A (df NR 2) NR), .int .i64 0], (.agg (b := b2) (Value.cells (uv (fpw A (df NR 2) NR))) 24 (0, 0) kr (H9.get 1 kr) kr (.tmp (.int .i64 0) kr .nil)), ?_, H9.below⟩
  rfl
set_option maxRecDepth 100000 in
theorem rootNo_fn (A : Nat) (hA : A < big) (hs : fMul (fpw A QR PR) (fpw A QR PR) PR ≠ rs A 0 PR) : Fn Tryd.prog 49 #[uv A] (.tuple #[.agg #[.int .u64 0, .int .u64 0, .int .u64 0, .int .u64 0], .int .i64 6]) := by
  refine Fn.intro (c := codeOf Tryd.f49) [.cell 2 24, .tmp 3] 43 Tryd.func49 kr kr kr fun w => ?_
  have H0 := St.start w
  refine g_sreg [0, 1, 2] kr kr ?_
  refine s_box H0 (some 1) 24 (.tmp 0) (uv A) kr kr kr ?_
  intro b1 w1 H1; clear H0
  refine s_alloc H1 (some 2) 24 (.agg #[.int .u64 0, .int .u64 0, .int .u64 0, .int .u64 0]) kr kr kr ?_
  intro b2 w2 H2; clear H1
  refine s_val (some 3) (.int .i64 0) (fun w => by kernel_rfl) kr ?_
  refine s_nil ?_
  refine g_sreg [0, 1, 2] kr kr ?_
  refine s_val (some 11) (uv QR) (fun w => by kernel_rfl) kr ?_
  refine s_alloc H2 (some 4) 24 (.agg #[.int .u64 0, .int .u64 0, .int .u64 0, .int .u64 0]) kr kr kr ?_
  intro b3 w3 H3; clear H2
  refine s_store H3 0 [(b3, Obj.cells (Value.cells (uv QR)) 24 (0, 0)), (b2, Obj.cells #[.int .u64 0, .int .u64 0, .int .u64 0, .int .u64 0] 24 (0, 0)), (b1, Obj.cells (Value.cells (uv A)) 24 (0, 0))] 24 (.tmp 4) (.tmp 11) b3 0 #[.int .u64 0, .int .u64 0, .int .u64 0, .int .u64 0] (Value.cells (uv QR)) 24 (uv QR) kr kr kr kr kr kr (of_decide_eq_true kr) kr kr ?_
  intro w4 H4; clear H3
  refine s_nil ?_
  refine g_sreg [0, 1, 2, 3, 4, 5, 6, 7, 8] kr kr ?_
  refine s_load H4 (some 13) 24 (.tmp 1) 2 b1 (Value.cells (uv A)) 24 (0, 0) kr kr kr kr kr ?_
  refine s_load H4 (some 14) 24 (.tmp 4) 0 b3 (Value.cells (uv QR)) 24 (0, 0) kr kr kr kr kr ?_
  refine s_call H4 (some 15) 56 #[uv A, uv QR, .int .i64 0] (.tuple #[uv (fpw A QR PR), .int .i64 0]) (pow0_fn A QR hA qr_lt) (fun w => by kernel_rfl) kr ?_
  intro w5 H5; clear H4
  refine s_val (some 12) (.tuple #[uv (fpw A QR PR), .int .i64 0]) (fun w => by kernel_rfl) kr ?_
  refine s_val (some 16) (uv (fpw A QR PR)) (fun w => by kernel_rfl) kr ?_
  refine s_val (some 17) (.int .i64 0) (fun w => by kernel_rfl) kr ?_
  refine s_alloc H5 (some 5) 24 (.agg #[.int .u64 0, .int .u64 0, .int .u64 0, .int .u64 0]) kr kr kr ?_
  intro b4 w6 H6; clear H5
  refine s_store H6 0 [(b4, Obj.cells (Value.cells (uv (fpw A QR PR))) 24 (0, 0)), (b3, Obj.cells (Value.cells (uv QR)) 24 (0, 0)), (b2, Obj.cells #[.int .u64 0, .int .u64 0, .int .u64 0, .int .u64 0] 24 (0, 0)), (b1, Obj.cells (Value.cells (uv A)) 24 (0, 0))] 24 (.tmp 5) (.tmp 16) b4 0 #[.int .u64 0, .int .u64 0, .int .u64 0, .int .u64 0] (Value.cells (uv (fpw A QR PR))) 24 (uv (fpw A QR PR)) kr kr kr kr kr kr (of_decide_eq_true kr) kr kr ?_
  intro w7 H7; clear H6
  refine s_val (some 6) (.int .i64 0) (fun w => by kernel_rfl) kr ?_
  refine s_nil ?_
  refine g_sreg [0, 1, 2, 3, 4, 5, 6, 7, 8] kr kr ?_
  refine s_load H7 (some 19) 24 (.tmp 5) 0 b4 (Value.cells (uv (fpw A QR PR))) 24 (0, 0) kr kr kr kr kr ?_
  refine s_load H7 (some 20) 24 (.tmp 5) 0 b4 (Value.cells (uv (fpw A QR PR))) 24 (0, 0) kr kr kr kr kr ?_
  refine s_call H7 (some 21) 79 #[uv (fpw A QR PR), uv (fpw A QR PR), .int .i64 0] (.tuple #[uv (fMul (fpw A QR PR) (fpw A QR PR) PR), .int .i64 0]) (fmul0_fn (fpw A QR PR) (fpw A QR PR) (fpw_lt pr_ok) (fpw_lt pr_ok)) (fun w => by kernel_rfl) kr ?_
  intro w8 H8; clear H7
  refine s_val (some 18) (.tuple #[uv (fMul (fpw A QR PR) (fpw A QR PR) PR), .int .i64 0]) (fun w => by kernel_rfl) kr ?_
  refine s_val (some 22) (uv (fMul (fpw A QR PR) (fpw A QR PR) PR)) (fun w => by kernel_rfl) kr ?_
  refine s_val (some 23) (.int .i64 0) (fun w => by kernel_rfl) kr ?_
  refine s_alloc H8 (some 7) 24 (.agg #[.int .u64 0, .int .u64 0, .int .u64 0, .int .u64 0]) kr kr kr ?_
  intro b5 w9 H9; clear H8
  refine s_store H9 0 [(b5, Obj.cells (Value.cells (uv (fMul (fpw A QR PR) (fpw A QR PR) PR))) 24 (0, 0)), (b4, Obj.cells (Value.cells (uv (fpw A QR PR))) 24 (0, 0)), (b3, Obj.cells (Value.cells (uv QR)) 24 (0, 0)), (b2, Obj.cells #[.int .u64 0, .int .u64 0, .int .u64 0, .int .u64 0] 24 (0, 0)), (b1, Obj.cells (Value.cells (uv A)) 24 (0, 0))] 24 (.tmp 7) (.tmp 22) b5 0 #[.int .u64 0, .int .u64 0, .int .u64 0, .int .u64 0] (Value.cells (uv (fMul (fpw A QR PR) (fpw A QR PR) PR))) 24 (uv (fMul (fpw A QR PR) (fpw A QR PR) PR)) kr kr kr kr kr kr (of_decide_eq_true kr) kr kr ?_
  intro w10 H10; clear H9
  refine s_val (some 8) (.int .i64 0) (fun w => by kernel_rfl) kr ?_
  refine s_nil ?_
  refine g_sreg [0, 1, 2, 3, 4, 5, 6, 7, 8] kr kr ?_
  refine s_load H10 (some 25) 24 (.tmp 1) 4 b1 (Value.cells (uv A)) 24 (0, 0) kr kr kr kr kr ?_
  refine s_val (some 26) (.agg #[.int .u64 0, .int .u64 0, .int .u64 0, .int .u64 0]) (fun w => by kernel_rfl) kr ?_
  refine s_call H10 (some 27) 78 #[uv A, .agg #[.int .u64 0, .int .u64 0, .int .u64 0, .int .u64 0], .int .i64 0] (.tuple #[uv (rs A 0 PR), .int .i64 0]) (reduce0_fn A 0 hA (by unfold big; omega)) (fun w => by kernel_rfl) kr ?_
  intro w11 H11; clear H10
  refine s_val (some 24) (.tuple #[uv (rs A 0 PR), .int .i64 0]) (fun w => by kernel_rfl) kr ?_
  refine s_val (some 28) (uv (rs A 0 PR)) (fun w => by kernel_rfl) kr ?_
  refine s_val (some 29) (.int .i64 0) (fun w => by kernel_rfl) kr ?_
  refine s_alloc H11 (some 9) 24 (.agg #[.int .u64 0, .int .u64 0, .int .u64 0, .int .u64 0]) kr kr kr ?_
  intro b6 w12 H12; clear H11
  refine s_store H12 0 [(b6, Obj.cells (Value.cells (uv (rs A 0 PR))) 24 (0, 0)), (b5, Obj.cells (Value.cells (uv (fMul (fpw A QR PR) (fpw A QR PR) PR))) 24 (0, 0)), (b4, Obj.cells (Value.cells (uv (fpw A QR PR))) 24 (0, 0)), (b3, Obj.cells (Value.cells (uv QR)) 24 (0, 0)), (b2, Obj.cells #[.int .u64 0, .int .u64 0, .int .u64 0, .int .u64 0] 24 (0, 0)), (b1, Obj.cells (Value.cells (uv A)) 24 (0, 0))] 24 (.tmp 9) (.tmp 28) b6 0 #[.int .u64 0, .int .u64 0, .int .u64 0, .int .u64 0] (Value.cells (uv (rs A 0 PR))) 24 (uv (rs A 0 PR)) kr kr kr kr kr kr (of_decide_eq_true kr) kr kr ?_
  intro w13 H13; clear H12
  refine s_val (some 10) (.int .i64 0) (fun w => by kernel_rfl) kr ?_
  refine s_nil ?_
  refine g_seq kr ?_
  refine g_sreg [0, 1, 2] kr kr ?_
  refine s_load H13 (some 30) 24 (.tmp 7) 1 b5 (Value.cells (uv (fMul (fpw A QR PR) (fpw A QR PR) PR))) 24 (0, 0) kr kr kr kr kr ?_
  refine s_load H13 (some 31) 24 (.tmp 9) 0 b6 (Value.cells (uv (rs A 0 PR))) 24 (0, 0) kr kr kr kr kr ?_
  refine s_opE (some 32) _ (.bool (!decide ((fMul (fpw A QR PR) (fpw A QR PR) PR) = (rs A 0 PR)))) (.bool true) kr (fun o w ho => neU_run (x := (.tmp 30)) (y := (.tmp 31)) (fMul (fpw A QR PR) (fpw A QR PR) PR) (rs A 0 PR) (fMul_lt pr_ok) (rs_lt pr_ok) w ho kr kr) (by rw [decide_eq_false hs] <;> rfl) kr ?_
  refine s_nil ?_
  refine g_cond_t kr kr ?_
  refine g_sreg [0, 1, 2] kr kr ?_
  refine s_val (some 33) (.agg #[.int .u64 0, .int .u64 0, .int .u64 0, .int .u64 0]) (fun w => by kernel_rfl) kr ?_
  refine s_store H13 4 [(b6, Obj.cells (Value.cells (uv (rs A 0 PR))) 24 (0, 0)), (b5, Obj.cells (Value.cells (uv (fMul (fpw A QR PR) (fpw A QR PR) PR))) 24 (0, 0)), (b4, Obj.cells (Value.cells (uv (fpw A QR PR))) 24 (0, 0)), (b3, Obj.cells (Value.cells (uv QR)) 24 (0, 0)), (b2, Obj.cells #[.int .u64 0, .int .u64 0, .int .u64 0, .int .u64 0] 24 (0, 0)), (b1, Obj.cells (Value.cells (uv A)) 24 (0, 0))] 24 (.tmp 2) (.tmp 33) b2 0 #[.int .u64 0, .int .u64 0, .int .u64 0, .int .u64 0] #[.int .u64 0, .int .u64 0, .int .u64 0, .int .u64 0] 24 (.agg #[.int .u64 0, .int .u64 0, .int .u64 0, .int .u64 0]) kr kr kr kr kr kr (of_decide_eq_true kr) kr kr ?_
  intro w14 H14; clear H13
  refine s_val (some 3) (.int .i64 6) (fun w => by kernel_rfl) kr ?_
  refine s_nil ?_
  refine g_ret kr ?_
  show ∃ vs, Res _ _ _ _ vs ∧ _
  refine ⟨[.agg #[.int .u64 0, .int .u64 0, .int .u64 0, .int .u64 0], .int .i64 6], (.agg (b := b2) #[.int .u64 0, .int .u64 0, .int .u64 0, .int .u64 0] 24 (0, 0) kr (H14.get 4 kr) kr (.tmp (.int .i64 6) kr .nil)), ?_, H14.below⟩
  rfl
set_option maxRecDepth 100000 in
theorem root_fn (A : Nat) (hA : A < big) (hs : fMul (fpw A QR PR) (fpw A QR PR) PR = rs A 0 PR) : Fn Tryd.prog 49 #[uv A] (.tuple #[uv (rt A), .int .i64 0]) := by
  refine Fn.intro (c := codeOf Tryd.f49) [.cell 2 24, .tmp 3] 43 Tryd.func49 kr kr kr fun w => ?_
  have H0 := St.start w
  refine g_sreg [0, 1, 2] kr kr ?_
  refine s_box H0 (some 1) 24 (.tmp 0) (uv A) kr kr kr ?_
  intro b1 w1 H1; clear H0
  refine s_alloc H1 (some 2) 24 (.agg #[.int .u64 0, .int .u64 0, .int .u64 0, .int .u64 0]) kr kr kr ?_
  intro b2 w2 H2; clear H1
  refine s_val (some 3) (.int .i64 0) (fun w => by kernel_rfl) kr ?_
  refine s_nil ?_
  refine g_sreg [0, 1, 2] kr kr ?_
  refine s_val (some 11) (uv QR) (fun w => by kernel_rfl) kr ?_
  refine s_alloc H2 (some 4) 24 (.agg #[.int .u64 0, .int .u64 0, .int .u64 0, .int .u64 0]) kr kr kr ?_
  intro b3 w3 H3; clear H2
  refine s_store H3 0 [(b3, Obj.cells (Value.cells (uv QR)) 24 (0, 0)), (b2, Obj.cells #[.int .u64 0, .int .u64 0, .int .u64 0, .int .u64 0] 24 (0, 0)), (b1, Obj.cells (Value.cells (uv A)) 24 (0, 0))] 24 (.tmp 4) (.tmp 11) b3 0 #[.int .u64 0, .int .u64 0, .int .u64 0, .int .u64 0] (Value.cells (uv QR)) 24 (uv QR) kr kr kr kr kr kr (of_decide_eq_true kr) kr kr ?_
  intro w4 H4; clear H3
  refine s_nil ?_
  refine g_sreg [0, 1, 2, 3, 4, 5, 6, 7, 8] kr kr ?_
  refine s_load H4 (some 13) 24 (.tmp 1) 2 b1 (Value.cells (uv A)) 24 (0, 0) kr kr kr kr kr ?_
  refine s_load H4 (some 14) 24 (.tmp 4) 0 b3 (Value.cells (uv QR)) 24 (0, 0) kr kr kr kr kr ?_
  refine s_call H4 (some 15) 56 #[uv A, uv QR, .int .i64 0] (.tuple #[uv (fpw A QR PR), .int .i64 0]) (pow0_fn A QR hA qr_lt) (fun w => by kernel_rfl) kr ?_
  intro w5 H5; clear H4
  refine s_val (some 12) (.tuple #[uv (fpw A QR PR), .int .i64 0]) (fun w => by kernel_rfl) kr ?_
  refine s_val (some 16) (uv (fpw A QR PR)) (fun w => by kernel_rfl) kr ?_
  refine s_val (some 17) (.int .i64 0) (fun w => by kernel_rfl) kr ?_
  refine s_alloc H5 (some 5) 24 (.agg #[.int .u64 0, .int .u64 0, .int .u64 0, .int .u64 0]) kr kr kr ?_
  intro b4 w6 H6; clear H5
  refine s_store H6 0 [(b4, Obj.cells (Value.cells (uv (fpw A QR PR))) 24 (0, 0)), (b3, Obj.cells (Value.cells (uv QR)) 24 (0, 0)), (b2, Obj.cells #[.int .u64 0, .int .u64 0, .int .u64 0, .int .u64 0] 24 (0, 0)), (b1, Obj.cells (Value.cells (uv A)) 24 (0, 0))] 24 (.tmp 5) (.tmp 16) b4 0 #[.int .u64 0, .int .u64 0, .int .u64 0, .int .u64 0] (Value.cells (uv (fpw A QR PR))) 24 (uv (fpw A QR PR)) kr kr kr kr kr kr (of_decide_eq_true kr) kr kr ?_
  intro w7 H7; clear H6
  refine s_val (some 6) (.int .i64 0) (fun w => by kernel_rfl) kr ?_
  refine s_nil ?_
  refine g_sreg [0, 1, 2, 3, 4, 5, 6, 7, 8] kr kr ?_
  refine s_load H7 (some 19) 24 (.tmp 5) 0 b4 (Value.cells (uv (fpw A QR PR))) 24 (0, 0) kr kr kr kr kr ?_
  refine s_load H7 (some 20) 24 (.tmp 5) 0 b4 (Value.cells (uv (fpw A QR PR))) 24 (0, 0) kr kr kr kr kr ?_
  refine s_call H7 (some 21) 79 #[uv (fpw A QR PR), uv (fpw A QR PR), .int .i64 0] (.tuple #[uv (fMul (fpw A QR PR) (fpw A QR PR) PR), .int .i64 0]) (fmul0_fn (fpw A QR PR) (fpw A QR PR) (fpw_lt pr_ok) (fpw_lt pr_ok)) (fun w => by kernel_rfl) kr ?_
  intro w8 H8; clear H7
  refine s_val (some 18) (.tuple #[uv (fMul (fpw A QR PR) (fpw A QR PR) PR), .int .i64 0]) (fun w => by kernel_rfl) kr ?_
  refine s_val (some 22) (uv (fMul (fpw A QR PR) (fpw A QR PR) PR)) (fun w => by kernel_rfl) kr ?_
  refine s_val (some 23) (.int .i64 0) (fun w => by kernel_rfl) kr ?_
  refine s_alloc H8 (some 7) 24 (.agg #[.int .u64 0, .int .u64 0, .int .u64 0, .int .u64 0]) kr kr kr ?_
  intro b5 w9 H9; clear H8
  refine s_store H9 0 [(b5, Obj.cells (Value.cells (uv (fMul (fpw A QR PR) (fpw A QR PR) PR))) 24 (0, 0)), (b4, Obj.cells (Value.cells (uv (fpw A QR PR))) 24 (0, 0)), (b3, Obj.cells (Value.cells (uv QR)) 24 (0, 0)), (b2, Obj.cells #[.int .u64 0, .int .u64 0, .int .u64 0, .int .u64 0] 24 (0, 0)), (b1, Obj.cells (Value.cells (uv A)) 24 (0, 0))] 24 (.tmp 7) (.tmp 22) b5 0 #[.int .u64 0, .int .u64 0, .int .u64 0, .int .u64 0] (Value.cells (uv (fMul (fpw A QR PR) (fpw A QR PR) PR))) 24 (uv (fMul (fpw A QR PR) (fpw A QR PR) PR)) kr kr kr kr kr kr (of_decide_eq_true kr) kr kr ?_
  intro w10 H10; clear H9
  refine s_val (some 8) (.int .i64 0) (fun w => by kernel_rfl) kr ?_
  refine s_nil ?_
  refine g_sreg [0, 1, 2, 3, 4, 5, 6, 7, 8] kr kr ?_
  refine s_load H10 (some 25) 24 (.tmp 1) 4 b1 (Value.cells (uv A)) 24 (0, 0) kr kr kr kr kr ?_
  refine s_val (some 26) (.agg #[.int .u64 0, .int .u64 0, .int .u64 0, .int .u64 0]) (fun w => by kernel_rfl) kr ?_
  refine s_call H10 (some 27) 78 #[uv A, .agg #[.int .u64 0, .int .u64 0, .int .u64 0, .int .u64 0], .int .i64 0] (.tuple #[uv (rs A 0 PR), .int .i64 0]) (reduce0_fn A 0 hA (by unfold big; omega)) (fun w => by kernel_rfl) kr ?_
  intro w11 H11; clear H10
  refine s_val (some 24) (.tuple #[uv (rs A 0 PR), .int .i64 0]) (fun w => by kernel_rfl) kr ?_
  refine s_val (some 28) (uv (rs A 0 PR)) (fun w => by kernel_rfl) kr ?_
  refine s_val (some 29) (.int .i64 0) (fun w => by kernel_rfl) kr ?_
  refine s_alloc H11 (some 9) 24 (.agg #[.int .u64 0, .int .u64 0, .int .u64 0, .int .u64 0]) kr kr kr ?_
  intro b6 w12 H12; clear H11
  refine s_store H12 0 [(b6, Obj.cells (Value.cells (uv (rs A 0 PR))) 24 (0, 0)), (b5, Obj.cells (Value.cells (uv (fMul (fpw A QR PR) (fpw A QR PR) PR))) 24 (0, 0)), (b4, Obj.cells (Value.cells (uv (fpw A QR PR))) 24 (0, 0)), (b3, Obj.cells (Value.cells (uv QR)) 24 (0, 0)), (b2, Obj.cells #[.int .u64 0, .int .u64 0, .int .u64 0, .int .u64 0] 24 (0, 0)), (b1, Obj.cells (Value.cells (uv A)) 24 (0, 0))] 24 (.tmp 9) (.tmp 28) b6 0 #[.int .u64 0, .int .u64 0, .int .u64 0, .int .u64 0] (Value.cells (uv (rs A 0 PR))) 24 (uv (rs A 0 PR)) kr kr kr kr kr kr (of_decide_eq_true kr) kr kr ?_
  intro w13 H13; clear H12
  refine s_val (some 10) (.int .i64 0) (fun w => by kernel_rfl) kr ?_
  refine s_nil ?_
  refine g_seq kr ?_
  refine g_sreg [0, 1, 2] kr kr ?_
  refine s_load H13 (some 30) 24 (.tmp 7) 1 b5 (Value.cells (uv (fMul (fpw A QR PR) (fpw A QR PR) PR))) 24 (0, 0) kr kr kr kr kr ?_
  refine s_load H13 (some 31) 24 (.tmp 9) 0 b6 (Value.cells (uv (rs A 0 PR))) 24 (0, 0) kr kr kr kr kr ?_
  refine s_opE (some 32) _ (.bool (!decide ((fMul (fpw A QR PR) (fpw A QR PR) PR) = (rs A 0 PR)))) (.bool false) kr (fun o w ho => neU_run (x := (.tmp 30)) (y := (.tmp 31)) (fMul (fpw A QR PR) (fpw A QR PR) PR) (rs A 0 PR) (fMul_lt pr_ok) (rs_lt pr_ok) w ho kr kr) (by rw [decide_eq_true hs] <;> rfl) kr ?_
  refine s_nil ?_
  refine g_cond_f kr kr ?_
  refine g_skip kr ?_
  show WP _ _ _ _ _ _
  refine g_seq kr ?_
  refine g_sreg [0, 1] kr kr ?_
  refine s_load H13 (some 34) 24 (.tmp 5) 2 b4 (Value.cells (uv (fpw A QR PR))) 24 (0, 0) kr kr kr kr kr ?_
  refine s_call H13 (some 35) 81 #[uv (fpw A QR PR), .int .i64 0] (.bool (bt (fpw A QR PR) 0)) (bit_fn (fpw A QR PR) 0) (fun w => by kernel_rfl) kr ?_
  intro w14 H14; clear H13
  cases hbt : bt (fpw A QR PR) 0
  · skip
    refine s_nil ?_
    refine g_cond_f kr kr ?_
    refine g_skip kr ?_
    show WP _ _ _ _ _ _
    refine g_sreg [0, 1, 2] kr kr ?_
    refine s_load H14 (some 42) 24 (.tmp 5) 2 b4 (Value.cells (uv (fpw A QR PR))) 24 (0, 0) kr kr kr kr kr ?_
    refine s_store H14 4 [(b6, Obj.cells (Value.cells (uv (rs A 0 PR))) 24 (0, 0)), (b5, Obj.cells (Value.cells (uv (fMul (fpw A QR PR) (fpw A QR PR) PR))) 24 (0, 0)), (b4, Obj.cells (Value.cells (uv (fpw A QR PR))) 24 (0, 0)), (b3, Obj.cells (Value.cells (uv QR)) 24 (0, 0)), (b2, Obj.cells (Value.cells (uv (fpw A QR PR))) 24 (0, 0)), (b1, Obj.cells (Value.cells (uv A)) 24 (0, 0))] 24 (.tmp 2) (.tmp 42) b2 0 #[.int .u64 0, .int .u64 0, .int .u64 0, .int .u64 0] (Value.cells (uv (fpw A QR PR))) 24 (uv (fpw A QR PR)) kr kr kr kr kr kr (of_decide_eq_true kr) kr kr ?_
    intro w15 H15; clear H14
    refine s_val (some 3) (.int .i64 0) (fun w => by kernel_rfl) kr ?_
    refine s_nil ?_
    refine g_ret kr ?_
    show ∃ vs, Res _ _ _ _ vs ∧ _
    refine ⟨[uv (fpw A QR PR), .int .i64 0], (.agg (b := b2) (Value.cells (uv (fpw A QR PR))) 24 (0, 0) kr (H15.get 4 kr) kr (.tmp (.int .i64 0) kr .nil)), ?_, H15.below⟩
    have e : rt A = fpw A QR PR := by unfold rt; rw [hbt]; exact if_neg (by decide)
    rw [e]; rfl
  · skip
    refine s_nil ?_
    refine g_cond_t kr kr ?_
    refine g_reg0 [0, 1, 2, 3, 4, 5, 6] kr ?_
    refine s_val (some 37) (.agg #[.int .u64 0, .int .u64 0, .int .u64 0, .int .u64 0]) (fun w => by kernel_rfl) kr ?_
    refine s_load H14 (some 38) 24 (.tmp 5) 2 b4 (Value.cells (uv (fpw A QR PR))) 24 (0, 0) kr kr kr kr kr ?_
    refine s_call H14 (some 39) 80 #[.agg #[.int .u64 0, .int .u64 0, .int .u64 0, .int .u64 0], uv (fpw A QR PR), .int .i64 0] (.tuple #[uv (fSub 0 (fpw A QR PR) PR), .int .i64 0]) (fsub0_fn 0 (fpw A QR PR) (by unfold big; omega) (fpw_lt pr_ok)) (fun w => by kernel_rfl) kr ?_
    intro w16 H16; clear H14
    refine s_val (some 36) (.tuple #[uv (fSub 0 (fpw A QR PR) PR), .int .i64 0]) (fun w => by kernel_rfl) kr ?_
    refine s_val (some 40) (uv (fSub 0 (fpw A QR PR) PR)) (fun w => by kernel_rfl) kr ?_
    refine s_val (some 41) (.int .i64 0) (fun w => by kernel_rfl) kr ?_
    refine s_store H16 2 [(b6, Obj.cells (Value.cells (uv (rs A 0 PR))) 24 (0, 0)), (b5, Obj.cells (Value.cells (uv (fMul (fpw A QR PR) (fpw A QR PR) PR))) 24 (0, 0)), (b4, Obj.cells (Value.cells (uv (fSub 0 (fpw A QR PR) PR))) 24 (0, 0)), (b3, Obj.cells (Value.cells (uv QR)) 24 (0, 0)), (b2, Obj.cells #[.int .u64 0, .int .u64 0, .int .u64 0, .int .u64 0] 24 (0, 0)), (b1, Obj.cells (Value.cells (uv A)) 24 (0, 0))] 24 (.tmp 5) (.tmp 40) b4 0 (Value.cells (uv (fpw A QR PR))) (Value.cells (uv (fSub 0 (fpw A QR PR) PR))) 24 (uv (fSub 0 (fpw A QR PR) PR)) kr kr kr kr kr kr (of_decide_eq_true kr) kr kr ?_
    intro w17 H17; clear H16
    refine s_nil ?_
    show WP _ _ _ _ _ _
    refine g_sreg [0, 1, 2] kr kr ?_
    refine s_load H17 (some 42) 24 (.tmp 5) 2 b4 (Value.cells (uv (fSub 0 (fpw A QR PR) PR))) 24 (0, 0) kr kr kr kr kr ?_
    refine s_store H17 4 [(b6, Obj.cells (Value.cells (uv (rs A 0 PR))) 24 (0, 0)), (b5, Obj.cells (Value.cells (uv (fMul (fpw A QR PR) (fpw A QR PR) PR))) 24 (0, 0)), (b4, Obj.cells (Value.cells (uv (fSub 0 (fpw A QR PR) PR))) 24 (0, 0)), (b3, Obj.cells (Value.cells (uv QR)) 24 (0, 0)), (b2, Obj.cells (Value.cells (uv (fSub 0 (fpw A QR PR) PR))) 24 (0, 0)), (b1, Obj.cells (Value.cells (uv A)) 24 (0, 0))] 24 (.tmp 2) (.tmp 42) b2 0 #[.int .u64 0, .int .u64 0, .int .u64 0, .int .u64 0] (Value.cells (uv (fSub 0 (fpw A QR PR) PR))) 24 (uv (fSub 0 (fpw A QR PR) PR)) kr kr kr kr kr kr (of_decide_eq_true kr) kr kr ?_
    intro w18 H18; clear H17
    refine s_val (some 3) (.int .i64 0) (fun w => by kernel_rfl) kr ?_
    refine s_nil ?_
    refine g_ret kr ?_
    show ∃ vs, Res _ _ _ _ vs ∧ _
    refine ⟨[uv (fSub 0 (fpw A QR PR) PR), .int .i64 0], (.agg (b := b2) (Value.cells (uv (fSub 0 (fpw A QR PR) PR))) 24 (0, 0) kr (H18.get 4 kr) kr (.tmp (.int .i64 0) kr .nil)), ?_, H18.below⟩
    have e : rt A = fSub 0 (fpw A QR PR) PR := by unfold rt; rw [hbt]; exact if_pos rfl
    rw [e]; rfl
end Go.Proofs.YtmmloghbnpfedaaDoor

namespace Go.Proofs.YtmmloghbnpfedaaDoor
/-- The number that digits make. -/
def vl : List Nat → Nat
  | [] => 0
  | d :: r => d + 65536 * vl r
/-- Digits indeed. -/
def Ok (l : List Nat) : Prop := ∀ d ∈ l, d < 65536
/-- Digit i of A. -/
def dg (A i : Nat) : Nat := A / 65536 ^ i % 65536
/-- The first k digits of A. -/
def dgs (A k : Nat) : List Nat := (List.range k).map (dg A)
theorem dgs_length (A k : Nat) : (dgs A k).length = k := by unfold dgs; simp
theorem dgs_succ (A k : Nat) : dgs A (k + 1) = dgs A k ++ [dg A k] := by unfold dgs; rw [List.range_succ]; simp
theorem dgs_ok (A k : Nat) : Ok (dgs A k) := by
  intro d hd
  unfold dgs at hd
  obtain ⟨i, _, rfl⟩ := List.mem_map.1 hd
  exact Nat.mod_lt _ (by omega)
theorem vl_append (l m : List Nat) : vl (l ++ m) = vl l + 65536 ^ l.length * vl m := by
  induction l with
  | nil => simp [vl]
  | cons d r ih =>
    rw [List.cons_append, vl, vl, ih, List.length_cons, Nat.pow_succ, Nat.mul_add, ← Nat.mul_assoc, Nat.mul_comm 65536 (65536 ^ _)]
    omega
theorem vl_snoc (l : List Nat) (d : Nat) : vl (l ++ [d]) = vl l + 65536 ^ l.length * d := by rw [vl_append]; simp [vl]
theorem vl_dgs (A k : Nat) : vl (dgs A k) = A % 65536 ^ k := by
  induction k with
  | zero => simp [dgs, vl, Nat.mod_one]
  | succ k ih =>
    rw [dgs_succ, vl_snoc, ih, dgs_length, Nat.pow_succ, Nat.mod_mul]
    rfl
theorem vl_lt {l : List Nat} (h : Ok l) : vl l < 65536 ^ l.length := by
  induction l with
  | nil => simp [vl]
  | cons d r ih =>
    have h1 := h d (by simp)
    have h2 := ih (fun x hx => h x (by simp [hx]))
    rw [vl, List.length_cons, Nat.pow_succ]
    omega
theorem ok_append {l m : List Nat} (h : Ok l) (k : Ok m) : Ok (l ++ m) := fun d hd => by
  rcases List.mem_append.1 hd with h1 | h1
  · exact h d h1
  · exact k d h1
theorem ok_take {l : List Nat} (h : Ok l) (k : Nat) : Ok (l.take k) := fun d hd => h d (List.mem_of_mem_take hd)
theorem ok_getD {l : List Nat} (h : Ok l) (i : Nat) : l.getD i 0 < 65536 := by
  rcases Nat.lt_or_ge i l.length with hi | hi
  · have : l.getD i 0 = l[i] := by simp [List.getD, List.getElem?_eq_getElem hi]
    rw [this]; exact h _ (List.getElem_mem hi)
  · have : l.getD i 0 = 0 := by simp [List.getD, List.getElem?_eq_none hi]
    omega
theorem vl_take (l : List Nat) (k : Nat) (h : k < l.length) : vl (l.take (k + 1)) = vl (l.take k) + 65536 ^ k * l.getD k 0 := by
  rw [List.take_succ_eq_append_getElem h, vl_snoc, List.length_take, Nat.min_eq_left (by omega)]
  simp [List.getD, List.getElem?_eq_getElem h]
theorem vl_take' (l : List Nat) (k : Nat) : vl (l.take (k + 1)) = vl (l.take k) + 65536 ^ k * l.getD k 0 := by
  rcases Nat.lt_or_ge k l.length with h | h
  · exact vl_take l k h
  · rw [List.take_of_length_le h, List.take_of_length_le (by omega)]; simp [List.getD, List.getElem?_eq_none h]
theorem vl_split (l : List Nat) (k : Nat) : vl l = vl (l.take k) + 65536 ^ k * vl (l.drop k) := by
  rcases Nat.lt_or_ge l.length k with h | h
  · rw [List.take_of_length_le (by omega), List.drop_of_length_le (by omega)]; simp [vl]
  · conv => lhs; rw [← List.take_append_drop k l]
    rw [vl_append, List.length_take, Nat.min_eq_left h]
theorem vl_take_mod {l : List Nat} (h : Ok l) (k : Nat) : vl (l.take k) = vl l % 65536 ^ k := by
  have h1 := vl_split l k
  have h2 := vl_lt (ok_take h k)
  have h3 : 65536 ^ (l.take k).length ≤ 65536 ^ k := Nat.pow_le_pow_right (by omega) (List.length_take_le _ _)
  rw [h1, Nat.add_mul_mod_self_left, Nat.mod_eq_of_lt (by omega)]
theorem big_pow : big = 65536 ^ 16 := rfl
/-- Digit k of a word. -/
theorem dg_word0 (A k : Nat) (h : k / 4 = 0) : (w0 A / 2 ^ (16 * (k % 4))) % 65536 = (dg A k : Int) := by
  have hk : k = 0 ∨ k = 1 ∨ k = 2 ∨ k = 3 := by omega
  unfold w0 dg
  rcases hk with rfl | rfl | rfl | rfl
  · show ((A % 18446744073709551616 : Nat) : Int) / 1 % 65536 = ((A / 1 % 65536 : Nat) : Int); omega
  · show ((A % 18446744073709551616 : Nat) : Int) / 65536 % 65536 = ((A / 65536 % 65536 : Nat) : Int); omega
  · show ((A % 18446744073709551616 : Nat) : Int) / 4294967296 % 65536 = ((A / 4294967296 % 65536 : Nat) : Int); omega
  · show ((A % 18446744073709551616 : Nat) : Int) / 281474976710656 % 65536 = ((A / 281474976710656 % 65536 : Nat) : Int); omega
theorem dg_shift (A j k : Nat) : dg (A / 65536 ^ j) k = dg A (j + k) := by unfold dg; rw [Nat.div_div_eq_div_mul, ← Nat.pow_add]
theorem dg_word1 (A k : Nat) (h : k / 4 = 1) : (w1 A / 2 ^ (16 * (k % 4))) % 65536 = (dg A k : Int) := by
  have e := dg_word0 (A / 65536 ^ 4) (k - 4) (by omega)
  rw [dg_shift, show 4 + (k - 4) = k by omega, show (k - 4) % 4 = k % 4 by omega] at e
  exact e
theorem dg_word2 (A k : Nat) (h : k / 4 = 2) : (w2 A / 2 ^ (16 * (k % 4))) % 65536 = (dg A k : Int) := by
  have e := dg_word0 (A / 65536 ^ 8) (k - 8) (by omega)
  rw [dg_shift, show 8 + (k - 8) = k by omega, show (k - 8) % 4 = k % 4 by omega] at e
  exact e
theorem dg_word3 (A k : Nat) (h : k / 4 = 3) : (w3 A / 2 ^ (16 * (k % 4))) % 65536 = (dg A k : Int) := by
  have e := dg_word0 (A / 65536 ^ 12) (k - 12) (by omega)
  rw [dg_shift, show 12 + (k - 12) = k by omega, show (k - 12) % 4 = k % 4 by omega] at e
  exact e
end Go.Proofs.YtmmloghbnpfedaaDoor

namespace Go.Proofs.YtmmloghbnpfedaaDoor
open Go
set_option linter.unusedVariables false
/-- Digit i, as a whole number. -/
def dAt (ds : List Nat) (i : Nat) : Int := ((ds.getD i 0 : Nat) : Int)
theorem dAt_lo {l : List Nat} (i : Nat) : 0 ≤ dAt l i := by unfold dAt; omega
theorem dAt_hi {l : List Nat} (h : Ok l) (i : Nat) : dAt l i ≤ 65535 := by have := ok_getD h i; unfold dAt; omega
/-- What the rounds of a sum keep. -/
structure SumI (x y l : List Nat) (k : Nat) (c : Int) : Prop where
  len : l.length = k
  ok : Ok l
  c0 : 0 ≤ c
  c1 : c ≤ 1
  val : (vl l : Int) + 65536 ^ k * c = vl (x.take k) + vl (y.take k)
  top : k ≤ max x.length y.length + 1
  last : k = max x.length y.length + 1 → c = 0
theorem SumI.start (x y : List Nat) : SumI x y [] 0 0 := ⟨rfl, (fun d h => by cases h), by omega, by omega, by simp [vl], by omega, by omega⟩
theorem SumI.next {x y l : List Nat} {k : Nat} {c : Int} (h : SumI x y l k c) (hx : Ok x) (hy : Ok y) (hgo : k < x.length ∨ k < y.length ∨ 0 < c) :
    SumI x y (l ++ [((dAt x k + dAt y k + c) % 65536).toNat]) (k + 1) ((dAt x k + dAt y k + c) / 65536) := by
  have x0 := dAt_lo (l := x) k; have x1 := dAt_hi hx k
  have y0 := dAt_lo (l := y) k; have y1 := dAt_hi hy k
  obtain ⟨e1, e2, c0, c1, ev, et, el⟩ := h
  have hend : k = max x.length y.length → dAt x k = 0 ∧ dAt y k = 0 := fun e => by
    unfold dAt; simp [List.getD, List.getElem?_eq_none (show x.length ≤ k by omega), List.getElem?_eq_none (show y.length ≤ k by omega)]
  refine ⟨by simp [e1], ok_append e2 (fun d hd => by simp at hd; omega), by omega, by omega, ?_, ?_, ?_⟩
  · rw [vl_snoc, e1, vl_take', vl_take', Int.pow_succ]
    have hdx : dAt x k = ((x.getD k 0 : Nat) : Int) := rfl
    have hdy : dAt y k = ((y.getD k 0 : Nat) : Int) := rfl
    have hs : (((dAt x k + dAt y k + c) % 65536).toNat : Int) = (dAt x k + dAt y k + c) % 65536 := by omega
    have hm : dAt x k + dAt y k + c = 65536 * ((dAt x k + dAt y k + c) / 65536) + (dAt x k + dAt y k + c) % 65536 := by omega
    generalize hq : (dAt x k + dAt y k + c) / 65536 = q at *
    generalize hr : (dAt x k + dAt y k + c) % 65536 = r at *
    have e3 : (65536 : Int) ^ k * dAt x k + 65536 ^ k * dAt y k + 65536 ^ k * c = 65536 ^ k * 65536 * q + 65536 ^ k * r := by
      rw [← Int.mul_add, ← Int.mul_add, hm, Int.mul_add, Int.mul_assoc]
    have g1 : ((vl l + 65536 ^ k * r.toNat : Nat) : Int) = (vl l : Int) + 65536 ^ k * r := by rw [Int.natCast_add, Int.natCast_mul, Int.natCast_pow, hs]; rfl
    have g2 : ((vl (x.take k) + 65536 ^ k * x.getD k 0 : Nat) : Int) = (vl (x.take k) : Int) + 65536 ^ k * dAt x k := by rw [Int.natCast_add, Int.natCast_mul, Int.natCast_pow]; rfl
    have g3 : ((vl (y.take k) + 65536 ^ k * y.getD k 0 : Nat) : Int) = (vl (y.take k) : Int) + 65536 ^ k * dAt y k := by rw [Int.natCast_add, Int.natCast_mul, Int.natCast_pow]; rfl
    rw [g1, g2, g3]
    omega
  · rcases Nat.lt_or_ge k (max x.length y.length + 1) with h | h
    · omega
    · have := el (by omega); omega
  · intro e
    have := hend (by omega)
    omega
theorem SumI.fin {x y l : List Nat} {k : Nat} {c : Int} (h : SumI x y l k c) (hx : ¬ k < x.length) (hy : ¬ k < y.length) (hc : ¬ 0 < c) : vl l = vl x + vl y := by
  obtain ⟨e1, e2, c0, c1, ev, et, el⟩ := h
  rw [show c = 0 by omega, List.take_of_length_le (by omega), List.take_of_length_le (by omega)] at ev
  simp at ev; omega
def ls (x y : List Nat) : Bool := decide (vl x < vl y)
theorem vl_ext : ∀ (x y : List Nat), (∀ t, dAt x t = dAt y t) → vl x = vl y
  | [], [], _ => rfl
  | [], b :: y, h => by
    have h0 := h 0
    have ih := vl_ext [] y (fun t => by have := h (t + 1); simpa [dAt] using this)
    simp [dAt] at h0
    simp only [vl] at ih ⊢
    omega
  | a :: x, [], h => by
    have h0 := h 0
    have ih := vl_ext x [] (fun t => by have := h (t + 1); simpa [dAt] using this)
    simp [dAt] at h0
    simp only [vl] at ih ⊢
    omega
  | a :: x, b :: y, h => by
    have h0 := h 0
    have ih := vl_ext x y (fun t => by have := h (t + 1); simpa [dAt] using this)
    simp [dAt] at h0
    simp only [vl]
    omega
theorem dAt_drop (l : List Nat) (k t : Nat) : dAt (l.drop k) t = dAt l (k + t) := by unfold dAt; simp [List.getD, List.getElem?_drop]
theorem vl_at (l : List Nat) (j : Nat) : vl l = vl (l.take j) + 65536 ^ j * l.getD j 0 + 65536 ^ (j + 1) * vl (l.drop (j + 1)) := by
  rw [vl_split l (j + 1), vl_take']
theorem lt_of_digit {x y : List Nat} (hx : Ok x) (hy : Ok y) (j : Nat) (ht : ∀ t, j < t → dAt x t = dAt y t) (h : dAt x j < dAt y j) : vl x < vl y := by
  have e : vl (x.drop (j + 1)) = vl (y.drop (j + 1)) := vl_ext _ _ (fun t => by rw [dAt_drop, dAt_drop]; exact ht _ (by omega))
  have hl := vl_lt (ok_take hx j)
  have h3 : 65536 ^ (x.take j).length ≤ 65536 ^ j := Nat.pow_le_pow_right (by omega) (List.length_take_le _ _)
  have hd : x.getD j 0 + 1 ≤ y.getD j 0 := by unfold dAt at h; omega
  have hm : 65536 ^ j * (x.getD j 0 + 1) ≤ 65536 ^ j * y.getD j 0 := Nat.mul_le_mul_left _ hd
  rw [Nat.mul_add, Nat.mul_one] at hm
  rw [vl_at x j, vl_at y j, e]
  omega
theorem ls_digit {x y : List Nat} (hx : Ok x) (hy : Ok y) (j : Nat) (ht : ∀ t, j < t → dAt x t = dAt y t) (h : dAt x j ≠ dAt y j) : decide (dAt x j < dAt y j) = ls x y := by
  unfold ls
  rcases Int.lt_or_gt_of_ne h with k | k
  · have := lt_of_digit hx hy j ht k
    simp [k, this]
  · have := lt_of_digit hy hx j (fun t h => (ht t h).symm) k
    have k' : ¬ dAt x j < dAt y j := by omega
    have this' : ¬ vl x < vl y := by omega
    simp [k', this']
theorem ls_none {x y : List Nat} (ht : ∀ t, dAt x t = dAt y t) : ls x y = false := by
  unfold ls; rw [vl_ext x y ht]; simp
/-- All digits from j on are alike. -/
def Same (x y : List Nat) (j : Int) : Prop := ∀ t : Nat, j < t → dAt x t = dAt y t
theorem Same.start (x y : List Nat) (n : Int) (h1 : (x.length : Int) ≤ n) (h2 : (y.length : Int) ≤ n) : Same x y (n - 1) := fun t ht => by
  unfold dAt; simp [List.getD, List.getElem?_eq_none (show x.length ≤ t by omega), List.getElem?_eq_none (show y.length ≤ t by omega)]
theorem Same.down {x y : List Nat} {j : Nat} (h : Same x y j) (e : dAt x j = dAt y j) : Same x y ((j : Int) - 1) := fun t ht => by
  rcases Nat.lt_or_ge j t with k | k
  · exact h t (by omega)
  · rw [show t = j by omega]; exact e
structure TakeI (x y l : List Nat) (k : Nat) (c : Int) : Prop where
  len : l.length = k
  ok : Ok l
  c0 : 0 ≤ c
  c1 : c ≤ 1
  val : (vl l : Int) - 65536 ^ k * c = vl (x.take k) - vl (y.take k)
theorem TakeI.start (x y : List Nat) : TakeI x y [] 0 0 := ⟨rfl, (fun d h => by cases h), by omega, by omega, by simp [vl]⟩
theorem TakeI.step {x y l : List Nat} {k : Nat} {c : Int} (h : TakeI x y l k c) (r q : Int) (hr0 : 0 ≤ r) (hr1 : r < 65536) (hq0 : 0 ≤ q) (hq1 : q ≤ 1) (hm : dAt x k - dAt y k - c = r - 65536 * q) :
    TakeI x y (l ++ [r.toNat]) (k + 1) q := by
  obtain ⟨e1, e2, c0, c1, ev⟩ := h
  refine ⟨by simp [e1], ok_append e2 (fun d hd => by simp at hd; omega), hq0, hq1, ?_⟩
  rw [vl_snoc, e1, vl_take', vl_take', Int.pow_succ]
  have hs : ((r.toNat : Nat) : Int) = r := by omega
  have e3 : (65536 : Int) ^ k * dAt x k - 65536 ^ k * dAt y k - 65536 ^ k * c = 65536 ^ k * r - 65536 ^ k * 65536 * q := by
    rw [← Int.mul_sub, ← Int.mul_sub, hm, Int.mul_sub, Int.mul_assoc]
  have g1 : ((vl l + 65536 ^ k * r.toNat : Nat) : Int) = (vl l : Int) + 65536 ^ k * r := by rw [Int.natCast_add, Int.natCast_mul, Int.natCast_pow, hs]; rfl
  have g2 : ((vl (x.take k) + 65536 ^ k * x.getD k 0 : Nat) : Int) = (vl (x.take k) : Int) + 65536 ^ k * dAt x k := by rw [Int.natCast_add, Int.natCast_mul, Int.natCast_pow]; rfl
  have g3 : ((vl (y.take k) + 65536 ^ k * y.getD k 0 : Nat) : Int) = (vl (y.take k) : Int) + 65536 ^ k * dAt y k := by rw [Int.natCast_add, Int.natCast_mul, Int.natCast_pow]; rfl
  rw [g1, g2, g3]
  omega
theorem TakeI.fin {x y l : List Nat} {c : Int} (h : TakeI x y l x.length c) (hx : Ok x) (hy : Ok y) (hle : vl y ≤ vl x) : vl l = vl x - vl y := by
  obtain ⟨e1, e2, c0, c1, ev⟩ := h
  have b1 := vl_lt hx
  have b2 := vl_lt e2
  rw [e1] at b2
  have e3 : vl (y.take x.length) = vl y := by rw [vl_take_mod hy, Nat.mod_eq_of_lt (by omega)]
  rw [e3, List.take_of_length_le (Nat.le_refl _)] at ev
  have hp : ((65536 ^ x.length : Nat) : Int) = 65536 ^ x.length := by rw [Int.natCast_pow]; rfl
  have hc : c = 0 ∨ c = 1 := by omega
  rcases hc with rfl | rfl
  · omega
  · exfalso; omega
theorem dg_vl {l : List Nat} (h : Ok l) (i : Nat) : dg (vl l) i = l.getD i 0 := by
  have e := vl_at l i
  have hl := vl_lt (ok_take h i)
  have h3 : 65536 ^ (l.take i).length ≤ 65536 ^ i := Nat.pow_le_pow_right (by omega) (List.length_take_le _ _)
  have hd := ok_getD h i
  have e2 : vl l = vl (l.take i) + 65536 ^ i * (l.getD i 0 + 65536 * vl (l.drop (i + 1))) := by
    rw [e, Nat.pow_succ, Nat.mul_add, Nat.mul_assoc]; omega
  unfold dg
  rw [e2, Nat.add_mul_div_left _ _ (Nat.pow_pos (by omega)), Nat.div_eq_of_lt (by omega)]
  omega
/-- Word q, when the digits from j on have come. -/
def ow (V j q : Nat) : Nat := if 4 * q + 4 ≤ j then 0 else V / 65536 ^ (max j (4 * q)) % 65536 ^ (4 * q + 4 - max j (4 * q))
theorem ow_mod0 (V : Nat) : w0 (V % big) = w0 V := by unfold w0 big; omega
theorem ow_mod1 (V : Nat) : w1 (V % big) = w1 V := by unfold w1 big; omega
theorem ow_mod2 (V : Nat) : w2 (V % big) = w2 V := by unfold w2 big; omega
theorem ow_mod3 (V : Nat) : w3 (V % big) = w3 V := by unfold w3 big; omega
theorem vl_set : ∀ (l : List Nat) (j d : Nat), j < l.length → vl (l.set j d) + 65536 ^ j * l.getD j 0 = vl l + 65536 ^ j * d
  | [], j, d, h => by simp at h
  | a :: r, 0, d, _ => by simp [vl]; omega
  | a :: r, j + 1, d, h => by
    have ih := vl_set r j d (by simpa using h)
    simp only [List.set_cons_succ, vl, List.getD_cons_succ, Nat.pow_succ]
    have e1 : 65536 ^ j * 65536 * r.getD j 0 = 65536 * (65536 ^ j * r.getD j 0) := by rw [Nat.mul_comm (65536 ^ j) 65536, Nat.mul_assoc]
    have e2 : 65536 ^ j * 65536 * d = 65536 * (65536 ^ j * d) := by rw [Nat.mul_comm (65536 ^ j) 65536, Nat.mul_assoc]
    rw [e1, e2]
    omega
theorem ok_set {l : List Nat} (h : Ok l) (j d : Nat) (hd : d < 65536) : Ok (l.set j d) := fun x hx => by
  rcases List.mem_or_eq_of_mem_set hx with h1 | h1
  · exact h x h1
  · rw [h1]; exact hd
theorem vl_zeros (n : Nat) : vl (List.replicate n 0) = 0 := by
  induction n with
  | zero => rfl
  | succ n ih => rw [List.replicate_succ, vl, ih]
theorem ok_zeros (n : Nat) : Ok (List.replicate n 0) := fun d hd => by
  have := List.eq_of_mem_replicate hd; omega
/-- What the inner rounds keep: out, the carry c, at place i of x and k of y. -/
structure MulI (x y out : List Nat) (i k c : Nat) : Prop where
  len : out.length = x.length + y.length + 1
  ok : Ok out
  hi : i < x.length
  cw : c < 65536
  val : vl out + 65536 ^ (i + k) * c = vl (x.take i) * vl y + 65536 ^ i * (x.getD i 0 * vl (y.take k))
  top : k ≤ y.length + 1
  last : k = y.length + 1 → c = 0
theorem MulI.start {x y out : List Nat} {i : Nat} (hl : out.length = x.length + y.length + 1) (hok : Ok out) (hi : i < x.length) (hv : vl out = vl (x.take i) * vl y) : MulI x y out i 0 0 :=
  ⟨hl, hok, hi, by omega, by simp [vl, hv], by omega, by omega⟩
theorem MulI.next {x y out : List Nat} {i k c : Nat} (h : MulI x y out i k c) (hx : Ok x) (hy : Ok y) (hgo : k < y.length ∨ 0 < c) :
    i + k < out.length ∧ MulI x y (out.set (i + k) ((out.getD (i + k) 0 + x.getD i 0 * y.getD k 0 + c) % 65536)) i (k + 1) ((out.getD (i + k) 0 + x.getD i 0 * y.getD k 0 + c) / 65536) := by
  obtain ⟨e1, e2, e3, e4, ev, et, el⟩ := h
  have hk : k ≤ y.length := by
    rcases Nat.lt_or_ge k (y.length + 1) with h | h
    · omega
    · have := el (by omega); omega
  have hij : i + k < out.length := by omega
  refine ⟨hij, ?_⟩
  have ho := ok_getD e2 (i + k)
  have hxi := ok_getD hx i
  have hyk := ok_getD hy k
  generalize hn : out.getD (i + k) 0 + x.getD i 0 * y.getD k 0 + c = n
  have hm : x.getD i 0 * y.getD k 0 ≤ 65535 * 65535 := Nat.mul_le_mul (by omega) (by omega)
  have hset := vl_set out (i + k) (n % 65536) hij
  have hnew : vl (out.set (i + k) (n % 65536)) + 65536 ^ (i + (k + 1)) * (n / 65536) = vl (x.take i) * vl y + 65536 ^ i * (x.getD i 0 * vl (y.take (k + 1))) := by
    have hp : 65536 ^ (i + (k + 1)) * (n / 65536) + 65536 ^ (i + k) * (n % 65536) = 65536 ^ (i + k) * n := by
      rw [show i + (k + 1) = (i + k) + 1 by omega, Nat.pow_succ, Nat.mul_assoc, ← Nat.mul_add]
      congr 1; omega
    have ht : 65536 ^ i * (x.getD i 0 * vl (y.take (k + 1))) = 65536 ^ i * (x.getD i 0 * vl (y.take k)) + 65536 ^ (i + k) * (x.getD i 0 * y.getD k 0) := by
      rw [vl_take', Nat.mul_add, Nat.mul_add, Nat.pow_add, Nat.mul_left_comm (x.getD i 0), Nat.mul_assoc (65536 ^ i)]
    have hs : 65536 ^ (i + k) * n = 65536 ^ (i + k) * out.getD (i + k) 0 + 65536 ^ (i + k) * (x.getD i 0 * y.getD k 0) + 65536 ^ (i + k) * c := by
      rw [← hn, Nat.mul_add, Nat.mul_add]
    rw [ht]
    omega
  refine ⟨by simpa using e1, ok_set e2 _ _ (Nat.mod_lt _ (by omega)), e3, ?_, hnew, by omega, ?_⟩
  · omega
  · intro hkl
    have hky : k = y.length := by omega
    -- at the end the number has no digit there
    have hb : vl (x.take i) * vl y + 65536 ^ i * (x.getD i 0 * vl (y.take (k + 1))) = vl (x.take (i + 1)) * vl y := by
      rw [List.take_of_length_le (l := y) (by omega), vl_take' x, Nat.add_mul, Nat.mul_assoc]
    have b1 := vl_lt (ok_take hx (i + 1))
    have b2 : 65536 ^ (x.take (i + 1)).length ≤ 65536 ^ (i + 1) := Nat.pow_le_pow_right (by omega) (List.length_take_le _ _)
    have b3 := vl_lt hy
    have b4 : vl (x.take (i + 1)) * vl y < 65536 ^ (i + 1) * 65536 ^ y.length := by
      exact Nat.mul_lt_mul_of_lt_of_le (by omega) (Nat.le_of_lt b3) (Nat.pow_pos (by omega))
    rw [← Nat.pow_add] at b4
    rw [hb] at hnew
    rcases Nat.eq_zero_or_pos (n / 65536) with hz | hz
    · exact hz
    · exfalso
      have h5 : 65536 ^ (i + (k + 1)) * 1 ≤ 65536 ^ (i + (k + 1)) * (n / 65536) := Nat.mul_le_mul_left _ hz
      rw [show i + (k + 1) = i + 1 + y.length by omega] at h5 hnew
      omega
theorem MulI.fin {x y out : List Nat} {i k c : Nat} (h : MulI x y out i k c) (hk : ¬ k < y.length) (hc : ¬ 0 < c) : vl out = vl (x.take (i + 1)) * vl y := by
  obtain ⟨e1, e2, e3, e4, ev, et, el⟩ := h
  rw [show c = 0 by omega, List.take_of_length_le (l := y) (by omega)] at ev
  rw [vl_take', Nat.add_mul, Nat.mul_assoc]
  simpa using ev
theorem SumI.go {x y l : List Nat} {k c : Nat} (h : SumI x y l k (c : Int)) (hx : Ok x) (hy : Ok y) (hgo : k < x.length ∨ k < y.length ∨ 0 < c) :
    SumI x y (l ++ [(x.getD k 0 + y.getD k 0 + c) % 65536]) (k + 1) (((x.getD k 0 + y.getD k 0 + c) / 65536 : Nat) : Int) := by
  have hn := h.next hx hy (by omega)
  unfold dAt at hn
  rw [show ((((x.getD k 0 : Nat) : Int) + ((y.getD k 0 : Nat) : Int) + (c : Int)) % 65536).toNat = (x.getD k 0 + y.getD k 0 + c) % 65536 by omega,
    show (((x.getD k 0 : Nat) : Int) + ((y.getD k 0 : Nat) : Int) + (c : Int)) / 65536 = (((x.getD k 0 + y.getD k 0 + c) / 65536 : Nat) : Int) by omega] at hn
  exact hn
theorem SumI.done {x y l : List Nat} {k c : Nat} (h : SumI x y l k (c : Int)) (hx : ¬ k < x.length) (hy : ¬ k < y.length) (hc : ¬ 0 < c) : vl l = vl x + vl y := h.fin hx hy (by omega)
/-- Bit i of a number in digits. -/
theorem bit_digit {a : List Nat} (h : Ok a) (i : Nat) : a.getD (i / 16) 0 / 2 ^ (i % 16) % 2 = vl a / 2 ^ i % 2 := by
  rw [← dg_vl h (i / 16)]
  unfold dg
  have e : vl a / 2 ^ i = vl a / 65536 ^ (i / 16) / 2 ^ (i % 16) := by
    rw [Nat.div_div_eq_div_mul, show (65536 : Nat) = 2 ^ 16 from rfl, ← Nat.pow_mul, ← Nat.pow_add]
    congr 2; omega
  rw [e]
  generalize vl a / 65536 ^ (i / 16) = X
  have hr : i % 16 < 16 := Nat.mod_lt _ (by omega)
  rw [show (65536 : Nat) = 2 ^ (i % 16) * 2 ^ (16 - i % 16) by rw [← Nat.pow_add, show i % 16 + (16 - i % 16) = 16 by omega], Nat.mod_mul_right_div_self]
  obtain ⟨m, hm⟩ : ∃ m, 16 - i % 16 = m + 1 := ⟨15 - i % 16, by omega⟩
  rw [hm, Nat.pow_succ, Nat.mul_comm (2 ^ m) 2, Nat.mod_mul_right_mod]
theorem two_mod (n m _k : Nat) : 2 * (n % m) % m = 2 * n % m := by rw [Nat.mul_mod, Nat.mod_mod, ← Nat.mul_mod]
theorem left_step {N M v j : Nat} (hM : 0 < M) (hv : v = N / 2 ^ (j + 1) % M) : (M ≤ 2 * v + N / 2 ^ j % 2 ∧ 2 * v + N / 2 ^ j % 2 < 2 * M ∧ N / 2 ^ j % M = 2 * v + N / 2 ^ j % 2 - M) ∨ (2 * v + N / 2 ^ j % 2 < M ∧ N / 2 ^ j % M = 2 * v + N / 2 ^ j % 2) := by
  have h1 : v < M := by rw [hv]; exact Nat.mod_lt _ hM
  have h2 : N / 2 ^ j % 2 < 2 := Nat.mod_lt _ (by omega)
  have h3 : N / 2 ^ (j + 1) = N / 2 ^ j / 2 := by rw [Nat.pow_succ, Nat.div_div_eq_div_mul]
  have h4 : N / 2 ^ j % M = (2 * v + N / 2 ^ j % 2) % M := by
    have h6 : ∀ K b : Nat, (2 * (K % M) + b) % M = (2 * K + b) % M := fun K b => by
      rw [Nat.add_mod, two_mod K M 0, ← Nat.add_mod]
    rw [hv, h3, h6]
    congr 1; omega
  rw [h4]
  rcases Nat.lt_or_ge (2 * v + N / 2 ^ j % 2) M with h | h
  · exact .inr ⟨h, Nat.mod_eq_of_lt h⟩
  · exact .inl ⟨h, by omega, by rw [Nat.mod_eq_sub_mod h, Nat.mod_eq_of_lt (by omega)]⟩
theorem vl_dropLast {l : List Nat} (h1 : 1 < l.length) (h0 : l.getD (l.length - 1) 0 = 0) : vl (l.take (l.length - 1)) = vl l := by
  have e := vl_take' l (l.length - 1)
  rw [h0, Nat.mul_zero, Nat.add_zero, show l.length - 1 + 1 = l.length by omega, List.take_of_length_le (Nat.le_refl _)] at e
  exact e.symm
theorem vl_len {l m : List Nat} (hm : Ok m) (h1 : 1 < l.length) (h0 : l.getD (l.length - 1) 0 ≠ 0) (hlt : vl l < vl m) : l.length ≤ m.length := by
  have e := vl_take' l (l.length - 1)
  rw [show l.length - 1 + 1 = l.length by omega, List.take_of_length_le (Nat.le_refl _)] at e
  have h2 := vl_lt hm
  rcases Nat.lt_or_ge m.length l.length with h | h
  · have h3 : 65536 ^ m.length ≤ 65536 ^ (l.length - 1) := Nat.pow_le_pow_right (by omega) (by omega)
    have h4 : 65536 ^ (l.length - 1) * 1 ≤ 65536 ^ (l.length - 1) * l.getD (l.length - 1) 0 := Nat.mul_le_mul_left _ (by omega)
    omega
  · exact h
theorem cellsD_take (l : List Nat) (k : Nat) : (l.map fun d => Value.int .i64 ((d : Nat) : Int)).take k = (l.take k).map fun d => Value.int .i64 ((d : Nat) : Int) := by rw [List.map_take]
/-- The words of a number in digits. -/
theorem word_digits {x : List Nat} (h : Ok x) (q : Nat) : ((x.getD (4 * q + 3) 0 * 65536 + x.getD (4 * q + 2) 0) * 65536 + x.getD (4 * q + 1) 0) * 65536 + x.getD (4 * q) 0 = vl x / 65536 ^ (4 * q) % 18446744073709551616 := by
  rw [← dg_vl h (4 * q + 3), ← dg_vl h (4 * q + 2), ← dg_vl h (4 * q + 1), ← dg_vl h (4 * q)]
  unfold dg
  rw [Nat.pow_add, Nat.pow_add 65536 (4 * q) 2, Nat.pow_add 65536 (4 * q) 1, ← Nat.div_div_eq_div_mul, ← Nat.div_div_eq_div_mul, ← Nat.div_div_eq_div_mul]
  generalize vl x / 65536 ^ (4 * q) = X
  show ((X / 281474976710656 % 65536 * 65536 + X / 4294967296 % 65536) * 65536 + X / 65536 % 65536) * 65536 + X % 65536 = _
  omega
theorem uv_digits {x : List Nat} (h : Ok x) (g : Nat → Nat) (hg : ∀ i, g i = x.getD i 0) :
    Value.agg #[.int .u64 (((((g 3 * 65536 + g 2) * 65536 + g 1) * 65536 + g 0 : Nat)) : Int), .int .u64 (((((g 7 * 65536 + g 6) * 65536 + g 5) * 65536 + g 4 : Nat)) : Int), .int .u64 (((((g 11 * 65536 + g 10) * 65536 + g 9) * 65536 + g 8 : Nat)) : Int), .int .u64 (((((g 15 * 65536 + g 14) * 65536 + g 13) * 65536 + g 12 : Nat)) : Int)] = uv (vl x % big) := by
  have e0 := word_digits h 0; have e1 := word_digits h 1; have e2 := word_digits h 2; have e3 := word_digits h 3
  simp only [hg]
  have f0 : ((((x.getD 3 0 * 65536 + x.getD 2 0) * 65536 + x.getD 1 0) * 65536 + x.getD 0 0 : Nat) : Int) = w0 (vl x % big) := by
    rw [ow_mod0]; unfold w0; rw [e0, Nat.mul_zero, Nat.pow_zero, Nat.div_one]
  have f1 : ((((x.getD 7 0 * 65536 + x.getD 6 0) * 65536 + x.getD 5 0) * 65536 + x.getD 4 0 : Nat) : Int) = w1 (vl x % big) := by
    rw [ow_mod1]; unfold w1; rw [e1]
  have f2 : ((((x.getD 11 0 * 65536 + x.getD 10 0) * 65536 + x.getD 9 0) * 65536 + x.getD 8 0 : Nat) : Int) = w2 (vl x % big) := by
    rw [ow_mod2]; unfold w2; rw [e2]
  have f3 : ((((x.getD 15 0 * 65536 + x.getD 14 0) * 65536 + x.getD 13 0) * 65536 + x.getD 12 0 : Nat) : Int) = w3 (vl x % big) := by
    rw [ow_mod3]; unfold w3; rw [e3]
  rw [f0, f1, f2, f3]
end Go.Proofs.YtmmloghbnpfedaaDoor

namespace Go.Proofs.YtmmloghbnpfedaaDoor
open Go Go.RowKit
set_option linter.unusedVariables false
set_option maxRecDepth 100000 in
set_option maxHeartbeats 2000000 in
theorem digit_fn (x : List Nat) (ba nx ca : Nat) (curA : Array Value) (hnx : nx = List.length x) (hA : Rw 1 curA ca nx (cellsD x)) (lx : List.length x ≤ 100000) (i : Nat) (hi : i ≤ 100000) : FnP Tryd.prog 71 #[.slice (some ⟨ba, 0, none⟩) nx ca, .int .i64 ((i : Nat) : Int)] (fun w => w.heap[ba]? = some (.cells curA 3 (0, 0))) (.int .i64 ((List.getD x i 0 : Nat) : Int)) := by
  subst hnx
  refine FnP.intro (c := codeOf Tryd.f71) [.tmp 4] 13 Tryd.func71 kr kr kr fun w hpre => ?_
  have H0 := St.start w
  refine rS [.v] H0 kr fun gs1 w1 H1 => ?_
  clear H0
  refine g_seq kr ?_
  refine g_sreg [0, 1, 2, 3] kr kr ?_
  refine rp [.v, .v, .v] H1 kr fun gs2 w2 H2 => ?_
  show WPs _ _ _ _ [3] _ _
  clear H1
  by_cases hc1 : (i : Nat) < List.length x
  · skip
    refine rp [.e (v := .bool (decide (((i : Nat) : Int) < ((List.length x : Nat) : Int)))) (v' := .bool true) (bool_eq (decide_eq_true (by omega)))] H2 kr fun gs3 w3 H3 => ?_
    show WPs _ _ _ _ [] _ _
    clear H2
    refine s_nil ?_
    refine g_cond_t kr kr ?_
    refine rS [.v, .v, .o (ins := [((.tmp 9), .slice (some ⟨ba, 0, none⟩) (List.length x) ca), ((.tmp 10), .int .i64 ((i : Nat) : Int))]) (v := .pointer (some ⟨ba, 0 + i * 1, none⟩)) (fun ρ o w ho hi => idxS_run (kd := .i64) (t := 60) (e := 3) (size := 1) (bytes := 8) kr (x := (.tmp 9)) (y := (.tmp 10)) ba 0 (List.length x) ca i ho hi.1 hi.2.1 (by omega) w), .fs (off := 0 + i * 1) (v := .int .i64 ((List.getD x i 0 : Nat) : Int)) hpre (lt_of_heap hpre) (hA.atD (by omega) rfl), .v] H3 kr fun gs4 w4 H4 => ?_
    clear H3
    refine g_ret kr ?_
    show ∃ vs, Res _ _ _ _ vs ∧ _
    refine ⟨[.int .i64 ((List.getD x i 0 : Nat) : Int)], (.tmp (.int .i64 ((List.getD x i 0 : Nat) : Int)) kr .nil), ?_, H4.below⟩
    first | rfl | (rw [show List.getD x i 0 = 0 by simp [List.getD, List.getElem?_eq_none (show x.length ≤ i by omega)]]; rfl)
  · skip
    refine rp [.e (v := .bool (decide (((i : Nat) : Int) < ((List.length x : Nat) : Int)))) (v' := .bool false) (bool_eq (decide_eq_false (by omega)))] H2 kr fun gs5 w5 H5 => ?_
    show WPs _ _ _ _ [] _ _
    clear H2
    refine s_nil ?_
    refine g_cond_f kr kr ?_
    refine g_skip kr ?_
    show WP _ _ _ _ _ _
    refine rS [.v] H5 kr fun gs6 w6 H6 => ?_
    clear H5
    refine g_ret kr ?_
    show ∃ vs, Res _ _ _ _ vs ∧ _
    refine ⟨[.int .i64 0], (.tmp (.int .i64 0) kr .nil), ?_, H6.below⟩
    first | rfl | (rw [show List.getD x i 0 = 0 by simp [List.getD, List.getElem?_eq_none (show x.length ≤ i by omega)]]; rfl)
theorem vl_dgs16 {A : Nat} (h : A < big) : vl (dgs A 16) = A := by rw [vl_dgs, ← big_pow, Nat.mod_eq_of_lt h]
theorem of_cast (X n : Nat) : IntKind.i64.wrap ((X / 2 ^ n % 65536 : Nat) : Int) = ((X : Nat) : Int) / 2 ^ n % 65536 := by
  have h := Nat.mod_lt (X / 2 ^ n) (show 0 < 65536 by omega)
  rw [wrapN_i64 (by omega), Int.natCast_emod, Int.natCast_ediv, Int.natCast_pow]; rfl
theorem of_word0 (A k : Nat) (h : k / 4 = 0) : IntKind.i64.wrap (((A % 18446744073709551616 / 2 ^ (16 * (k % 4)) % 65536 : Nat)) : Int) = ((dg A k : Nat) : Int) := (of_cast _ _).trans (dg_word0 A k h)
theorem of_word1 (A k : Nat) (h : k / 4 = 1) : IntKind.i64.wrap (((A / 18446744073709551616 % 18446744073709551616 / 2 ^ (16 * (k % 4)) % 65536 : Nat)) : Int) = ((dg A k : Nat) : Int) := (of_cast _ _).trans (dg_word1 A k h)
theorem of_word2 (A k : Nat) (h : k / 4 = 2) : IntKind.i64.wrap (((A / 340282366920938463463374607431768211456 % 18446744073709551616 / 2 ^ (16 * (k % 4)) % 65536 : Nat)) : Int) = ((dg A k : Nat) : Int) := (of_cast _ _).trans (dg_word2 A k h)
theorem of_word3 (A k : Nat) (h : k / 4 = 3) : IntKind.i64.wrap (((A / 6277101735386680763835789423207666416102355444464034512896 % 18446744073709551616 / 2 ^ (16 * (k % 4)) % 65536 : Nat)) : Int) = ((dg A k : Nat) : Int) := (of_cast _ _).trans (dg_word3 A k h)
set_option maxRecDepth 100000 in
set_option maxHeartbeats 2000000 in
theorem of_fn (A : Nat) (hA : A < big) : FnR Tryd.prog 35 #[uv A] (fun _ => True) (RetS 3 1 (fun cur cap n l => (n = List.length l ∧ Rw 1 cur cap n (cellsD l) ∧ Ok l ∧ (l = dgs A 16 ∧ vl l = A ∧ List.length l = 16)))) := by
  refine FnR.intro (c := codeOf Tryd.f35) [.tmp 2] 25 Tryd.func35 kr kr kr fun w hpre => ?_
  have H0 := St.start w
  refine rS [.b, .v] H0 kr fun gs1 w1 H1 => ?_
  clear H0
  refine rS [.nw (fun b => .slice (some ⟨b, 0, none⟩) 0 0) #[] 3, .v] H1 kr fun gs2 w2 H2 => ?_
  clear H1
  refine g_seq kr ?_
  refine rS [.v] H2 kr fun gs3 w3 H3 => ?_
  clear H2
  refine g_block 0 kr ?_
  have HL1 : St w.heap.size w w3 [((gs1 0).b, Obj.cells (Value.cells (uv A)) 24 (0, 0)), ((gs2 0).b, Obj.cells #[] 3 (0, 0))] := H3.as kr
  clear H3
  refine g_first kr ?_
  refine g_seq kr ?_
  refine rS [.v, .v] HL1 kr fun gs4 w4 H4 => ?_
  clear HL1
  refine g_cond_t kr kr ?_
  refine g_skip kr ?_
  show WP _ _ _ _ _ _
  refine g_seq kr ?_
  refine g_block 1 kr ?_
  refine g_reg0 [0, 1, 2, 3, 4, 5, 6, 7, 8, 9, 10, 11, 12, 13, 14] kr ?_
  refine rp [.v, .v, .v, .v, .l 0, .v, .v, .v, .v, .e (v := .int .u64 (Int.fdiv ((A % 18446744073709551616 : Nat) : Int) (2 ^ 0))) (v' := .int .u64 (((A % 18446744073709551616) / 1 : Nat) : Int)) (int_eq (shrN (k := 0) (A % 18446744073709551616) 1 rfl)), .e (v := .int .u64 (Int.tmod (((A % 18446744073709551616) / 1 : Nat) : Int) 65536)) (v' := .int .u64 ((((A % 18446744073709551616) / 1) % 65536 : Nat) : Int)) (int_eq (remN ((A % 18446744073709551616) / 1) 65536)), .e (v := .int .i64 (IntKind.i64.wrap (((((A % 18446744073709551616) / 1) % 65536 : Nat) : Int)))) (v' := .int .i64 ((dg A 0 : Nat) : Int)) (int_eq (of_word0 A 0 rfl)), .nw (fun b => .slice (some ⟨b, 0, none⟩) 1 1) #[.int .i64 ((dg A 0 : Nat) : Int)] 3] H4 kr fun gs5 w5 H5 => ?_
  show WPs _ _ _ _ [13, 14] _ _
  clear H4
  refine s_append H5 (some 23) 60 3 1 8 (.tmp 10) (.tmp 22) 1 2 ((gs2 0).b) ((gs5 12).b) 0 1 0 1 #[] #[.int .i64 ((dg A 0 : Nat) : Int)] 3 (0, 0) ([]) ([.int .i64 ((dg A 0 : Nat) : Int)]) (fun b_1 cur_3 => [((gs1 0).b, Obj.cells (Value.cells (uv A)) 24 (0, 0)), (b_1, Obj.cells cur_3 3 (0, 0)), ((gs5 12).b, Obj.cells #[.int .i64 ((dg A 0 : Nat) : Int)] 3 (0, 0))]) kr kr kr kr kr (Rw.lit #[] 0 (by rfl) (by unfold maxLen; omega)) kr kr (by rfl) (by rfl) (by intro u hu; simp at hu; first | exact hu.elim | (rcases hu with rfl | rfl | rfl | rfl <;> rfl) | (rcases hu with rfl | rfl <;> rfl) | (subst hu; rfl)) (by omega) (by unfold maxLen; omega) (fun _ _ => by kernel_rfl) ?_
  intro b_1 cap_2 cur_3 w6 H6 hr_4; clear H5
  have hr_4' : Rw 1 cur_3 cap_2 1 (cellsD (dgs A 1)) := by rw [dgs_succ, cellsD_append]; exact hr_4
  refine rp [.v] H6 kr fun gs7 w7 H7 => ?_
  show WPs _ _ _ _ [] _ _
  clear H6
  refine s_nil ?_
  show WP _ _ _ _ _ _
  refine g_keep [0, 1, 2, 3, 4, 7] fun ρ1 => ?_
  have HK2 := H7.keep
  clear H7
  refine rL [.v, .v, .v] HK2 kr fun gs8 w8 H8 => ?_
  clear HK2
  show WPL _ _ _ _ _ _
  refine g_next ?_
  refine g_seq kr ?_
  refine rS [.v, .v] H8 kr fun gs9 w9 H9 => ?_
  clear H8
  refine g_cond_t kr kr ?_
  refine g_skip kr ?_
  show WP _ _ _ _ _ _
  refine g_seq kr ?_
  refine g_block 1 kr ?_
  refine g_reg0 [0, 1, 2, 3, 4, 5, 6, 7, 8, 9, 10, 11, 12, 13, 14] kr ?_
  refine rp [.v, .v, .v, .v, .l 0, .v, .v, .v, .v, .e (v := .int .u64 (Int.fdiv ((A % 18446744073709551616 : Nat) : Int) (2 ^ 16))) (v' := .int .u64 (((A % 18446744073709551616) / 65536 : Nat) : Int)) (int_eq (shrN (k := 16) (A % 18446744073709551616) 65536 rfl)), .e (v := .int .u64 (Int.tmod (((A % 18446744073709551616) / 65536 : Nat) : Int) 65536)) (v' := .int .u64 ((((A % 18446744073709551616) / 65536) % 65536 : Nat) : Int)) (int_eq (remN ((A % 18446744073709551616) / 65536) 65536)), .e (v := .int .i64 (IntKind.i64.wrap (((((A % 18446744073709551616) / 65536) % 65536 : Nat) : Int)))) (v' := .int .i64 ((dg A 1 : Nat) : Int)) (int_eq (of_word0 A 1 rfl)), .nw (fun b => .slice (some ⟨b, 0, none⟩) 1 1) #[.int .i64 ((dg A 1 : Nat) : Int)] 3] H9 kr fun gs10 w10 H10 => ?_
  show WPs _ _ _ _ [13, 14] _ _
  clear H9
  refine s_append H10 (some 23) 60 3 1 8 (.tmp 10) (.tmp 22) 1 3 b_1 ((gs10 12).b) 1 1 cap_2 1 cur_3 #[.int .i64 ((dg A 1 : Nat) : Int)] 3 (0, 0) (cellsD (dgs A 1)) ([.int .i64 ((dg A 1 : Nat) : Int)]) (fun b_5 cur_7 => [((gs1 0).b, Obj.cells (Value.cells (uv A)) 24 (0, 0)), (b_5, Obj.cells cur_7 3 (0, 0)), ((gs5 12).b, Obj.cells #[.int .i64 ((dg A 0 : Nat) : Int)] 3 (0, 0)), ((gs10 12).b, Obj.cells #[.int .i64 ((dg A 1 : Nat) : Int)] 3 (0, 0))]) kr kr kr kr kr hr_4' kr kr (by rfl) (by rfl) (by intro u hu; simp at hu; first | exact hu.elim | (rcases hu with rfl | rfl | rfl | rfl <;> rfl) | (rcases hu with rfl | rfl <;> rfl) | (subst hu; rfl)) (by omega) (by unfold maxLen; omega) (fun _ _ => by kernel_rfl) ?_
  intro b_5 cap_6 cur_7 w11 H11 hr_8; clear H10
  have hr_8' : Rw 1 cur_7 cap_6 2 (cellsD (dgs A 2)) := by rw [dgs_succ, cellsD_append]; exact hr_8
  refine rp [.v] H11 kr fun gs12 w12 H12 => ?_
  show WPs _ _ _ _ [] _ _
  clear H11
  refine s_nil ?_
  show WP _ _ _ _ _ _
  refine g_keep [0, 1, 2, 3, 4, 7] fun ρ2 => ?_
  have HK3 := H12.keep
  clear H12
  refine rL [.v, .v, .v] HK3 kr fun gs13 w13 H13 => ?_
  clear HK3
  show WPL _ _ _ _ _ _
  refine g_next ?_
  refine g_seq kr ?_
  refine rS [.v, .v] H13 kr fun gs14 w14 H14 => ?_
  clear H13
  refine g_cond_t kr kr ?_
  refine g_skip kr ?_
  show WP _ _ _ _ _ _
  refine g_seq kr ?_
  refine g_block 1 kr ?_
  refine g_reg0 [0, 1, 2, 3, 4, 5, 6, 7, 8, 9, 10, 11, 12, 13, 14] kr ?_
  refine rp [.v, .v, .v, .v, .l 0, .v, .v, .v, .v, .e (v := .int .u64 (Int.fdiv ((A % 18446744073709551616 : Nat) : Int) (2 ^ 32))) (v' := .int .u64 (((A % 18446744073709551616) / 4294967296 : Nat) : Int)) (int_eq (shrN (k := 32) (A % 18446744073709551616) 4294967296 rfl)), .e (v := .int .u64 (Int.tmod (((A % 18446744073709551616) / 4294967296 : Nat) : Int) 65536)) (v' := .int .u64 ((((A % 18446744073709551616) / 4294967296) % 65536 : Nat) : Int)) (int_eq (remN ((A % 18446744073709551616) / 4294967296) 65536)), .e (v := .int .i64 (IntKind.i64.wrap (((((A % 18446744073709551616) / 4294967296) % 65536 : Nat) : Int)))) (v' := .int .i64 ((dg A 2 : Nat) : Int)) (int_eq (of_word0 A 2 rfl)), .nw (fun b => .slice (some ⟨b, 0, none⟩) 1 1) #[.int .i64 ((dg A 2 : Nat) : Int)] 3] H14 kr fun gs15 w15 H15 => ?_
  show WPs _ _ _ _ [13, 14] _ _
  clear H14
  refine s_append H15 (some 23) 60 3 1 8 (.tmp 10) (.tmp 22) 1 4 b_5 ((gs15 12).b) 2 1 cap_6 1 cur_7 #[.int .i64 ((dg A 2 : Nat) : Int)] 3 (0, 0) (cellsD (dgs A 2)) ([.int .i64 ((dg A 2 : Nat) : Int)]) (fun b_9 cur_11 => [((gs1 0).b, Obj.cells (Value.cells (uv A)) 24 (0, 0)), (b_9, Obj.cells cur_11 3 (0, 0)), ((gs5 12).b, Obj.cells #[.int .i64 ((dg A 0 : Nat) : Int)] 3 (0, 0)), ((gs10 12).b, Obj.cells #[.int .i64 ((dg A 1 : Nat) : Int)] 3 (0, 0)), ((gs15 12).b, Obj.cells #[.int .i64 ((dg A 2 : Nat) : Int)] 3 (0, 0))]) kr kr kr kr kr hr_8' kr kr (by rfl) (by rfl) (by intro u hu; simp at hu; first | exact hu.elim | (rcases hu with rfl | rfl | rfl | rfl <;> rfl) | (rcases hu with rfl | rfl <;> rfl) | (subst hu; rfl)) (by omega) (by unfold maxLen; omega) (fun _ _ => by kernel_rfl) ?_
  intro b_9 cap_10 cur_11 w16 H16 hr_12; clear H15
  have hr_12' : Rw 1 cur_11 cap_10 3 (cellsD (dgs A 3)) := by rw [dgs_succ, cellsD_append]; exact hr_12
  refine rp [.v] H16 kr fun gs17 w17 H17 => ?_
  show WPs _ _ _ _ [] _ _
  clear H16
  refine s_nil ?_
  show WP _ _ _ _ _ _
  refine g_keep [0, 1, 2, 3, 4, 7] fun ρ3 => ?_
  have HK4 := H17.keep
  clear H17
  refine rL [.v, .v, .v] HK4 kr fun gs18 w18 H18 => ?_
  clear HK4
  show WPL _ _ _ _ _ _
  refine g_next ?_
  refine g_seq kr ?_
  refine rS [.v, .v] H18 kr fun gs19 w19 H19 => ?_
  clear H18
  refine g_cond_t kr kr ?_
  refine g_skip kr ?_
  show WP _ _ _ _ _ _
  refine g_seq kr ?_
  refine g_block 1 kr ?_
  refine g_reg0 [0, 1, 2, 3, 4, 5, 6, 7, 8, 9, 10, 11, 12, 13, 14] kr ?_
  refine rp [.v, .v, .v, .v, .l 0, .v, .v, .v, .v, .e (v := .int .u64 (Int.fdiv ((A % 18446744073709551616 : Nat) : Int) (2 ^ 48))) (v' := .int .u64 (((A % 18446744073709551616) / 281474976710656 : Nat) : Int)) (int_eq (shrN (k := 48) (A % 18446744073709551616) 281474976710656 rfl)), .e (v := .int .u64 (Int.tmod (((A % 18446744073709551616) / 281474976710656 : Nat) : Int) 65536)) (v' := .int .u64 ((((A % 18446744073709551616) / 281474976710656) % 65536 : Nat) : Int)) (int_eq (remN ((A % 18446744073709551616) / 281474976710656) 65536)), .e (v := .int .i64 (IntKind.i64.wrap (((((A % 18446744073709551616) / 281474976710656) % 65536 : Nat) : Int)))) (v' := .int .i64 ((dg A 3 : Nat) : Int)) (int_eq (of_word0 A 3 rfl)), .nw (fun b => .slice (some ⟨b, 0, none⟩) 1 1) #[.int .i64 ((dg A 3 : Nat) : Int)] 3] H19 kr fun gs20 w20 H20 => ?_
  show WPs _ _ _ _ [13, 14] _ _
  clear H19
  refine s_append H20 (some 23) 60 3 1 8 (.tmp 10) (.tmp 22) 1 5 b_9 ((gs20 12).b) 3 1 cap_10 1 cur_11 #[.int .i64 ((dg A 3 : Nat) : Int)] 3 (0, 0) (cellsD (dgs A 3)) ([.int .i64 ((dg A 3 : Nat) : Int)]) (fun b_13 cur_15 => [((gs1 0).b, Obj.cells (Value.cells (uv A)) 24 (0, 0)), (b_13, Obj.cells cur_15 3 (0, 0)), ((gs5 12).b, Obj.cells #[.int .i64 ((dg A 0 : Nat) : Int)] 3 (0, 0)), ((gs10 12).b, Obj.cells #[.int .i64 ((dg A 1 : Nat) : Int)] 3 (0, 0)), ((gs15 12).b, Obj.cells #[.int .i64 ((dg A 2 : Nat) : Int)] 3 (0, 0)), ((gs20 12).b, Obj.cells #[.int .i64 ((dg A 3 : Nat) : Int)] 3 (0, 0))]) kr kr kr kr kr hr_12' kr kr (by rfl) (by rfl) (by intro u hu; simp at hu; first | exact hu.elim | (rcases hu with rfl | rfl | rfl | rfl <;> rfl) | (rcases hu with rfl | rfl <;> rfl) | (subst hu; rfl)) (by omega) (by unfold maxLen; omega) (fun _ _ => by kernel_rfl) ?_
  intro b_13 cap_14 cur_15 w21 H21 hr_16; clear H20
  have hr_16' : Rw 1 cur_15 cap_14 4 (cellsD (dgs A 4)) := by rw [dgs_succ, cellsD_append]; exact hr_16
  refine rp [.v] H21 kr fun gs22 w22 H22 => ?_
  show WPs _ _ _ _ [] _ _
  clear H21
  refine s_nil ?_
  show WP _ _ _ _ _ _
  refine g_keep [0, 1, 2, 3, 4, 7] fun ρ4 => ?_
  have HK5 := H22.keep
  clear H22
  refine rL [.v, .v, .v] HK5 kr fun gs23 w23 H23 => ?_
  clear HK5
  show WPL _ _ _ _ _ _
  refine g_next ?_
  refine g_seq kr ?_
  refine rS [.v, .v] H23 kr fun gs24 w24 H24 => ?_
  clear H23
  refine g_cond_t kr kr ?_
  refine g_skip kr ?_
  show WP _ _ _ _ _ _
  refine g_seq kr ?_
  refine g_block 1 kr ?_
  refine g_reg0 [0, 1, 2, 3, 4, 5, 6, 7, 8, 9, 10, 11, 12, 13, 14] kr ?_
  refine rp [.v, .v, .v, .v, .l 0, .v, .v, .v, .v, .e (v := .int .u64 (Int.fdiv ((A / 18446744073709551616 % 18446744073709551616 : Nat) : Int) (2 ^ 0))) (v' := .int .u64 (((A / 18446744073709551616 % 18446744073709551616) / 1 : Nat) : Int)) (int_eq (shrN (k := 0) (A / 18446744073709551616 % 18446744073709551616) 1 rfl)), .e (v := .int .u64 (Int.tmod (((A / 18446744073709551616 % 18446744073709551616) / 1 : Nat) : Int) 65536)) (v' := .int .u64 ((((A / 18446744073709551616 % 18446744073709551616) / 1) % 65536 : Nat) : Int)) (int_eq (remN ((A / 18446744073709551616 % 18446744073709551616) / 1) 65536)), .e (v := .int .i64 (IntKind.i64.wrap (((((A / 18446744073709551616 % 18446744073709551616) / 1) % 65536 : Nat) : Int)))) (v' := .int .i64 ((dg A 4 : Nat) : Int)) (int_eq (of_word1 A 4 rfl)), .nw (fun b => .slice (some ⟨b, 0, none⟩) 1 1) #[.int .i64 ((dg A 4 : Nat) : Int)] 3] H24 kr fun gs25 w25 H25 => ?_
  show WPs _ _ _ _ [13, 14] _ _
  clear H24
  refine s_append H25 (some 23) 60 3 1 8 (.tmp 10) (.tmp 22) 1 6 b_13 ((gs25 12).b) 4 1 cap_14 1 cur_15 #[.int .i64 ((dg A 4 : Nat) : Int)] 3 (0, 0) (cellsD (dgs A 4)) ([.int .i64 ((dg A 4 : Nat) : Int)]) (fun b_17 cur_19 => [((gs1 0).b, Obj.cells (Value.cells (uv A)) 24 (0, 0)), (b_17, Obj.cells cur_19 3 (0, 0)), ((gs5 12).b, Obj.cells #[.int .i64 ((dg A 0 : Nat) : Int)] 3 (0, 0)), ((gs10 12).b, Obj.cells #[.int .i64 ((dg A 1 : Nat) : Int)] 3 (0, 0)), ((gs15 12).b, Obj.cells #[.int .i64 ((dg A 2 : Nat) : Int)] 3 (0, 0)), ((gs20 12).b, Obj.cells #[.int .i64 ((dg A 3 : Nat) : Int)] 3 (0, 0)), ((gs25 12).b, Obj.cells #[.int .i64 ((dg A 4 : Nat) : Int)] 3 (0, 0))]) kr kr kr kr kr hr_16' kr kr (by rfl) (by rfl) (by intro u hu; simp at hu; first | exact hu.elim | (rcases hu with rfl | rfl | rfl | rfl <;> rfl) | (rcases hu with rfl | rfl <;> rfl) | (subst hu; rfl)) (by omega) (by unfold maxLen; omega) (fun _ _ => by kernel_rfl) ?_
  intro b_17 cap_18 cur_19 w26 H26 hr_20; clear H25
  have hr_20' : Rw 1 cur_19 cap_18 5 (cellsD (dgs A 5)) := by rw [dgs_succ, cellsD_append]; exact hr_20
  refine rp [.v] H26 kr fun gs27 w27 H27 => ?_
  show WPs _ _ _ _ [] _ _
  clear H26
  refine s_nil ?_
  show WP _ _ _ _ _ _
  refine g_keep [0, 1, 2, 3, 4, 7] fun ρ5 => ?_
  have HK6 := H27.keep
  clear H27
  refine rL [.v, .v, .v] HK6 kr fun gs28 w28 H28 => ?_
  clear HK6
  show WPL _ _ _ _ _ _
  refine g_next ?_
  refine g_seq kr ?_
  refine rS [.v, .v] H28 kr fun gs29 w29 H29 => ?_
  clear H28
  refine g_cond_t kr kr ?_
  refine g_skip kr ?_
  show WP _ _ _ _ _ _
  refine g_seq kr ?_
  refine g_block 1 kr ?_
  refine g_reg0 [0, 1, 2, 3, 4, 5, 6, 7, 8, 9, 10, 11, 12, 13, 14] kr ?_
  refine rp [.v, .v, .v, .v, .l 0, .v, .v, .v, .v, .e (v := .int .u64 (Int.fdiv ((A / 18446744073709551616 % 18446744073709551616 : Nat) : Int) (2 ^ 16))) (v' := .int .u64 (((A / 18446744073709551616 % 18446744073709551616) / 65536 : Nat) : Int)) (int_eq (shrN (k := 16) (A / 18446744073709551616 % 18446744073709551616) 65536 rfl)), .e (v := .int .u64 (Int.tmod (((A / 18446744073709551616 % 18446744073709551616) / 65536 : Nat) : Int) 65536)) (v' := .int .u64 ((((A / 18446744073709551616 % 18446744073709551616) / 65536) % 65536 : Nat) : Int)) (int_eq (remN ((A / 18446744073709551616 % 18446744073709551616) / 65536) 65536)), .e (v := .int .i64 (IntKind.i64.wrap (((((A / 18446744073709551616 % 18446744073709551616) / 65536) % 65536 : Nat) : Int)))) (v' := .int .i64 ((dg A 5 : Nat) : Int)) (int_eq (of_word1 A 5 rfl)), .nw (fun b => .slice (some ⟨b, 0, none⟩) 1 1) #[.int .i64 ((dg A 5 : Nat) : Int)] 3] H29 kr fun gs30 w30 H30 => ?_
  show WPs _ _ _ _ [13, 14] _ _
  clear H29
  refine s_append H30 (some 23) 60 3 1 8 (.tmp 10) (.tmp 22) 1 7 b_17 ((gs30 12).b) 5 1 cap_18 1 cur_19 #[.int .i64 ((dg A 5 : Nat) : Int)] 3 (0, 0) (cellsD (dgs A 5)) ([.int .i64 ((dg A 5 : Nat) : Int)]) (fun b_21 cur_23 => [((gs1 0).b, Obj.cells (Value.cells (uv A)) 24 (0, 0)), (b_21, Obj.cells cur_23 3 (0, 0)), ((gs5 12).b, Obj.cells #[.int .i64 ((dg A 0 : Nat) : Int)] 3 (0, 0)), ((gs10 12).b, Obj.cells #[.int .i64 ((dg A 1 : Nat) : Int)] 3 (0, 0)), ((gs15 12).b, Obj.cells #[.int .i64 ((dg A 2 : Nat) : Int)] 3 (0, 0)), ((gs20 12).b, Obj.cells #[.int .i64 ((dg A 3 : Nat) : Int)] 3 (0, 0)), ((gs25 12).b, Obj.cells #[.int .i64 ((dg A 4 : Nat) : Int)] 3 (0, 0)), ((gs30 12).b, Obj.cells #[.int .i64 ((dg A 5 : Nat) : Int)] 3 (0, 0))]) kr kr kr kr kr hr_20' kr kr (by rfl) (by rfl) (by intro u hu; simp at hu; first | exact hu.elim | (rcases hu with rfl | rfl | rfl | rfl <;> rfl) | (rcases hu with rfl | rfl <;> rfl) | (subst hu; rfl)) (by omega) (by unfold maxLen; omega) (fun _ _ => by kernel_rfl) ?_
  intro b_21 cap_22 cur_23 w31 H31 hr_24; clear H30
  have hr_24' : Rw 1 cur_23 cap_22 6 (cellsD (dgs A 6)) := by rw [dgs_succ, cellsD_append]; exact hr_24
  refine rp [.v] H31 kr fun gs32 w32 H32 => ?_
  show WPs _ _ _ _ [] _ _
  clear H31
  refine s_nil ?_
  show WP _ _ _ _ _ _
  refine g_keep [0, 1, 2, 3, 4, 7] fun ρ6 => ?_
  have HK7 := H32.keep
  clear H32
  refine rL [.v, .v, .v] HK7 kr fun gs33 w33 H33 => ?_
  clear HK7
  show WPL _ _ _ _ _ _
  refine g_next ?_
  refine g_seq kr ?_
  refine rS [.v, .v] H33 kr fun gs34 w34 H34 => ?_
  clear H33
  refine g_cond_t kr kr ?_
  refine g_skip kr ?_
  show WP _ _ _ _ _ _
  refine g_seq kr ?_
  refine g_block 1 kr ?_
  refine g_reg0 [0, 1, 2, 3, 4, 5, 6, 7, 8, 9, 10, 11, 12, 13, 14] kr ?_
  refine rp [.v, .v, .v, .v, .l 0, .v, .v, .v, .v, .e (v := .int .u64 (Int.fdiv ((A / 18446744073709551616 % 18446744073709551616 : Nat) : Int) (2 ^ 32))) (v' := .int .u64 (((A / 18446744073709551616 % 18446744073709551616) / 4294967296 : Nat) : Int)) (int_eq (shrN (k := 32) (A / 18446744073709551616 % 18446744073709551616) 4294967296 rfl)), .e (v := .int .u64 (Int.tmod (((A / 18446744073709551616 % 18446744073709551616) / 4294967296 : Nat) : Int) 65536)) (v' := .int .u64 ((((A / 18446744073709551616 % 18446744073709551616) / 4294967296) % 65536 : Nat) : Int)) (int_eq (remN ((A / 18446744073709551616 % 18446744073709551616) / 4294967296) 65536)), .e (v := .int .i64 (IntKind.i64.wrap (((((A / 18446744073709551616 % 18446744073709551616) / 4294967296) % 65536 : Nat) : Int)))) (v' := .int .i64 ((dg A 6 : Nat) : Int)) (int_eq (of_word1 A 6 rfl)), .nw (fun b => .slice (some ⟨b, 0, none⟩) 1 1) #[.int .i64 ((dg A 6 : Nat) : Int)] 3] H34 kr fun gs35 w35 H35 => ?_
  show WPs _ _ _ _ [13, 14] _ _
  clear H34
  refine s_append H35 (some 23) 60 3 1 8 (.tmp 10) (.tmp 22) 1 8 b_21 ((gs35 12).b) 6 1 cap_22 1 cur_23 #[.int .i64 ((dg A 6 : Nat) : Int)] 3 (0, 0) (cellsD (dgs A 6)) ([.int .i64 ((dg A 6 : Nat) : Int)]) (fun b_25 cur_27 => [((gs1 0).b, Obj.cells (Value.cells (uv A)) 24 (0, 0)), (b_25, Obj.cells cur_27 3 (0, 0)), ((gs5 12).b, Obj.cells #[.int .i64 ((dg A 0 : Nat) : Int)] 3 (0, 0)), ((gs10 12).b, Obj.cells #[.int .i64 ((dg A 1 : Nat) : Int)] 3 (0, 0)), ((gs15 12).b, Obj.cells #[.int .i64 ((dg A 2 : Nat) : Int)] 3 (0, 0)), ((gs20 12).b, Obj.cells #[.int .i64 ((dg A 3 : Nat) : Int)] 3 (0, 0)), ((gs25 12).b, Obj.cells #[.int .i64 ((dg A 4 : Nat) : Int)] 3 (0, 0)), ((gs30 12).b, Obj.cells #[.int .i64 ((dg A 5 : Nat) : Int)] 3 (0, 0)), ((gs35 12).b, Obj.cells #[.int .i64 ((dg A 6 : Nat) : Int)] 3 (0, 0))]) kr kr kr kr kr hr_24' kr kr (by rfl) (by rfl) (by intro u hu; simp at hu; first | exact hu.elim | (rcases hu with rfl | rfl | rfl | rfl <;> rfl) | (rcases hu with rfl | rfl <;> rfl) | (subst hu; rfl)) (by omega) (by unfold maxLen; omega) (fun _ _ => by kernel_rfl) ?_
  intro b_25 cap_26 cur_27 w36 H36 hr_28; clear H35
  have hr_28' : Rw 1 cur_27 cap_26 7 (cellsD (dgs A 7)) := by rw [dgs_succ, cellsD_append]; exact hr_28
  refine rp [.v] H36 kr fun gs37 w37 H37 => ?_
  show WPs _ _ _ _ [] _ _
  clear H36
  refine s_nil ?_
  show WP _ _ _ _ _ _
  refine g_keep [0, 1, 2, 3, 4, 7] fun ρ7 => ?_
  have HK8 := H37.keep
  clear H37
  refine rL [.v, .v, .v] HK8 kr fun gs38 w38 H38 => ?_
  clear HK8
  show WPL _ _ _ _ _ _
  refine g_next ?_
  refine g_seq kr ?_
  refine rS [.v, .v] H38 kr fun gs39 w39 H39 => ?_
  clear H38
  refine g_cond_t kr kr ?_
  refine g_skip kr ?_
  show WP _ _ _ _ _ _
  refine g_seq kr ?_
  refine g_block 1 kr ?_
  refine g_reg0 [0, 1, 2, 3, 4, 5, 6, 7, 8, 9, 10, 11, 12, 13, 14] kr ?_
  refine rp [.v, .v, .v, .v, .l 0, .v, .v, .v, .v, .e (v := .int .u64 (Int.fdiv ((A / 18446744073709551616 % 18446744073709551616 : Nat) : Int) (2 ^ 48))) (v' := .int .u64 (((A / 18446744073709551616 % 18446744073709551616) / 281474976710656 : Nat) : Int)) (int_eq (shrN (k := 48) (A / 18446744073709551616 % 18446744073709551616) 281474976710656 rfl)), .e (v := .int .u64 (Int.tmod (((A / 18446744073709551616 % 18446744073709551616) / 281474976710656 : Nat) : Int) 65536)) (v' := .int .u64 ((((A / 18446744073709551616 % 18446744073709551616) / 281474976710656) % 65536 : Nat) : Int)) (int_eq (remN ((A / 18446744073709551616 % 18446744073709551616) / 281474976710656) 65536)), .e (v := .int .i64 (IntKind.i64.wrap (((((A / 18446744073709551616 % 18446744073709551616) / 281474976710656) % 65536 : Nat) : Int)))) (v' := .int .i64 ((dg A 7 : Nat) : Int)) (int_eq (of_word1 A 7 rfl)), .nw (fun b => .slice (some ⟨b, 0, none⟩) 1 1) #[.int .i64 ((dg A 7 : Nat) : Int)] 3] H39 kr fun gs40 w40 H40 => ?_
  show WPs _ _ _ _ [13, 14] _ _
  clear H39
  refine s_append H40 (some 23) 60 3 1 8 (.tmp 10) (.tmp 22) 1 9 b_25 ((gs40 12).b) 7 1 cap_26 1 cur_27 #[.int .i64 ((dg A 7 : Nat) : Int)] 3 (0, 0) (cellsD (dgs A 7)) ([.int .i64 ((dg A 7 : Nat) : Int)]) (fun b_29 cur_31 => [((gs1 0).b, Obj.cells (Value.cells (uv A)) 24 (0, 0)), (b_29, Obj.cells cur_31 3 (0, 0)), ((gs5 12).b, Obj.cells #[.int .i64 ((dg A 0 : Nat) : Int)] 3 (0, 0)), ((gs10 12).b, Obj.cells #[.int .i64 ((dg A 1 : Nat) : Int)] 3 (0, 0)), ((gs15 12).b, Obj.cells #[.int .i64 ((dg A 2 : Nat) : Int)] 3 (0, 0)), ((gs20 12).b, Obj.cells #[.int .i64 ((dg A 3 : Nat) : Int)] 3 (0, 0)), ((gs25 12).b, Obj.cells #[.int .i64 ((dg A 4 : Nat) : Int)] 3 (0, 0)), ((gs30 12).b, Obj.cells #[.int .i64 ((dg A 5 : Nat) : Int)] 3 (0, 0)), ((gs35 12).b, Obj.cells #[.int .i64 ((dg A 6 : Nat) : Int)] 3 (0, 0)), ((gs40 12).b, Obj.cells #[.int .i64 ((dg A 7 : Nat) : Int)] 3 (0, 0))]) kr kr kr kr kr hr_28' kr kr (by rfl) (by rfl) (by intro u hu; simp at hu; first | exact hu.elim | (rcases hu with rfl | rfl | rfl | rfl <;> rfl) | (rcases hu with rfl | rfl <;> rfl) | (subst hu; rfl)) (by omega) (by unfold maxLen; omega) (fun _ _ => by kernel_rfl) ?_
  intro b_29 cap_30 cur_31 w41 H41 hr_32; clear H40
  have hr_32' : Rw 1 cur_31 cap_30 8 (cellsD (dgs A 8)) := by rw [dgs_succ, cellsD_append]; exact hr_32
  refine rp [.v] H41 kr fun gs42 w42 H42 => ?_
  show WPs _ _ _ _ [] _ _
  clear H41
  refine s_nil ?_
  show WP _ _ _ _ _ _
  refine g_keep [0, 1, 2, 3, 4, 7] fun ρ8 => ?_
  have HK9 := H42.keep
  clear H42
  refine rL [.v, .v, .v] HK9 kr fun gs43 w43 H43 => ?_
  clear HK9
  show WPL _ _ _ _ _ _
  refine g_next ?_
  refine g_seq kr ?_
  refine rS [.v, .v] H43 kr fun gs44 w44 H44 => ?_
  clear H43
  refine g_cond_t kr kr ?_
  refine g_skip kr ?_
  show WP _ _ _ _ _ _
  refine g_seq kr ?_
  refine g_block 1 kr ?_
  refine g_reg0 [0, 1, 2, 3, 4, 5, 6, 7, 8, 9, 10, 11, 12, 13, 14] kr ?_
  refine rp [.v, .v, .v, .v, .l 0, .v, .v, .v, .v, .e (v := .int .u64 (Int.fdiv ((A / 340282366920938463463374607431768211456 % 18446744073709551616 : Nat) : Int) (2 ^ 0))) (v' := .int .u64 (((A / 340282366920938463463374607431768211456 % 18446744073709551616) / 1 : Nat) : Int)) (int_eq (shrN (k := 0) (A / 340282366920938463463374607431768211456 % 18446744073709551616) 1 rfl)), .e (v := .int .u64 (Int.tmod (((A / 340282366920938463463374607431768211456 % 18446744073709551616) / 1 : Nat) : Int) 65536)) (v' := .int .u64 ((((A / 340282366920938463463374607431768211456 % 18446744073709551616) / 1) % 65536 : Nat) : Int)) (int_eq (remN ((A / 340282366920938463463374607431768211456 % 18446744073709551616) / 1) 65536)), .e (v := .int .i64 (IntKind.i64.wrap (((((A / 340282366920938463463374607431768211456 % 18446744073709551616) / 1) % 65536 : Nat) : Int)))) (v' := .int .i64 ((dg A 8 : Nat) : Int)) (int_eq (of_word2 A 8 rfl)), .nw (fun b => .slice (some ⟨b, 0, none⟩) 1 1) #[.int .i64 ((dg A 8 : Nat) : Int)] 3] H44 kr fun gs45 w45 H45 => ?_
  show WPs _ _ _ _ [13, 14] _ _
  clear H44
  refine s_append H45 (some 23) 60 3 1 8 (.tmp 10) (.tmp 22) 1 10 b_29 ((gs45 12).b) 8 1 cap_30 1 cur_31 #[.int .i64 ((dg A 8 : Nat) : Int)] 3 (0, 0) (cellsD (dgs A 8)) ([.int .i64 ((dg A 8 : Nat) : Int)]) (fun b_33 cur_35 => [((gs1 0).b, Obj.cells (Value.cells (uv A)) 24 (0, 0)), (b_33, Obj.cells cur_35 3 (0, 0)), ((gs5 12).b, Obj.cells #[.int .i64 ((dg A 0 : Nat) : Int)] 3 (0, 0)), ((gs10 12).b, Obj.cells #[.int .i64 ((dg A 1 : Nat) : Int)] 3 (0, 0)), ((gs15 12).b, Obj.cells #[.int .i64 ((dg A 2 : Nat) : Int)] 3 (0, 0)), ((gs20 12).b, Obj.cells #[.int .i64 ((dg A 3 : Nat) : Int)] 3 (0, 0)), ((gs25 12).b, Obj.cells #[.int .i64 ((dg A 4 : Nat) : Int)] 3 (0, 0)), ((gs30 12).b, Obj.cells #[.int .i64 ((dg A 5 : Nat) : Int)] 3 (0, 0)), ((gs35 12).b, Obj.cells #[.int .i64 ((dg A 6 : Nat) : Int)] 3 (0, 0)), ((gs40 12).b, Obj.cells #[.int .i64 ((dg A 7 : Nat) : Int)] 3 (0, 0)), ((gs45 12).b, Obj.cells #[.int .i64 ((dg A 8 : Nat) : Int)] 3 (0, 0))]) kr kr kr kr kr hr_32' kr kr (by rfl) (by rfl) (by intro u hu; simp at hu; first | exact hu.elim | (rcases hu with rfl | rfl | rfl | rfl <;> rfl) | (rcases hu with rfl | rfl <;> rfl) | (subst hu; rfl)) (by omega) (by unfold maxLen; omega) (fun _ _ => by kernel_rfl) ?_
  intro b_33 cap_34 cur_35 w46 H46 hr_36; clear H45
  have hr_36' : Rw 1 cur_35 cap_34 9 (cellsD (dgs A 9)) := by rw [dgs_succ, cellsD_append]; exact hr_36
  refine rp [.v] H46 kr fun gs47 w47 H47 => ?_
  show WPs _ _ _ _ [] _ _
  clear H46
  refine s_nil ?_
  show WP _ _ _ _ _ _
  refine g_keep [0, 1, 2, 3, 4, 7] fun ρ9 => ?_
  have HK10 := H47.keep
  clear H47
  refine rL [.v, .v, .v] HK10 kr fun gs48 w48 H48 => ?_
  clear HK10
  show WPL _ _ _ _ _ _
  refine g_next ?_
  refine g_seq kr ?_
  refine rS [.v, .v] H48 kr fun gs49 w49 H49 => ?_
  clear H48
  refine g_cond_t kr kr ?_
  refine g_skip kr ?_
  show WP _ _ _ _ _ _
  refine g_seq kr ?_
  refine g_block 1 kr ?_
  refine g_reg0 [0, 1, 2, 3, 4, 5, 6, 7, 8, 9, 10, 11, 12, 13, 14] kr ?_
  refine rp [.v, .v, .v, .v, .l 0, .v, .v, .v, .v, .e (v := .int .u64 (Int.fdiv ((A / 340282366920938463463374607431768211456 % 18446744073709551616 : Nat) : Int) (2 ^ 16))) (v' := .int .u64 (((A / 340282366920938463463374607431768211456 % 18446744073709551616) / 65536 : Nat) : Int)) (int_eq (shrN (k := 16) (A / 340282366920938463463374607431768211456 % 18446744073709551616) 65536 rfl)), .e (v := .int .u64 (Int.tmod (((A / 340282366920938463463374607431768211456 % 18446744073709551616) / 65536 : Nat) : Int) 65536)) (v' := .int .u64 ((((A / 340282366920938463463374607431768211456 % 18446744073709551616) / 65536) % 65536 : Nat) : Int)) (int_eq (remN ((A / 340282366920938463463374607431768211456 % 18446744073709551616) / 65536) 65536)), .e (v := .int .i64 (IntKind.i64.wrap (((((A / 340282366920938463463374607431768211456 % 18446744073709551616) / 65536) % 65536 : Nat) : Int)))) (v' := .int .i64 ((dg A 9 : Nat) : Int)) (int_eq (of_word2 A 9 rfl)), .nw (fun b => .slice (some ⟨b, 0, none⟩) 1 1) #[.int .i64 ((dg A 9 : Nat) : Int)] 3] H49 kr fun gs50 w50 H50 => ?_
  show WPs _ _ _ _ [13, 14] _ _
  clear H49
  refine s_append H50 (some 23) 60 3 1 8 (.tmp 10) (.tmp 22) 1 11 b_33 ((gs50 12).b) 9 1 cap_34 1 cur_35 #[.int .i64 ((dg A 9 : Nat) : Int)] 3 (0, 0) (cellsD (dgs A 9)) ([.int .i64 ((dg A 9 : Nat) : Int)]) (fun b_37 cur_39 => [((gs1 0).b, Obj.cells (Value.cells (uv A)) 24 (0, 0)), (b_37, Obj.cells cur_39 3 (0, 0)), ((gs5 12).b, Obj.cells #[.int .i64 ((dg A 0 : Nat) : Int)] 3 (0, 0)), ((gs10 12).b, Obj.cells #[.int .i64 ((dg A 1 : Nat) : Int)] 3 (0, 0)), ((gs15 12).b, Obj.cells #[.int .i64 ((dg A 2 : Nat) : Int)] 3 (0, 0)), ((gs20 12).b, Obj.cells #[.int .i64 ((dg A 3 : Nat) : Int)] 3 (0, 0)), ((gs25 12).b, Obj.cells #[.int .i64 ((dg A 4 : Nat) : Int)] 3 (0, 0)), ((gs30 12).b, Obj.cells #[.int .i64 ((dg A 5 : Nat) : Int)] 3 (0, 0)), ((gs35 12).b, Obj.cells #[.int .i64 ((dg A 6 : Nat) : Int)] 3 (0, 0)), ((gs40 12).b, Obj.cells #[.int .i64 ((dg A 7 : Nat) : Int)] 3 (0, 0)), ((gs45 12).b, Obj.cells #[.int .i64 ((dg A 8 : Nat) : Int)] 3 (0, 0)), ((gs50 12).b, Obj.cells #[.int .i64 ((dg A 9 : Nat) : Int)] 3 (0, 0))]) kr kr kr kr kr hr_36' kr kr (by rfl) (by rfl) (by intro u hu; simp at hu; first | exact hu.elim | (rcases hu with rfl | rfl | rfl | rfl <;> rfl) | (rcases hu with rfl | rfl <;> rfl) | (subst hu; rfl)) (by omega) (by unfold maxLen; omega) (fun _ _ => by kernel_rfl) ?_
  intro b_37 cap_38 cur_39 w51 H51 hr_40; clear H50
  have hr_40' : Rw 1 cur_39 cap_38 10 (cellsD (dgs A 10)) := by rw [dgs_succ, cellsD_append]; exact hr_40
  refine rp [.v] H51 kr fun gs52 w52 H52 => ?_
  show WPs _ _ _ _ [] _ _
  clear H51
  refine s_nil ?_
  show WP _ _ _ _ _ _
  refine g_keep [0, 1, 2, 3, 4, 7] fun ρ10 => ?_
  have HK11 := H52.keep
  clear H52
  refine rL [.v, .v, .v] HK11 kr fun gs53 w53 H53 => ?_
  clear HK11
  show WPL _ _ _ _ _ _
  refine g_next ?_
  refine g_seq kr ?_
  refine rS [.v, .v] H53 kr fun gs54 w54 H54 => ?_
  clear H53
  refine g_cond_t kr kr ?_
  refine g_skip kr ?_
  show WP _ _ _ _ _ _
  refine g_seq kr ?_
  refine g_block 1 kr ?_
  refine g_reg0 [0, 1, 2, 3, 4, 5, 6, 7, 8, 9, 10, 11, 12, 13, 14] kr ?_
  refine rp [.v, .v, .v, .v, .l 0, .v, .v, .v, .v, .e (v := .int .u64 (Int.fdiv ((A / 340282366920938463463374607431768211456 % 18446744073709551616 : Nat) : Int) (2 ^ 32))) (v' := .int .u64 (((A / 340282366920938463463374607431768211456 % 18446744073709551616) / 4294967296 : Nat) : Int)) (int_eq (shrN (k := 32) (A / 340282366920938463463374607431768211456 % 18446744073709551616) 4294967296 rfl)), .e (v := .int .u64 (Int.tmod (((A / 340282366920938463463374607431768211456 % 18446744073709551616) / 4294967296 : Nat) : Int) 65536)) (v' := .int .u64 ((((A / 340282366920938463463374607431768211456 % 18446744073709551616) / 4294967296) % 65536 : Nat) : Int)) (int_eq (remN ((A / 340282366920938463463374607431768211456 % 18446744073709551616) / 4294967296) 65536)), .e (v := .int .i64 (IntKind.i64.wrap (((((A / 340282366920938463463374607431768211456 % 18446744073709551616) / 4294967296) % 65536 : Nat) : Int)))) (v' := .int .i64 ((dg A 10 : Nat) : Int)) (int_eq (of_word2 A 10 rfl)), .nw (fun b => .slice (some ⟨b, 0, none⟩) 1 1) #[.int .i64 ((dg A 10 : Nat) : Int)] 3] H54 kr fun gs55 w55 H55 => ?_
  show WPs _ _ _ _ [13, 14] _ _
  clear H54
  refine s_append H55 (some 23) 60 3 1 8 (.tmp 10) (.tmp 22) 1 12 b_37 ((gs55 12).b) 10 1 cap_38 1 cur_39 #[.int .i64 ((dg A 10 : Nat) : Int)] 3 (0, 0) (cellsD (dgs A 10)) ([.int .i64 ((dg A 10 : Nat) : Int)]) (fun b_41 cur_43 => [((gs1 0).b, Obj.cells (Value.cells (uv A)) 24 (0, 0)), (b_41, Obj.cells cur_43 3 (0, 0)), ((gs5 12).b, Obj.cells #[.int .i64 ((dg A 0 : Nat) : Int)] 3 (0, 0)), ((gs10 12).b, Obj.cells #[.int .i64 ((dg A 1 : Nat) : Int)] 3 (0, 0)), ((gs15 12).b, Obj.cells #[.int .i64 ((dg A 2 : Nat) : Int)] 3 (0, 0)), ((gs20 12).b, Obj.cells #[.int .i64 ((dg A 3 : Nat) : Int)] 3 (0, 0)), ((gs25 12).b, Obj.cells #[.int .i64 ((dg A 4 : Nat) : Int)] 3 (0, 0)), ((gs30 12).b, Obj.cells #[.int .i64 ((dg A 5 : Nat) : Int)] 3 (0, 0)), ((gs35 12).b, Obj.cells #[.int .i64 ((dg A 6 : Nat) : Int)] 3 (0, 0)), ((gs40 12).b, Obj.cells #[.int .i64 ((dg A 7 : Nat) : Int)] 3 (0, 0)), ((gs45 12).b, Obj.cells #[.int .i64 ((dg A 8 : Nat) : Int)] 3 (0, 0)), ((gs50 12).b, Obj.cells #[.int .i64 ((dg A 9 : Nat) : Int)] 3 (0, 0)), ((gs55 12).b, Obj.cells #[.int .i64 ((dg A 10 : Nat) : Int)] 3 (0, 0))]) kr kr kr kr kr hr_40' kr kr (by rfl) (by rfl) (by intro u hu; simp at hu; first | exact hu.elim | (rcases hu with rfl | rfl | rfl | rfl <;> rfl) | (rcases hu with rfl | rfl <;> rfl) | (subst hu; rfl)) (by omega) (by unfold maxLen; omega) (fun _ _ => by kernel_rfl) ?_
  intro b_41 cap_42 cur_43 w56 H56 hr_44; clear H55
  have hr_44' : Rw 1 cur_43 cap_42 11 (cellsD (dgs A 11)) := by rw [dgs_succ, cellsD_append]; exact hr_44
  refine rp [.v] H56 kr fun gs57 w57 H57 => ?_
  show WPs _ _ _ _ [] _ _
  clear H56
  refine s_nil ?_
  show WP _ _ _ _ _ _
  refine g_keep [0, 1, 2, 3, 4, 7] fun ρ11 => ?_
  have HK12 := H57.keep
  clear H57
  refine rL [.v, .v, .v] HK12 kr fun gs58 w58 H58 => ?_
  clear HK12
  show WPL _ _ _ _ _ _
  refine g_next ?_
  refine g_seq kr ?_
  refine rS [.v, .v] H58 kr fun gs59 w59 H59 => ?_
  clear H58
  refine g_cond_t kr kr ?_
  refine g_skip kr ?_
  show WP _ _ _ _ _ _
  refine g_seq kr ?_
  refine g_block 1 kr ?_
  refine g_reg0 [0, 1, 2, 3, 4, 5, 6, 7, 8, 9, 10, 11, 12, 13, 14] kr ?_
  refine rp [.v, .v, .v, .v, .l 0, .v, .v, .v, .v, .e (v := .int .u64 (Int.fdiv ((A / 340282366920938463463374607431768211456 % 18446744073709551616 : Nat) : Int) (2 ^ 48))) (v' := .int .u64 (((A / 340282366920938463463374607431768211456 % 18446744073709551616) / 281474976710656 : Nat) : Int)) (int_eq (shrN (k := 48) (A / 340282366920938463463374607431768211456 % 18446744073709551616) 281474976710656 rfl)), .e (v := .int .u64 (Int.tmod (((A / 340282366920938463463374607431768211456 % 18446744073709551616) / 281474976710656 : Nat) : Int) 65536)) (v' := .int .u64 ((((A / 340282366920938463463374607431768211456 % 18446744073709551616) / 281474976710656) % 65536 : Nat) : Int)) (int_eq (remN ((A / 340282366920938463463374607431768211456 % 18446744073709551616) / 281474976710656) 65536)), .e (v := .int .i64 (IntKind.i64.wrap (((((A / 340282366920938463463374607431768211456 % 18446744073709551616) / 281474976710656) % 65536 : Nat) : Int)))) (v' := .int .i64 ((dg A 11 : Nat) : Int)) (int_eq (of_word2 A 11 rfl)), .nw (fun b => .slice (some ⟨b, 0, none⟩) 1 1) #[.int .i64 ((dg A 11 : Nat) : Int)] 3] H59 kr fun gs60 w60 H60 => ?_
  show WPs _ _ _ _ [13, 14] _ _
  clear H59
  refine s_append H60 (some 23) 60 3 1 8 (.tmp 10) (.tmp 22) 1 13 b_41 ((gs60 12).b) 11 1 cap_42 1 cur_43 #[.int .i64 ((dg A 11 : Nat) : Int)] 3 (0, 0) (cellsD (dgs A 11)) ([.int .i64 ((dg A 11 : Nat) : Int)]) (fun b_45 cur_47 => [((gs1 0).b, Obj.cells (Value.cells (uv A)) 24 (0, 0)), (b_45, Obj.cells cur_47 3 (0, 0)), ((gs5 12).b, Obj.cells #[.int .i64 ((dg A 0 : Nat) : Int)] 3 (0, 0)), ((gs10 12).b, Obj.cells #[.int .i64 ((dg A 1 : Nat) : Int)] 3 (0, 0)), ((gs15 12).b, Obj.cells #[.int .i64 ((dg A 2 : Nat) : Int)] 3 (0, 0)), ((gs20 12).b, Obj.cells #[.int .i64 ((dg A 3 : Nat) : Int)] 3 (0, 0)), ((gs25 12).b, Obj.cells #[.int .i64 ((dg A 4 : Nat) : Int)] 3 (0, 0)), ((gs30 12).b, Obj.cells #[.int .i64 ((dg A 5 : Nat) : Int)] 3 (0, 0)), ((gs35 12).b, Obj.cells #[.int .i64 ((dg A 6 : Nat) : Int)] 3 (0, 0)), ((gs40 12).b, Obj.cells #[.int .i64 ((dg A 7 : Nat) : Int)] 3 (0, 0)), ((gs45 12).b, Obj.cells #[.int .i64 ((dg A 8 : Nat) : Int)] 3 (0, 0)), ((gs50 12).b, Obj.cells #[.int .i64 ((dg A 9 : Nat) : Int)] 3 (0, 0)), ((gs55 12).b, Obj.cells #[.int .i64 ((dg A 10 : Nat) : Int)] 3 (0, 0)), ((gs60 12).b, Obj.cells #[.int .i64 ((dg A 11 : Nat) : Int)] 3 (0, 0))]) kr kr kr kr kr hr_44' kr kr (by rfl) (by rfl) (by intro u hu; simp at hu; first | exact hu.elim | (rcases hu with rfl | rfl | rfl | rfl <;> rfl) | (rcases hu with rfl | rfl <;> rfl) | (subst hu; rfl)) (by omega) (by unfold maxLen; omega) (fun _ _ => by kernel_rfl) ?_
  intro b_45 cap_46 cur_47 w61 H61 hr_48; clear H60
  have hr_48' : Rw 1 cur_47 cap_46 12 (cellsD (dgs A 12)) := by rw [dgs_succ, cellsD_append]; exact hr_48
  refine rp [.v] H61 kr fun gs62 w62 H62 => ?_
  show WPs _ _ _ _ [] _ _
  clear H61
  refine s_nil ?_
  show WP _ _ _ _ _ _
  refine g_keep [0, 1, 2, 3, 4, 7] fun ρ12 => ?_
  have HK13 := H62.keep
  clear H62
  refine rL [.v, .v, .v] HK13 kr fun gs63 w63 H63 => ?_
  clear HK13
  show WPL _ _ _ _ _ _
  refine g_next ?_
  refine g_seq kr ?_
  refine rS [.v, .v] H63 kr fun gs64 w64 H64 => ?_
  clear H63
  refine g_cond_t kr kr ?_
  refine g_skip kr ?_
  show WP _ _ _ _ _ _
  refine g_seq kr ?_
  refine g_block 1 kr ?_
  refine g_reg0 [0, 1, 2, 3, 4, 5, 6, 7, 8, 9, 10, 11, 12, 13, 14] kr ?_
  refine rp [.v, .v, .v, .v, .l 0, .v, .v, .v, .v, .e (v := .int .u64 (Int.fdiv ((A / 6277101735386680763835789423207666416102355444464034512896 % 18446744073709551616 : Nat) : Int) (2 ^ 0))) (v' := .int .u64 (((A / 6277101735386680763835789423207666416102355444464034512896 % 18446744073709551616) / 1 : Nat) : Int)) (int_eq (shrN (k := 0) (A / 6277101735386680763835789423207666416102355444464034512896 % 18446744073709551616) 1 rfl)), .e (v := .int .u64 (Int.tmod (((A / 6277101735386680763835789423207666416102355444464034512896 % 18446744073709551616) / 1 : Nat) : Int) 65536)) (v' := .int .u64 ((((A / 6277101735386680763835789423207666416102355444464034512896 % 18446744073709551616) / 1) % 65536 : Nat) : Int)) (int_eq (remN ((A / 6277101735386680763835789423207666416102355444464034512896 % 18446744073709551616) / 1) 65536)), .e (v := .int .i64 (IntKind.i64.wrap (((((A / 6277101735386680763835789423207666416102355444464034512896 % 18446744073709551616) / 1) % 65536 : Nat) : Int)))) (v' := .int .i64 ((dg A 12 : Nat) : Int)) (int_eq (of_word3 A 12 rfl)), .nw (fun b => .slice (some ⟨b, 0, none⟩) 1 1) #[.int .i64 ((dg A 12 : Nat) : Int)] 3] H64 kr fun gs65 w65 H65 => ?_
  show WPs _ _ _ _ [13, 14] _ _
  clear H64
  refine s_append H65 (some 23) 60 3 1 8 (.tmp 10) (.tmp 22) 1 14 b_45 ((gs65 12).b) 12 1 cap_46 1 cur_47 #[.int .i64 ((dg A 12 : Nat) : Int)] 3 (0, 0) (cellsD (dgs A 12)) ([.int .i64 ((dg A 12 : Nat) : Int)]) (fun b_49 cur_51 => [((gs1 0).b, Obj.cells (Value.cells (uv A)) 24 (0, 0)), (b_49, Obj.cells cur_51 3 (0, 0)), ((gs5 12).b, Obj.cells #[.int .i64 ((dg A 0 : Nat) : Int)] 3 (0, 0)), ((gs10 12).b, Obj.cells #[.int .i64 ((dg A 1 : Nat) : Int)] 3 (0, 0)), ((gs15 12).b, Obj.cells #[.int .i64 ((dg A 2 : Nat) : Int)] 3 (0, 0)), ((gs20 12).b, Obj.cells #[.int .i64 ((dg A 3 : Nat) : Int)] 3 (0, 0)), ((gs25 12).b, Obj.cells #[.int .i64 ((dg A 4 : Nat) : Int)] 3 (0, 0)), ((gs30 12).b, Obj.cells #[.int .i64 ((dg A 5 : Nat) : Int)] 3 (0, 0)), ((gs35 12).b, Obj.cells #[.int .i64 ((dg A 6 : Nat) : Int)] 3 (0, 0)), ((gs40 12).b, Obj.cells #[.int .i64 ((dg A 7 : Nat) : Int)] 3 (0, 0)), ((gs45 12).b, Obj.cells #[.int .i64 ((dg A 8 : Nat) : Int)] 3 (0, 0)), ((gs50 12).b, Obj.cells #[.int .i64 ((dg A 9 : Nat) : Int)] 3 (0, 0)), ((gs55 12).b, Obj.cells #[.int .i64 ((dg A 10 : Nat) : Int)] 3 (0, 0)), ((gs60 12).b, Obj.cells #[.int .i64 ((dg A 11 : Nat) : Int)] 3 (0, 0)), ((gs65 12).b, Obj.cells #[.int .i64 ((dg A 12 : Nat) : Int)] 3 (0, 0))]) kr kr kr kr kr hr_48' kr kr (by rfl) (by rfl) (by intro u hu; simp at hu; first | exact hu.elim | (rcases hu with rfl | rfl | rfl | rfl <;> rfl) | (rcases hu with rfl | rfl <;> rfl) | (subst hu; rfl)) (by omega) (by unfold maxLen; omega) (fun _ _ => by kernel_rfl) ?_
  intro b_49 cap_50 cur_51 w66 H66 hr_52; clear H65
  have hr_52' : Rw 1 cur_51 cap_50 13 (cellsD (dgs A 13)) := by rw [dgs_succ, cellsD_append]; exact hr_52
  refine rp [.v] H66 kr fun gs67 w67 H67 => ?_
  show WPs _ _ _ _ [] _ _
  clear H66
  refine s_nil ?_
  show WP _ _ _ _ _ _
  refine g_keep [0, 1, 2, 3, 4, 7] fun ρ13 => ?_
  have HK14 := H67.keep
  clear H67
  refine rL [.v, .v, .v] HK14 kr fun gs68 w68 H68 => ?_
  clear HK14
  show WPL _ _ _ _ _ _
  refine g_next ?_
  refine g_seq kr ?_
  refine rS [.v, .v] H68 kr fun gs69 w69 H69 => ?_
  clear H68
  refine g_cond_t kr kr ?_
  refine g_skip kr ?_
  show WP _ _ _ _ _ _
  refine g_seq kr ?_
  refine g_block 1 kr ?_
  refine g_reg0 [0, 1, 2, 3, 4, 5, 6, 7, 8, 9, 10, 11, 12, 13, 14] kr ?_
  refine rp [.v, .v, .v, .v, .l 0, .v, .v, .v, .v, .e (v := .int .u64 (Int.fdiv ((A / 6277101735386680763835789423207666416102355444464034512896 % 18446744073709551616 : Nat) : Int) (2 ^ 16))) (v' := .int .u64 (((A / 6277101735386680763835789423207666416102355444464034512896 % 18446744073709551616) / 65536 : Nat) : Int)) (int_eq (shrN (k := 16) (A / 6277101735386680763835789423207666416102355444464034512896 % 18446744073709551616) 65536 rfl)), .e (v := .int .u64 (Int.tmod (((A / 6277101735386680763835789423207666416102355444464034512896 % 18446744073709551616) / 65536 : Nat) : Int) 65536)) (v' := .int .u64 ((((A / 6277101735386680763835789423207666416102355444464034512896 % 18446744073709551616) / 65536) % 65536 : Nat) : Int)) (int_eq (remN ((A / 6277101735386680763835789423207666416102355444464034512896 % 18446744073709551616) / 65536) 65536)), .e (v := .int .i64 (IntKind.i64.wrap (((((A / 6277101735386680763835789423207666416102355444464034512896 % 18446744073709551616) / 65536) % 65536 : Nat) : Int)))) (v' := .int .i64 ((dg A 13 : Nat) : Int)) (int_eq (of_word3 A 13 rfl)), .nw (fun b => .slice (some ⟨b, 0, none⟩) 1 1) #[.int .i64 ((dg A 13 : Nat) : Int)] 3] H69 kr fun gs70 w70 H70 => ?_
  show WPs _ _ _ _ [13, 14] _ _
  clear H69
  refine s_append H70 (some 23) 60 3 1 8 (.tmp 10) (.tmp 22) 1 15 b_49 ((gs70 12).b) 13 1 cap_50 1 cur_51 #[.int .i64 ((dg A 13 : Nat) : Int)] 3 (0, 0) (cellsD (dgs A 13)) ([.int .i64 ((dg A 13 : Nat) : Int)]) (fun b_53 cur_55 => [((gs1 0).b, Obj.cells (Value.cells (uv A)) 24 (0, 0)), (b_53, Obj.cells cur_55 3 (0, 0)), ((gs5 12).b, Obj.cells #[.int .i64 ((dg A 0 : Nat) : Int)] 3 (0, 0)), ((gs10 12).b, Obj.cells #[.int .i64 ((dg A 1 : Nat) : Int)] 3 (0, 0)), ((gs15 12).b, Obj.cells #[.int .i64 ((dg A 2 : Nat) : Int)] 3 (0, 0)), ((gs20 12).b, Obj.cells #[.int .i64 ((dg A 3 : Nat) : Int)] 3 (0, 0)), ((gs25 12).b, Obj.cells #[.int .i64 ((dg A 4 : Nat) : Int)] 3 (0, 0)), ((gs30 12).b, Obj.cells #[.int .i64 ((dg A 5 : Nat) : Int)] 3 (0, 0)), ((gs35 12).b, Obj.cells #[.int .i64 ((dg A 6 : Nat) : Int)] 3 (0, 0)), ((gs40 12).b, Obj.cells #[.int .i64 ((dg A 7 : Nat) : Int)] 3 (0, 0)), ((gs45 12).b, Obj.cells #[.int .i64 ((dg A 8 : Nat) : Int)] 3 (0, 0)), ((gs50 12).b, Obj.cells #[.int .i64 ((dg A 9 : Nat) : Int)] 3 (0, 0)), ((gs55 12).b, Obj.cells #[.int .i64 ((dg A 10 : Nat) : Int)] 3 (0, 0)), ((gs60 12).b, Obj.cells #[.int .i64 ((dg A 11 : Nat) : Int)] 3 (0, 0)), ((gs65 12).b, Obj.cells #[.int .i64 ((dg A 12 : Nat) : Int)] 3 (0, 0)), ((gs70 12).b, Obj.cells #[.int .i64 ((dg A 13 : Nat) : Int)] 3 (0, 0))]) kr kr kr kr kr hr_52' kr kr (by rfl) (by rfl) (by intro u hu; simp at hu; first | exact hu.elim | (rcases hu with rfl | rfl | rfl | rfl <;> rfl) | (rcases hu with rfl | rfl <;> rfl) | (subst hu; rfl)) (by omega) (by unfold maxLen; omega) (fun _ _ => by kernel_rfl) ?_
  intro b_53 cap_54 cur_55 w71 H71 hr_56; clear H70
  have hr_56' : Rw 1 cur_55 cap_54 14 (cellsD (dgs A 14)) := by rw [dgs_succ, cellsD_append]; exact hr_56
  refine rp [.v] H71 kr fun gs72 w72 H72 => ?_
  show WPs _ _ _ _ [] _ _
  clear H71
  refine s_nil ?_
  show WP _ _ _ _ _ _
  refine g_keep [0, 1, 2, 3, 4, 7] fun ρ14 => ?_
  have HK15 := H72.keep
  clear H72
  refine rL [.v, .v, .v] HK15 kr fun gs73 w73 H73 => ?_
  clear HK15
  show WPL _ _ _ _ _ _
  refine g_next ?_
  refine g_seq kr ?_
  refine rS [.v, .v] H73 kr fun gs74 w74 H74 => ?_
  clear H73
  refine g_cond_t kr kr ?_
  refine g_skip kr ?_
  show WP _ _ _ _ _ _
  refine g_seq kr ?_
  refine g_block 1 kr ?_
  refine g_reg0 [0, 1, 2, 3, 4, 5, 6, 7, 8, 9, 10, 11, 12, 13, 14] kr ?_
  refine rp [.v, .v, .v, .v, .l 0, .v, .v, .v, .v, .e (v := .int .u64 (Int.fdiv ((A / 6277101735386680763835789423207666416102355444464034512896 % 18446744073709551616 : Nat) : Int) (2 ^ 32))) (v' := .int .u64 (((A / 6277101735386680763835789423207666416102355444464034512896 % 18446744073709551616) / 4294967296 : Nat) : Int)) (int_eq (shrN (k := 32) (A / 6277101735386680763835789423207666416102355444464034512896 % 18446744073709551616) 4294967296 rfl)), .e (v := .int .u64 (Int.tmod (((A / 6277101735386680763835789423207666416102355444464034512896 % 18446744073709551616) / 4294967296 : Nat) : Int) 65536)) (v' := .int .u64 ((((A / 6277101735386680763835789423207666416102355444464034512896 % 18446744073709551616) / 4294967296) % 65536 : Nat) : Int)) (int_eq (remN ((A / 6277101735386680763835789423207666416102355444464034512896 % 18446744073709551616) / 4294967296) 65536)), .e (v := .int .i64 (IntKind.i64.wrap (((((A / 6277101735386680763835789423207666416102355444464034512896 % 18446744073709551616) / 4294967296) % 65536 : Nat) : Int)))) (v' := .int .i64 ((dg A 14 : Nat) : Int)) (int_eq (of_word3 A 14 rfl)), .nw (fun b => .slice (some ⟨b, 0, none⟩) 1 1) #[.int .i64 ((dg A 14 : Nat) : Int)] 3] H74 kr fun gs75 w75 H75 => ?_
  show WPs _ _ _ _ [13, 14] _ _
  clear H74
  refine s_append H75 (some 23) 60 3 1 8 (.tmp 10) (.tmp 22) 1 16 b_53 ((gs75 12).b) 14 1 cap_54 1 cur_55 #[.int .i64 ((dg A 14 : Nat) : Int)] 3 (0, 0) (cellsD (dgs A 14)) ([.int .i64 ((dg A 14 : Nat) : Int)]) (fun b_57 cur_59 => [((gs1 0).b, Obj.cells (Value.cells (uv A)) 24 (0, 0)), (b_57, Obj.cells cur_59 3 (0, 0)), ((gs5 12).b, Obj.cells #[.int .i64 ((dg A 0 : Nat) : Int)] 3 (0, 0)), ((gs10 12).b, Obj.cells #[.int .i64 ((dg A 1 : Nat) : Int)] 3 (0, 0)), ((gs15 12).b, Obj.cells #[.int .i64 ((dg A 2 : Nat) : Int)] 3 (0, 0)), ((gs20 12).b, Obj.cells #[.int .i64 ((dg A 3 : Nat) : Int)] 3 (0, 0)), ((gs25 12).b, Obj.cells #[.int .i64 ((dg A 4 : Nat) : Int)] 3 (0, 0)), ((gs30 12).b, Obj.cells #[.int .i64 ((dg A 5 : Nat) : Int)] 3 (0, 0)), ((gs35 12).b, Obj.cells #[.int .i64 ((dg A 6 : Nat) : Int)] 3 (0, 0)), ((gs40 12).b, Obj.cells #[.int .i64 ((dg A 7 : Nat) : Int)] 3 (0, 0)), ((gs45 12).b, Obj.cells #[.int .i64 ((dg A 8 : Nat) : Int)] 3 (0, 0)), ((gs50 12).b, Obj.cells #[.int .i64 ((dg A 9 : Nat) : Int)] 3 (0, 0)), ((gs55 12).b, Obj.cells #[.int .i64 ((dg A 10 : Nat) : Int)] 3 (0, 0)), ((gs60 12).b, Obj.cells #[.int .i64 ((dg A 11 : Nat) : Int)] 3 (0, 0)), ((gs65 12).b, Obj.cells #[.int .i64 ((dg A 12 : Nat) : Int)] 3 (0, 0)), ((gs70 12).b, Obj.cells #[.int .i64 ((dg A 13 : Nat) : Int)] 3 (0, 0)), ((gs75 12).b, Obj.cells #[.int .i64 ((dg A 14 : Nat) : Int)] 3 (0, 0))]) kr kr kr kr kr hr_56' kr kr (by rfl) (by rfl) (by intro u hu; simp at hu; first | exact hu.elim | (rcases hu with rfl | rfl | rfl | rfl <;> rfl) | (rcases hu with rfl | rfl <;> rfl) | (subst hu; rfl)) (by omega) (by unfold maxLen; omega) (fun _ _ => by kernel_rfl) ?_
  intro b_57 cap_58 cur_59 w76 H76 hr_60; clear H75
  have hr_60' : Rw 1 cur_59 cap_58 15 (cellsD (dgs A 15)) := by rw [dgs_succ, cellsD_append]; exact hr_60
  refine rp [.v] H76 kr fun gs77 w77 H77 => ?_
  show WPs _ _ _ _ [] _ _
  clear H76
  refine s_nil ?_
  show WP _ _ _ _ _ _
  refine g_keep [0, 1, 2, 3, 4, 7] fun ρ15 => ?_
  have HK16 := H77.keep
  clear H77
  refine rL [.v, .v, .v] HK16 kr fun gs78 w78 H78 => ?_
  clear HK16
  show WPL _ _ _ _ _ _
  refine g_next ?_
  refine g_seq kr ?_
  refine rS [.v, .v] H78 kr fun gs79 w79 H79 => ?_
  clear H78
  refine g_cond_t kr kr ?_
  refine g_skip kr ?_
  show WP _ _ _ _ _ _
  refine g_seq kr ?_
  refine g_block 1 kr ?_
  refine g_reg0 [0, 1, 2, 3, 4, 5, 6, 7, 8, 9, 10, 11, 12, 13, 14] kr ?_
  refine rp [.v, .v, .v, .v, .l 0, .v, .v, .v, .v, .e (v := .int .u64 (Int.fdiv ((A / 6277101735386680763835789423207666416102355444464034512896 % 18446744073709551616 : Nat) : Int) (2 ^ 48))) (v' := .int .u64 (((A / 6277101735386680763835789423207666416102355444464034512896 % 18446744073709551616) / 281474976710656 : Nat) : Int)) (int_eq (shrN (k := 48) (A / 6277101735386680763835789423207666416102355444464034512896 % 18446744073709551616) 281474976710656 rfl)), .e (v := .int .u64 (Int.tmod (((A / 6277101735386680763835789423207666416102355444464034512896 % 18446744073709551616) / 281474976710656 : Nat) : Int) 65536)) (v' := .int .u64 ((((A / 6277101735386680763835789423207666416102355444464034512896 % 18446744073709551616) / 281474976710656) % 65536 : Nat) : Int)) (int_eq (remN ((A / 6277101735386680763835789423207666416102355444464034512896 % 18446744073709551616) / 281474976710656) 65536)), .e (v := .int .i64 (IntKind.i64.wrap (((((A / 6277101735386680763835789423207666416102355444464034512896 % 18446744073709551616) / 281474976710656) % 65536 : Nat) : Int)))) (v' := .int .i64 ((dg A 15 : Nat) : Int)) (int_eq (of_word3 A 15 rfl)), .nw (fun b => .slice (some ⟨b, 0, none⟩) 1 1) #[.int .i64 ((dg A 15 : Nat) : Int)] 3] H79 kr fun gs80 w80 H80 => ?_
  show WPs _ _ _ _ [13, 14] _ _
  clear H79
  refine s_append H80 (some 23) 60 3 1 8 (.tmp 10) (.tmp 22) 1 17 b_57 ((gs80 12).b) 15 1 cap_58 1 cur_59 #[.int .i64 ((dg A 15 : Nat) : Int)] 3 (0, 0) (cellsD (dgs A 15)) ([.int .i64 ((dg A 15 : Nat) : Int)]) (fun b_61 cur_63 => [((gs1 0).b, Obj.cells (Value.cells (uv A)) 24 (0, 0)), (b_61, Obj.cells cur_63 3 (0, 0)), ((gs5 12).b, Obj.cells #[.int .i64 ((dg A 0 : Nat) : Int)] 3 (0, 0)), ((gs10 12).b, Obj.cells #[.int .i64 ((dg A 1 : Nat) : Int)] 3 (0, 0)), ((gs15 12).b, Obj.cells #[.int .i64 ((dg A 2 : Nat) : Int)] 3 (0, 0)), ((gs20 12).b, Obj.cells #[.int .i64 ((dg A 3 : Nat) : Int)] 3 (0, 0)), ((gs25 12).b, Obj.cells #[.int .i64 ((dg A 4 : Nat) : Int)] 3 (0, 0)), ((gs30 12).b, Obj.cells #[.int .i64 ((dg A 5 : Nat) : Int)] 3 (0, 0)), ((gs35 12).b, Obj.cells #[.int .i64 ((dg A 6 : Nat) : Int)] 3 (0, 0)), ((gs40 12).b, Obj.cells #[.int .i64 ((dg A 7 : Nat) : Int)] 3 (0, 0)), ((gs45 12).b, Obj.cells #[.int .i64 ((dg A 8 : Nat) : Int)] 3 (0, 0)), ((gs50 12).b, Obj.cells #[.int .i64 ((dg A 9 : Nat) : Int)] 3 (0, 0)), ((gs55 12).b, Obj.cells #[.int .i64 ((dg A 10 : Nat) : Int)] 3 (0, 0)), ((gs60 12).b, Obj.cells #[.int .i64 ((dg A 11 : Nat) : Int)] 3 (0, 0)), ((gs65 12).b, Obj.cells #[.int .i64 ((dg A 12 : Nat) : Int)] 3 (0, 0)), ((gs70 12).b, Obj.cells #[.int .i64 ((dg A 13 : Nat) : Int)] 3 (0, 0)), ((gs75 12).b, Obj.cells #[.int .i64 ((dg A 14 : Nat) : Int)] 3 (0, 0)), ((gs80 12).b, Obj.cells #[.int .i64 ((dg A 15 : Nat) : Int)] 3 (0, 0))]) kr kr kr kr kr hr_60' kr kr (by rfl) (by rfl) (by intro u hu; simp at hu; first | exact hu.elim | (rcases hu with rfl | rfl | rfl | rfl <;> rfl) | (rcases hu with rfl | rfl <;> rfl) | (subst hu; rfl)) (by omega) (by unfold maxLen; omega) (fun _ _ => by kernel_rfl) ?_
  intro b_61 cap_62 cur_63 w81 H81 hr_64; clear H80
  have hr_64' : Rw 1 cur_63 cap_62 16 (cellsD (dgs A 16)) := by rw [dgs_succ, cellsD_append]; exact hr_64
  refine rp [.v] H81 kr fun gs82 w82 H82 => ?_
  show WPs _ _ _ _ [] _ _
  clear H81
  refine s_nil ?_
  show WP _ _ _ _ _ _
  refine g_keep [0, 1, 2, 3, 4, 7] fun ρ16 => ?_
  have HK17 := H82.keep
  clear H82
  refine rL [.v, .v, .v] HK17 kr fun gs83 w83 H83 => ?_
  clear HK17
  show WPL _ _ _ _ _ _
  refine g_next ?_
  refine g_seq kr ?_
  refine rS [.v, .v] H83 kr fun gs84 w84 H84 => ?_
  clear H83
  refine g_cond_f kr kr ?_
  refine g_exit 0 kr ?_
  show WP _ _ _ _ _ _
  refine rS [.v, .v] H84 kr fun gs85 w85 H85 => ?_
  clear H84
  refine g_ret kr ?_
  show ∃ vs, Res _ _ _ _ vs ∧ _
  refine ⟨[.slice (some ⟨b_61, 0, none⟩) 16 cap_62], (.tmp (.slice (some ⟨b_61, 0, none⟩) 16 cap_62) kr .nil), H85.below, ?_⟩
  exact ⟨b_61, cap_62, _, _, dgs A 16, rfl, H85.ge 1 (o := .cells cur_63 3 (0, 0)) kr, H85.get 1 kr, by rw [dgs_length], hr_64', dgs_ok A 16, rfl, vl_dgs16 hA, dgs_length A 16⟩
end Go.Proofs.YtmmloghbnpfedaaDoor

namespace Go.Proofs.YtmmloghbnpfedaaDoor
open Go Go.RowKit
set_option linter.unusedVariables false
set_option maxRecDepth 100000 in
set_option maxHeartbeats 2000000 in
theorem sum_fn (x y : List Nat) (ba nx ca bb ny cb : Nat) (curA curB : Array Value) (hnx : nx = List.length x) (hny : ny = List.length y) (hA : Rw 1 curA ca nx (cellsD x)) (hB : Rw 1 curB cb ny (cellsD y)) (hx : Ok x) (hy : Ok y) (lx : List.length x ≤ 5000) (ly : List.length y ≤ 5000) : FnR Tryd.prog 59 #[.slice (some ⟨ba, 0, none⟩) nx ca, .slice (some ⟨bb, 0, none⟩) ny cb] (fun w => w.heap[ba]? = some (.cells curA 3 (0, 0)) ∧ w.heap[bb]? = some (.cells curB 3 (0, 0))) (RetS 3 1 (fun cur cap n l => (n = List.length l ∧ Rw 1 cur cap n (cellsD l) ∧ Ok l ∧ (vl l = vl x + vl y ∧ List.length l ≤ max (List.length x) (List.length y) + 1 ∧ max (List.length x) (List.length y) ≤ List.length l)))) := by
  subst hnx hny
  refine FnR.intro (c := codeOf Tryd.f59) [.tmp 4] 43 Tryd.func59 kr kr kr fun w hpre => ?_
  have H0 := St.start w
  refine rS [.v] H0 kr fun gs1 w1 H1 => ?_
  clear H0
  refine rS [.nw (fun b => .slice (some ⟨b, 0, none⟩) 0 0) #[] 3, .v] H1 kr fun gs2 w2 H2 => ?_
  clear H1
  refine rS [.v] H2 kr fun gs3 w3 H3 => ?_
  clear H2
  refine g_seq kr ?_
  refine rS [.v] H3 kr fun gs4 w4 H4 => ?_
  clear H3
  refine g_block 0 kr ?_
  have HL1 : St w.heap.size w w4 [((gs2 0).b, Obj.cells #[] 3 (0, 0))] := H4.as kr
  clear H4
  refine g_loop kr (fun mz ρ ww => ∃ (b : Nat) (cap : Nat) (n : Nat) (cur : Array Value) (l : List Nat) (k : Nat) (c : Nat), max (List.length x) (List.length y) + 2 - k = mz ∧ (n = List.length l) ∧ (Rw 1 cur cap n (cellsD l)) ∧ (SumI x y l k (c : Int)) ∧ St w.heap.size w ww [(b, Obj.cells cur 3 (0, 0))] ∧ Is [(0, .slice (some ⟨ba, 0, none⟩) (List.length x) ca), (1, .slice (some ⟨bb, 0, none⟩) (List.length y) cb), (4, .slice none 0 0), (5, .slice (some ⟨b, 0, none⟩) n cap), (6, .int .i64 ((c : Nat) : Int)), (7, .int .i64 ((k : Nat) : Int))] ρ) (max (List.length x) (List.length y) + 2 - 0) ⟨(gs2 0).b, 0, 0, #[], [], 0, 0, rfl, rfl, (Rw.lit #[] 0 rfl (by unfold maxLen; omega)), (SumI.start x y), HL1, (Is.of ⟨kr, kr, kr, kr, kr, kr, trivial⟩)⟩ ?_
  clear HL1
  rintro _ _ w5 ⟨b, cap, n, cur, l, k, c, rfl, hn, hr, hS, H5, _, rfl⟩
  have hc1 := hS.c1; have htop := hS.top; have hxk := ok_getD hx k; have hyk := ok_getD hy k; have hlen := hS.len; have hok := hS.ok
  refine g_seq kr ?_
  refine g_sreg [0, 1, 2, 3, 4, 5, 6, 7, 8, 9, 10, 11, 12, 13] kr kr ?_
  refine rp [.v, .v, .v] H5 kr fun gs6 w6 H6 => ?_
  show WPs _ _ _ _ [3, 4, 5, 6, 7, 8, 9, 10, 11, 12, 13] _ _
  clear H5
  by_cases hc2 : (k : Nat) < List.length x
  · skip
    refine rp [.e (v := .bool (decide (((k : Nat) : Int) < ((List.length x : Nat) : Int)))) (v' := .bool true) (bool_eq (decide_eq_true (by omega))), .v, .n, .n, .n, .n, .v, .v, .n, .n, .v] H6 kr fun gs7 w7 H7 => ?_
    show WPs _ _ _ _ [] _ _
    clear H6
    refine s_nil ?_
    refine g_keep [0, 1, 4, 5, 6, 7, 23] fun ρ1 => ?_
    have HK3 := H7.keep
    clear H7
    refine g_cond_t kr kr ?_
    refine g_skip kr ?_
    show WP _ _ _ _ _ _
    refine g_seq kr ?_
    refine g_block 1 kr ?_
    refine rS [.v, .v, .cp (pre := fun w => w.heap[ba]? = some (.cells curA 3 (0, 0))) (digit_fn x ba (List.length x) ca curA rfl hA (by omega) k (by omega)) [] (fun w hb hd => ((hb.block _ (lt_of_heap hpre.1)).trans hpre.1)), .v, .v, .cp (pre := fun w => w.heap[bb]? = some (.cells curB 3 (0, 0))) (digit_fn y bb (List.length y) cb curB rfl hB (by omega) k (by omega)) [] (fun w hb hd => ((hb.block _ (lt_of_heap hpre.2)).trans hpre.2)), .e (v := .int .i64 (IntKind.i64.wrap (((List.getD x k 0 : Nat) : Int) + ((List.getD y k 0 : Nat) : Int)))) (v' := .int .i64 (((List.getD x k 0) + (List.getD y k 0) : Nat) : Int)) (int_eq (wrapAdd_i64 (a := List.getD x k 0) (b := List.getD y k 0) (by omega))), .v, .e (v := .int .i64 (IntKind.i64.wrap ((((List.getD x k 0) + (List.getD y k 0) : Nat) : Int) + ((c : Nat) : Int)))) (v' := .int .i64 ((((List.getD x k 0) + (List.getD y k 0)) + c : Nat) : Int)) (int_eq (wrapAdd_i64 (a := (List.getD x k 0) + (List.getD y k 0)) (b := c) (by omega))), .v] HK3 kr fun gs8 w8 H8 => ?_
    clear HK3
    refine g_sreg [0, 1, 2, 3, 4, 5] kr kr ?_
    refine rp [.v, .v, .e (v := .int .i64 (Int.tmod ((((List.getD x k 0) + (List.getD y k 0)) + c : Nat) : Int) 65536)) (v' := .int .i64 (((((List.getD x k 0) + (List.getD y k 0)) + c) % 65536 : Nat) : Int)) (int_eq (remN (((List.getD x k 0) + (List.getD y k 0)) + c) 65536)), .nw (fun b => .slice (some ⟨b, 0, none⟩) 1 1) #[.int .i64 (((((List.getD x k 0) + (List.getD y k 0)) + c) % 65536 : Nat) : Int)] 3] H8 kr fun gs9 w9 H9 => ?_
    show WPs _ _ _ _ [4, 5] _ _
    clear H8
    refine s_append H9 (some 39) 60 3 1 8 (.tmp 35) (.tmp 38) 0 1 b ((gs9 3).b) n 1 cap 1 cur #[.int .i64 (((((List.getD x k 0) + (List.getD y k 0)) + c) % 65536 : Nat) : Int)] 3 (0, 0) (cellsD l) ([.int .i64 (((((List.getD x k 0) + (List.getD y k 0)) + c) % 65536 : Nat) : Int)]) (fun b_1 cur_3 => [(b_1, Obj.cells cur_3 3 (0, 0)), ((gs9 3).b, Obj.cells #[.int .i64 (((((List.getD x k 0) + (List.getD y k 0)) + c) % 65536 : Nat) : Int)] 3 (0, 0))]) kr kr kr kr kr hr kr kr (by rfl) (by rfl) (by intro u hu; simp at hu; first | exact hu.elim | (rcases hu with rfl | rfl | rfl | rfl <;> rfl) | (rcases hu with rfl | rfl <;> rfl) | (subst hu; rfl)) (by omega) (by unfold maxLen; omega) (fun _ _ => by kernel_rfl) ?_
    intro b_1 cap_2 cur_3 w10 H10 hr_4; clear H9
    refine rp [.v] H10 kr fun gs11 w11 H11 => ?_
    show WPs _ _ _ _ [] _ _
    clear H10
    refine s_nil ?_
    refine rL [.v, .e (v := .int .i64 (IntKind.i64.wrap (((((List.getD x k 0) + (List.getD y k 0)) + c : Nat) : Int).tdiv 65536))) (v' := .int .i64 (((((List.getD x k 0) + (List.getD y k 0)) + c) / 65536 : Nat) : Int)) (int_eq (quoN_i64 (a := ((List.getD x k 0) + (List.getD y k 0)) + c) (b := 65536) (by omega))), .v] H11 kr fun gs12 w12 H12 => ?_
    clear H11
    show WP _ _ _ _ _ _
    refine g_keep [0, 1, 4, 5, 6, 7, 8, 23] fun ρ2 => ?_
    have HK4 := H12.keep
    clear H12
    refine rL [.v, .e (v := .int .i64 (IntKind.i64.wrap (((k : Nat) : Int) + 1))) (v' := .int .i64 ((k + 1 : Nat) : Int)) (int_eq (wrapAdd_i64 (a := k) (b := 1) (by omega))), .v] HK4 kr fun gs13 w13 H13 => ?_
    clear HK4
    have HL5 : St w.heap.size w w13 [(b_1, Obj.cells cur_3 3 (0, 0)), ((gs9 3).b, Obj.cells #[.int .i64 (((((List.getD x k 0) + (List.getD y k 0)) + c) % 65536 : Nat) : Int)] 3 (0, 0))] := H13.as kr
    clear H13
    have hS2 := hS.go hx hy (by omega)
    have HD6 : St w.heap.size w w13 [(b_1, Obj.cells cur_3 3 (0, 0))] := HL5.sub (List.Sublist.cons_cons _ (List.Sublist.cons _ List.Sublist.slnil))
    show ∃ m, _ ∧ _
    exact ⟨_, (by have := hS2.top; omega), b_1, cap_2, n + 1, cur_3, l ++ [(List.getD x k 0 + List.getD y k 0 + c) % 65536], k + 1, (List.getD x k 0 + List.getD y k 0 + c) / 65536, rfl, (by rw [List.length_append, ← hn]; rfl), (by rw [cellsD_append]; exact hr_4), hS2, HD6, (Is.of ⟨kr, kr, kr, kr, kr, kr, trivial⟩)⟩
  · skip
    refine rp [.e (v := .bool (decide (((k : Nat) : Int) < ((List.length x : Nat) : Int)))) (v' := .bool false) (bool_eq (decide_eq_false (by omega))), .v, .v, .v, .v] H6 kr fun gs14 w14 H14 => ?_
    show WPs _ _ _ _ [8, 9, 10, 11, 12, 13] _ _
    clear H6
    by_cases hc7 : (k : Nat) < List.length y
    · skip
      refine rp [.e (v := .bool (decide (((k : Nat) : Int) < ((List.length y : Nat) : Int)))) (v' := .bool true) (bool_eq (decide_eq_true (by omega))), .v, .v, .n, .n, .v] H14 kr fun gs15 w15 H15 => ?_
      show WPs _ _ _ _ [] _ _
      clear H14
      refine s_nil ?_
      refine g_keep [0, 1, 4, 5, 6, 7, 23] fun ρ3 => ?_
      have HK8 := H15.keep
      clear H15
      refine g_cond_t kr kr ?_
      refine g_skip kr ?_
      show WP _ _ _ _ _ _
      refine g_seq kr ?_
      refine g_block 1 kr ?_
      refine rS [.v, .v, .cp (pre := fun w => w.heap[ba]? = some (.cells curA 3 (0, 0))) (digit_fn x ba (List.length x) ca curA rfl hA (by omega) k (by omega)) [] (fun w hb hd => ((hb.block _ (lt_of_heap hpre.1)).trans hpre.1)), .v, .v, .cp (pre := fun w => w.heap[bb]? = some (.cells curB 3 (0, 0))) (digit_fn y bb (List.length y) cb curB rfl hB (by omega) k (by omega)) [] (fun w hb hd => ((hb.block _ (lt_of_heap hpre.2)).trans hpre.2)), .e (v := .int .i64 (IntKind.i64.wrap (((List.getD x k 0 : Nat) : Int) + ((List.getD y k 0 : Nat) : Int)))) (v' := .int .i64 (((List.getD x k 0) + (List.getD y k 0) : Nat) : Int)) (int_eq (wrapAdd_i64 (a := List.getD x k 0) (b := List.getD y k 0) (by omega))), .v, .e (v := .int .i64 (IntKind.i64.wrap ((((List.getD x k 0) + (List.getD y k 0) : Nat) : Int) + ((c : Nat) : Int)))) (v' := .int .i64 ((((List.getD x k 0) + (List.getD y k 0)) + c : Nat) : Int)) (int_eq (wrapAdd_i64 (a := (List.getD x k 0) + (List.getD y k 0)) (b := c) (by omega))), .v] HK8 kr fun gs16 w16 H16 => ?_
      clear HK8
      refine g_sreg [0, 1, 2, 3, 4, 5] kr kr ?_
      refine rp [.v, .v, .e (v := .int .i64 (Int.tmod ((((List.getD x k 0) + (List.getD y k 0)) + c : Nat) : Int) 65536)) (v' := .int .i64 (((((List.getD x k 0) + (List.getD y k 0)) + c) % 65536 : Nat) : Int)) (int_eq (remN (((List.getD x k 0) + (List.getD y k 0)) + c) 65536)), .nw (fun b => .slice (some ⟨b, 0, none⟩) 1 1) #[.int .i64 (((((List.getD x k 0) + (List.getD y k 0)) + c) % 65536 : Nat) : Int)] 3] H16 kr fun gs17 w17 H17 => ?_
      show WPs _ _ _ _ [4, 5] _ _
      clear H16
      refine s_append H17 (some 39) 60 3 1 8 (.tmp 35) (.tmp 38) 0 1 b ((gs17 3).b) n 1 cap 1 cur #[.int .i64 (((((List.getD x k 0) + (List.getD y k 0)) + c) % 65536 : Nat) : Int)] 3 (0, 0) (cellsD l) ([.int .i64 (((((List.getD x k 0) + (List.getD y k 0)) + c) % 65536 : Nat) : Int)]) (fun b_5 cur_7 => [(b_5, Obj.cells cur_7 3 (0, 0)), ((gs17 3).b, Obj.cells #[.int .i64 (((((List.getD x k 0) + (List.getD y k 0)) + c) % 65536 : Nat) : Int)] 3 (0, 0))]) kr kr kr kr kr hr kr kr (by rfl) (by rfl) (by intro u hu; simp at hu; first | exact hu.elim | (rcases hu with rfl | rfl | rfl | rfl <;> rfl) | (rcases hu with rfl | rfl <;> rfl) | (subst hu; rfl)) (by omega) (by unfold maxLen; omega) (fun _ _ => by kernel_rfl) ?_
      intro b_5 cap_6 cur_7 w18 H18 hr_8; clear H17
      refine rp [.v] H18 kr fun gs19 w19 H19 => ?_
      show WPs _ _ _ _ [] _ _
      clear H18
      refine s_nil ?_
      refine rL [.v, .e (v := .int .i64 (IntKind.i64.wrap (((((List.getD x k 0) + (List.getD y k 0)) + c : Nat) : Int).tdiv 65536))) (v' := .int .i64 (((((List.getD x k 0) + (List.getD y k 0)) + c) / 65536 : Nat) : Int)) (int_eq (quoN_i64 (a := ((List.getD x k 0) + (List.getD y k 0)) + c) (b := 65536) (by omega))), .v] H19 kr fun gs20 w20 H20 => ?_
      clear H19
      show WP _ _ _ _ _ _
      refine g_keep [0, 1, 4, 5, 6, 7, 8, 23] fun ρ4 => ?_
      have HK9 := H20.keep
      clear H20
      refine rL [.v, .e (v := .int .i64 (IntKind.i64.wrap (((k : Nat) : Int) + 1))) (v' := .int .i64 ((k + 1 : Nat) : Int)) (int_eq (wrapAdd_i64 (a := k) (b := 1) (by omega))), .v] HK9 kr fun gs21 w21 H21 => ?_
      clear HK9
      have HL10 : St w.heap.size w w21 [(b_5, Obj.cells cur_7 3 (0, 0)), ((gs17 3).b, Obj.cells #[.int .i64 (((((List.getD x k 0) + (List.getD y k 0)) + c) % 65536 : Nat) : Int)] 3 (0, 0))] := H21.as kr
      clear H21
      have hS2 := hS.go hx hy (by omega)
      have HD11 : St w.heap.size w w21 [(b_5, Obj.cells cur_7 3 (0, 0))] := HL10.sub (List.Sublist.cons_cons _ (List.Sublist.cons _ List.Sublist.slnil))
      show ∃ m, _ ∧ _
      exact ⟨_, (by have := hS2.top; omega), b_5, cap_6, n + 1, cur_7, l ++ [(List.getD x k 0 + List.getD y k 0 + c) % 65536], k + 1, (List.getD x k 0 + List.getD y k 0 + c) / 65536, rfl, (by rw [List.length_append, ← hn]; rfl), (by rw [cellsD_append]; exact hr_8), hS2, HD11, (Is.of ⟨kr, kr, kr, kr, kr, kr, trivial⟩)⟩
    · skip
      refine rp [.e (v := .bool (decide (((k : Nat) : Int) < ((List.length y : Nat) : Int)))) (v' := .bool false) (bool_eq (decide_eq_false (by omega))), .v, .v, .v] H14 kr fun gs22 w22 H22 => ?_
      show WPs _ _ _ _ [12, 13] _ _
      clear H14
      by_cases hc12 : (c : Nat) > 0
      · skip
        refine rp [.e (v := .bool (decide (0 < ((c : Nat) : Int)))) (v' := .bool true) (bool_eq (decide_eq_true (by omega))), .v] H22 kr fun gs23 w23 H23 => ?_
        show WPs _ _ _ _ [] _ _
        clear H22
        refine s_nil ?_
        refine g_keep [0, 1, 4, 5, 6, 7, 23] fun ρ5 => ?_
        have HK13 := H23.keep
        clear H23
        refine g_cond_t kr kr ?_
        refine g_skip kr ?_
        show WP _ _ _ _ _ _
        refine g_seq kr ?_
        refine g_block 1 kr ?_
        refine rS [.v, .v, .cp (pre := fun w => w.heap[ba]? = some (.cells curA 3 (0, 0))) (digit_fn x ba (List.length x) ca curA rfl hA (by omega) k (by omega)) [] (fun w hb hd => ((hb.block _ (lt_of_heap hpre.1)).trans hpre.1)), .v, .v, .cp (pre := fun w => w.heap[bb]? = some (.cells curB 3 (0, 0))) (digit_fn y bb (List.length y) cb curB rfl hB (by omega) k (by omega)) [] (fun w hb hd => ((hb.block _ (lt_of_heap hpre.2)).trans hpre.2)), .e (v := .int .i64 (IntKind.i64.wrap (((List.getD x k 0 : Nat) : Int) + ((List.getD y k 0 : Nat) : Int)))) (v' := .int .i64 (((List.getD x k 0) + (List.getD y k 0) : Nat) : Int)) (int_eq (wrapAdd_i64 (a := List.getD x k 0) (b := List.getD y k 0) (by omega))), .v, .e (v := .int .i64 (IntKind.i64.wrap ((((List.getD x k 0) + (List.getD y k 0) : Nat) : Int) + ((c : Nat) : Int)))) (v' := .int .i64 ((((List.getD x k 0) + (List.getD y k 0)) + c : Nat) : Int)) (int_eq (wrapAdd_i64 (a := (List.getD x k 0) + (List.getD y k 0)) (b := c) (by omega))), .v] HK13 kr fun gs24 w24 H24 => ?_
        clear HK13
        refine g_sreg [0, 1, 2, 3, 4, 5] kr kr ?_
        refine rp [.v, .v, .e (v := .int .i64 (Int.tmod ((((List.getD x k 0) + (List.getD y k 0)) + c : Nat) : Int) 65536)) (v' := .int .i64 (((((List.getD x k 0) + (List.getD y k 0)) + c) % 65536 : Nat) : Int)) (int_eq (remN (((List.getD x k 0) + (List.getD y k 0)) + c) 65536)), .nw (fun b => .slice (some ⟨b, 0, none⟩) 1 1) #[.int .i64 (((((List.getD x k 0) + (List.getD y k 0)) + c) % 65536 : Nat) : Int)] 3] H24 kr fun gs25 w25 H25 => ?_
        show WPs _ _ _ _ [4, 5] _ _
        clear H24
        refine s_append H25 (some 39) 60 3 1 8 (.tmp 35) (.tmp 38) 0 1 b ((gs25 3).b) n 1 cap 1 cur #[.int .i64 (((((List.getD x k 0) + (List.getD y k 0)) + c) % 65536 : Nat) : Int)] 3 (0, 0) (cellsD l) ([.int .i64 (((((List.getD x k 0) + (List.getD y k 0)) + c) % 65536 : Nat) : Int)]) (fun b_9 cur_11 => [(b_9, Obj.cells cur_11 3 (0, 0)), ((gs25 3).b, Obj.cells #[.int .i64 (((((List.getD x k 0) + (List.getD y k 0)) + c) % 65536 : Nat) : Int)] 3 (0, 0))]) kr kr kr kr kr hr kr kr (by rfl) (by rfl) (by intro u hu; simp at hu; first | exact hu.elim | (rcases hu with rfl | rfl | rfl | rfl <;> rfl) | (rcases hu with rfl | rfl <;> rfl) | (subst hu; rfl)) (by omega) (by unfold maxLen; omega) (fun _ _ => by kernel_rfl) ?_
        intro b_9 cap_10 cur_11 w26 H26 hr_12; clear H25
        refine rp [.v] H26 kr fun gs27 w27 H27 => ?_
        show WPs _ _ _ _ [] _ _
        clear H26
        refine s_nil ?_
        refine rL [.v, .e (v := .int .i64 (IntKind.i64.wrap (((((List.getD x k 0) + (List.getD y k 0)) + c : Nat) : Int).tdiv 65536))) (v' := .int .i64 (((((List.getD x k 0) + (List.getD y k 0)) + c) / 65536 : Nat) : Int)) (int_eq (quoN_i64 (a := ((List.getD x k 0) + (List.getD y k 0)) + c) (b := 65536) (by omega))), .v] H27 kr fun gs28 w28 H28 => ?_
        clear H27
        show WP _ _ _ _ _ _
        refine g_keep [0, 1, 4, 5, 6, 7, 8, 23] fun ρ6 => ?_
        have HK14 := H28.keep
        clear H28
        refine rL [.v, .e (v := .int .i64 (IntKind.i64.wrap (((k : Nat) : Int) + 1))) (v' := .int .i64 ((k + 1 : Nat) : Int)) (int_eq (wrapAdd_i64 (a := k) (b := 1) (by omega))), .v] HK14 kr fun gs29 w29 H29 => ?_
        clear HK14
        have HL15 : St w.heap.size w w29 [(b_9, Obj.cells cur_11 3 (0, 0)), ((gs25 3).b, Obj.cells #[.int .i64 (((((List.getD x k 0) + (List.getD y k 0)) + c) % 65536 : Nat) : Int)] 3 (0, 0))] := H29.as kr
        clear H29
        have hS2 := hS.go hx hy (by omega)
        have HD16 : St w.heap.size w w29 [(b_9, Obj.cells cur_11 3 (0, 0))] := HL15.sub (List.Sublist.cons_cons _ (List.Sublist.cons _ List.Sublist.slnil))
        show ∃ m, _ ∧ _
        exact ⟨_, (by have := hS2.top; omega), b_9, cap_10, n + 1, cur_11, l ++ [(List.getD x k 0 + List.getD y k 0 + c) % 65536], k + 1, (List.getD x k 0 + List.getD y k 0 + c) / 65536, rfl, (by rw [List.length_append, ← hn]; rfl), (by rw [cellsD_append]; exact hr_12), hS2, HD16, (Is.of ⟨kr, kr, kr, kr, kr, kr, trivial⟩)⟩
      · skip
        refine rp [.e (v := .bool (decide (0 < ((c : Nat) : Int)))) (v' := .bool false) (bool_eq (decide_eq_false (by omega))), .v] H22 kr fun gs30 w30 H30 => ?_
        show WPs _ _ _ _ [] _ _
        clear H22
        refine s_nil ?_
        refine g_keep [0, 1, 4, 5, 6, 7, 23] fun ρ7 => ?_
        have HK17 := H30.keep
        clear H30
        refine g_cond_f kr kr ?_
        refine g_exit 0 kr ?_
        show WP _ _ _ _ _ _
        refine rS [.v, .v] HK17 kr fun gs31 w31 H31 => ?_
        clear HK17
        refine g_ret kr ?_
        show ∃ vs, Res _ _ _ _ vs ∧ _
        refine ⟨[.slice (some ⟨b, 0, none⟩) n cap], (.tmp (.slice (some ⟨b, 0, none⟩) n cap) kr .nil), H31.below, ?_⟩
        exact ⟨b, cap, _, _, l, rfl, H31.ge 0 (o := .cells cur 3 (0, 0)) kr, H31.get 0 kr, hn, hr, hok, hS.done (by omega) (by omega) (by omega), by omega, by omega⟩
end Go.Proofs.YtmmloghbnpfedaaDoor

namespace Go.Proofs.YtmmloghbnpfedaaDoor
open Go Go.RowKit
set_option linter.unusedVariables false
set_option maxRecDepth 100000 in
set_option maxHeartbeats 2000000 in
theorem less_fn (x y : List Nat) (ba nx ca bb ny cb : Nat) (curA curB : Array Value) (hnx : nx = List.length x) (hny : ny = List.length y) (hA : Rw 1 curA ca nx (cellsD x)) (hB : Rw 1 curB cb ny (cellsD y)) (hx : Ok x) (hy : Ok y) (lx : List.length x ≤ 5000) (ly : List.length y ≤ 5000) : FnP Tryd.prog 37 #[.slice (some ⟨ba, 0, none⟩) nx ca, .slice (some ⟨bb, 0, none⟩) ny cb] (fun w => w.heap[ba]? = some (.cells curA 3 (0, 0)) ∧ w.heap[bb]? = some (.cells curB 3 (0, 0))) (.bool (ls x y)) := by
  subst hnx hny
  refine FnP.intro (c := codeOf Tryd.f37) [.tmp 4] 35 Tryd.func37 kr kr kr fun w hpre => ?_
  have H0 := St.start w
  refine rS [.v] H0 kr fun gs1 w1 H1 => ?_
  clear H0
  refine rS [.v, .v, .v] H1 kr fun gs2 w2 H2 => ?_
  clear H1
  refine g_seq kr ?_
  refine g_sreg [0, 1, 2, 3] kr kr ?_
  refine rp [.v, .v, .v] H2 kr fun gs3 w3 H3 => ?_
  show WPs _ _ _ _ [3] _ _
  clear H2
  by_cases hc1 : (List.length y : Nat) > List.length x
  · skip
    refine rp [.e (v := .bool (decide (((List.length x : Nat) : Int) < ((List.length y : Nat) : Int)))) (v' := .bool true) (bool_eq (decide_eq_true (by omega)))] H3 kr fun gs4 w4 H4 => ?_
    show WPs _ _ _ _ [] _ _
    clear H3
    refine s_nil ?_
    refine g_cond_t kr kr ?_
    refine rL [.v, .v, .v] H4 kr fun gs5 w5 H5 => ?_
    clear H4
    show WP _ _ _ _ _ _
    refine g_seq kr ?_
    refine rS [.v, .e (v := .int .i64 (IntKind.i64.wrap (((List.length y : Nat) : Int) - 1))) (v' := .int .i64 (((List.length y : Nat) : Int) - 1)) (int_eq (wrap_i64 (by omega) (by omega))), .v] H5 kr fun gs6 w6 H6 => ?_
    clear H5
    refine g_block 0 kr ?_
    have HL2 : St w.heap.size w w6 [] := H6.as kr
    clear H6
    refine g_loop kr (fun mz ρ ww => ∃ (j : Nat), j = mz ∧ (j ≤ 5000) ∧ (Same x y (((j : Nat) : Int) - 1)) ∧ St w.heap.size w ww [] ∧ Is [(0, .slice (some ⟨ba, 0, none⟩) (List.length x) ca), (1, .slice (some ⟨bb, 0, none⟩) (List.length y) cb), (5, .int .i64 ((List.length y : Nat) : Int)), (6, .int .i64 (((j : Nat) : Int) - 1)), (12, .bool true)] ρ) (List.length y) ⟨List.length y, rfl, (by omega), (Same.start x y _ (by omega) (by omega)), HL2, (Is.of ⟨kr, kr, kr, kr, kr, trivial⟩)⟩ ?_
    clear HL2
    rintro _ _ w7 ⟨j, rfl, hj, hs, H7, _, rfl⟩
    refine g_seq kr ?_
    refine g_sreg [0, 1] kr kr ?_
    refine rp [.v] H7 kr fun gs8 w8 H8 => ?_
    show WPs _ _ _ _ [1] _ _
    clear H7
    by_cases hc3 : (((j : Nat) : Int) - 1 : Int) ≥ 0
    · skip
      refine rp [.e (v := .bool (decide (0 ≤ ((j : Nat) : Int) - 1))) (v' := .bool true) (bool_eq (decide_eq_true (by omega)))] H8 kr fun gs9 w9 H9 => ?_
      show WPs _ _ _ _ [] _ _
      clear H8
      refine s_nil ?_
      refine g_cond_t kr kr ?_
      refine g_skip kr ?_
      show WP _ _ _ _ _ _
      refine g_seq kr ?_
      refine g_block 1 kr ?_
      refine g_sreg [0, 1, 2, 3, 4, 5, 6] kr kr ?_
      refine rp [.v] H9 kr fun gs10 w10 H10 => ?_
      show WPs _ _ _ _ [1, 2, 3, 4, 5, 6] _ _
      clear H9
      refine s_now 6 (v := .int .i64 (((j : Nat) : Int) - 1)) (v' := .int .i64 ((j - 1 : Nat) : Int)) (int_eq (show (((j : Nat) : Int) - 1) = ((j - 1 : Nat) : Int) from by omega)) kr ?_
      refine s_now 17 (v := .int .i64 (((j : Nat) : Int) - 1)) (v' := .int .i64 ((j - 1 : Nat) : Int)) (int_eq (show (((j : Nat) : Int) - 1) = ((j - 1 : Nat) : Int) from by omega)) kr ?_
      refine rp [.v, .cp (pre := fun w => w.heap[ba]? = some (.cells curA 3 (0, 0))) (digit_fn x ba (List.length x) ca curA rfl hA (by omega) (j - 1) (by omega)) [] (fun w hb hd => ((hb.block _ (lt_of_heap hpre.1)).trans hpre.1)), .v, .v, .cp (pre := fun w => w.heap[bb]? = some (.cells curB 3 (0, 0))) (digit_fn y bb (List.length y) cb curB rfl hB (by omega) (j - 1) (by omega)) [] (fun w hb hd => ((hb.block _ (lt_of_heap hpre.2)).trans hpre.2))] H10 kr fun gs11 w11 H11 => ?_
      show WPs _ _ _ _ [6] _ _
      clear H10
      by_cases hc4 : (List.getD x (j - 1) 0 : Nat) ≠ List.getD y (j - 1) 0
      · skip
        refine rp [.e (v := .bool (!(((List.getD x (j - 1) 0 : Nat) : Int) == ((List.getD y (j - 1) 0 : Nat) : Int)))) (v' := .bool true) (bool_eq (by rw [beq_eq_false_iff_ne.2 (by omega)]; rfl))] H11 kr fun gs12 w12 H12 => ?_
        show WPs _ _ _ _ [] _ _
        clear H11
        refine s_nil ?_
        refine g_keep [0, 1, 5, 6, 12, 18, 27] fun ρ1 => ?_
        have HK5 := H12.keep
        clear H12
        refine g_cond_t kr kr ?_
        refine rS [.v, .v, .cp (pre := fun w => w.heap[ba]? = some (.cells curA 3 (0, 0))) (digit_fn x ba (List.length x) ca curA rfl hA (by omega) (j - 1) (by omega)) [] (fun w hb hd => ((hb.block _ (lt_of_heap hpre.1)).trans hpre.1)), .v, .v, .cp (pre := fun w => w.heap[bb]? = some (.cells curB 3 (0, 0))) (digit_fn y bb (List.length y) cb curB rfl hB (by omega) (j - 1) (by omega)) [] (fun w hb hd => ((hb.block _ (lt_of_heap hpre.2)).trans hpre.2)), .e (v := .bool (decide (((List.getD x (j - 1) 0 : Nat) : Int) < ((List.getD y (j - 1) 0 : Nat) : Int)))) (v' := .bool (ls x y)) (bool_eq (ls_digit hx hy (j - 1) (fun t ht => hs t (by omega)) (by unfold dAt; omega))), .v] HK5 kr fun gs13 w13 H13 => ?_
        clear HK5
        refine g_ret kr ?_
        show ∃ vs, Res _ _ _ _ vs ∧ _
        refine ⟨[.bool (ls x y)], (.tmp (.bool (ls x y)) kr .nil), ?_, H13.below⟩
        rfl
      · skip
        refine rp [.e (v := .bool (!(((List.getD x (j - 1) 0 : Nat) : Int) == ((List.getD y (j - 1) 0 : Nat) : Int)))) (v' := .bool false) (bool_eq (by rw [beq_iff_eq.2 (by omega)]; rfl))] H11 kr fun gs14 w14 H14 => ?_
        show WPs _ _ _ _ [] _ _
        clear H11
        refine s_nil ?_
        refine g_keep [0, 1, 5, 6, 12, 18, 27] fun ρ2 => ?_
        have HK6 := H14.keep
        clear H14
        refine g_cond_f kr kr ?_
        refine g_skip kr ?_
        show WP _ _ _ _ _ _
        refine rL [.v, .e (v := .int .i64 (IntKind.i64.wrap (((j - 1 : Nat) : Int) - 1))) (v' := .int .i64 (((j - 1 : Nat) : Int) - 1)) (int_eq (wrap_i64 (by omega) (by omega))), .v] HK6 kr fun gs15 w15 H15 => ?_
        clear HK6
        have HL7 : St w.heap.size w w15 [] := H15.as kr
        clear H15
        show ∃ m, _ ∧ _
        exact ⟨_, (by omega), (j - 1), rfl, (by omega), (Same.down (j := j - 1) (fun t ht => hs t (by omega)) (by unfold dAt; omega)), HL7, (Is.of ⟨kr, kr, kr, kr, kr, trivial⟩)⟩
    · skip
      refine rp [.e (v := .bool (decide (0 ≤ ((j : Nat) : Int) - 1))) (v' := .bool false) (bool_eq (decide_eq_false (by omega)))] H8 kr fun gs16 w16 H16 => ?_
      show WPs _ _ _ _ [] _ _
      clear H8
      refine s_nil ?_
      refine g_cond_f kr kr ?_
      refine g_exit 0 kr ?_
      show WP _ _ _ _ _ _
      refine rS [.v] H16 kr fun gs17 w17 H17 => ?_
      clear H16
      refine g_ret kr ?_
      show ∃ vs, Res _ _ _ _ vs ∧ _
      refine ⟨[.bool false], (.tmp (.bool false) kr .nil), ?_, H17.below⟩
      exact congrArg Value.bool (ls_none (x := x) (y := y) fun t => hs t (by omega)).symm
  · skip
    refine rp [.e (v := .bool (decide (((List.length x : Nat) : Int) < ((List.length y : Nat) : Int)))) (v' := .bool false) (bool_eq (decide_eq_false (by omega)))] H3 kr fun gs18 w18 H18 => ?_
    show WPs _ _ _ _ [] _ _
    clear H3
    refine s_nil ?_
    refine g_cond_f kr kr ?_
    refine g_skip kr ?_
    show WP _ _ _ _ _ _
    refine g_seq kr ?_
    refine rS [.v, .e (v := .int .i64 (IntKind.i64.wrap (((List.length x : Nat) : Int) - 1))) (v' := .int .i64 (((List.length x : Nat) : Int) - 1)) (int_eq (wrap_i64 (by omega) (by omega))), .v] H18 kr fun gs19 w19 H19 => ?_
    clear H18
    refine g_block 0 kr ?_
    have HL8 : St w.heap.size w w19 [] := H19.as kr
    clear H19
    refine g_loop kr (fun mz ρ ww => ∃ (j : Nat), j = mz ∧ (j ≤ 5000) ∧ (Same x y (((j : Nat) : Int) - 1)) ∧ St w.heap.size w ww [] ∧ Is [(0, .slice (some ⟨ba, 0, none⟩) (List.length x) ca), (1, .slice (some ⟨bb, 0, none⟩) (List.length y) cb), (5, .int .i64 ((List.length x : Nat) : Int)), (6, .int .i64 (((j : Nat) : Int) - 1)), (12, .bool false)] ρ) (List.length x) ⟨List.length x, rfl, (by omega), (Same.start x y _ (by omega) (by omega)), HL8, (Is.of ⟨kr, kr, kr, kr, kr, trivial⟩)⟩ ?_
    clear HL8
    rintro _ _ w20 ⟨j, rfl, hj, hs, H20, _, rfl⟩
    refine g_seq kr ?_
    refine g_sreg [0, 1] kr kr ?_
    refine rp [.v] H20 kr fun gs21 w21 H21 => ?_
    show WPs _ _ _ _ [1] _ _
    clear H20
    by_cases hc9 : (((j : Nat) : Int) - 1 : Int) ≥ 0
    · skip
      refine rp [.e (v := .bool (decide (0 ≤ ((j : Nat) : Int) - 1))) (v' := .bool true) (bool_eq (decide_eq_true (by omega)))] H21 kr fun gs22 w22 H22 => ?_
      show WPs _ _ _ _ [] _ _
      clear H21
      refine s_nil ?_
      refine g_cond_t kr kr ?_
      refine g_skip kr ?_
      show WP _ _ _ _ _ _
      refine g_seq kr ?_
      refine g_block 1 kr ?_
      refine g_sreg [0, 1, 2, 3, 4, 5, 6] kr kr ?_
      refine rp [.v] H22 kr fun gs23 w23 H23 => ?_
      show WPs _ _ _ _ [1, 2, 3, 4, 5, 6] _ _
      clear H22
      refine s_now 6 (v := .int .i64 (((j : Nat) : Int) - 1)) (v' := .int .i64 ((j - 1 : Nat) : Int)) (int_eq (show (((j : Nat) : Int) - 1) = ((j - 1 : Nat) : Int) from by omega)) kr ?_
      refine s_now 17 (v := .int .i64 (((j : Nat) : Int) - 1)) (v' := .int .i64 ((j - 1 : Nat) : Int)) (int_eq (show (((j : Nat) : Int) - 1) = ((j - 1 : Nat) : Int) from by omega)) kr ?_
      refine rp [.v, .cp (pre := fun w => w.heap[ba]? = some (.cells curA 3 (0, 0))) (digit_fn x ba (List.length x) ca curA rfl hA (by omega) (j - 1) (by omega)) [] (fun w hb hd => ((hb.block _ (lt_of_heap hpre.1)).trans hpre.1)), .v, .v, .cp (pre := fun w => w.heap[bb]? = some (.cells curB 3 (0, 0))) (digit_fn y bb (List.length y) cb curB rfl hB (by omega) (j - 1) (by omega)) [] (fun w hb hd => ((hb.block _ (lt_of_heap hpre.2)).trans hpre.2))] H23 kr fun gs24 w24 H24 => ?_
      show WPs _ _ _ _ [6] _ _
      clear H23
      by_cases hc10 : (List.getD x (j - 1) 0 : Nat) ≠ List.getD y (j - 1) 0
      · skip
        refine rp [.e (v := .bool (!(((List.getD x (j - 1) 0 : Nat) : Int) == ((List.getD y (j - 1) 0 : Nat) : Int)))) (v' := .bool true) (bool_eq (by rw [beq_eq_false_iff_ne.2 (by omega)]; rfl))] H24 kr fun gs25 w25 H25 => ?_
        show WPs _ _ _ _ [] _ _
        clear H24
        refine s_nil ?_
        refine g_keep [0, 1, 5, 6, 12, 18, 27] fun ρ3 => ?_
        have HK11 := H25.keep
        clear H25
        refine g_cond_t kr kr ?_
        refine rS [.v, .v, .cp (pre := fun w => w.heap[ba]? = some (.cells curA 3 (0, 0))) (digit_fn x ba (List.length x) ca curA rfl hA (by omega) (j - 1) (by omega)) [] (fun w hb hd => ((hb.block _ (lt_of_heap hpre.1)).trans hpre.1)), .v, .v, .cp (pre := fun w => w.heap[bb]? = some (.cells curB 3 (0, 0))) (digit_fn y bb (List.length y) cb curB rfl hB (by omega) (j - 1) (by omega)) [] (fun w hb hd => ((hb.block _ (lt_of_heap hpre.2)).trans hpre.2)), .e (v := .bool (decide (((List.getD x (j - 1) 0 : Nat) : Int) < ((List.getD y (j - 1) 0 : Nat) : Int)))) (v' := .bool (ls x y)) (bool_eq (ls_digit hx hy (j - 1) (fun t ht => hs t (by omega)) (by unfold dAt; omega))), .v] HK11 kr fun gs26 w26 H26 => ?_
        clear HK11
        refine g_ret kr ?_
        show ∃ vs, Res _ _ _ _ vs ∧ _
        refine ⟨[.bool (ls x y)], (.tmp (.bool (ls x y)) kr .nil), ?_, H26.below⟩
        rfl
      · skip
        refine rp [.e (v := .bool (!(((List.getD x (j - 1) 0 : Nat) : Int) == ((List.getD y (j - 1) 0 : Nat) : Int)))) (v' := .bool false) (bool_eq (by rw [beq_iff_eq.2 (by omega)]; rfl))] H24 kr fun gs27 w27 H27 => ?_
        show WPs _ _ _ _ [] _ _
        clear H24
        refine s_nil ?_
        refine g_keep [0, 1, 5, 6, 12, 18, 27] fun ρ4 => ?_
        have HK12 := H27.keep
        clear H27
        refine g_cond_f kr kr ?_
        refine g_skip kr ?_
        show WP _ _ _ _ _ _
        refine rL [.v, .e (v := .int .i64 (IntKind.i64.wrap (((j - 1 : Nat) : Int) - 1))) (v' := .int .i64 (((j - 1 : Nat) : Int) - 1)) (int_eq (wrap_i64 (by omega) (by omega))), .v] HK12 kr fun gs28 w28 H28 => ?_
        clear HK12
        have HL13 : St w.heap.size w w28 [] := H28.as kr
        clear H28
        show ∃ m, _ ∧ _
        exact ⟨_, (by omega), (j - 1), rfl, (by omega), (Same.down (j := j - 1) (fun t ht => hs t (by omega)) (by unfold dAt; omega)), HL13, (Is.of ⟨kr, kr, kr, kr, kr, trivial⟩)⟩
    · skip
      refine rp [.e (v := .bool (decide (0 ≤ ((j : Nat) : Int) - 1))) (v' := .bool false) (bool_eq (decide_eq_false (by omega)))] H21 kr fun gs29 w29 H29 => ?_
      show WPs _ _ _ _ [] _ _
      clear H21
      refine s_nil ?_
      refine g_cond_f kr kr ?_
      refine g_exit 0 kr ?_
      show WP _ _ _ _ _ _
      refine rS [.v] H29 kr fun gs30 w30 H30 => ?_
      clear H29
      refine g_ret kr ?_
      show ∃ vs, Res _ _ _ _ vs ∧ _
      refine ⟨[.bool false], (.tmp (.bool false) kr .nil), ?_, H30.below⟩
      exact congrArg Value.bool (ls_none (x := x) (y := y) fun t => hs t (by omega)).symm
set_option maxRecDepth 100000 in
set_option maxHeartbeats 2000000 in
theorem take_fn (x y : List Nat) (ba nx ca bb ny cb : Nat) (curA curB : Array Value) (hnx : nx = List.length x) (hny : ny = List.length y) (hA : Rw 1 curA ca nx (cellsD x)) (hB : Rw 1 curB cb ny (cellsD y)) (hx : Ok x) (hy : Ok y) (lx : List.length x ≤ 5000) (ly : List.length y ≤ 5000) (hle : vl y ≤ vl x) : FnR Tryd.prog 60 #[.slice (some ⟨ba, 0, none⟩) nx ca, .slice (some ⟨bb, 0, none⟩) ny cb] (fun w => w.heap[ba]? = some (.cells curA 3 (0, 0)) ∧ w.heap[bb]? = some (.cells curB 3 (0, 0))) (RetS 3 1 (fun cur cap n l => (n = List.length l ∧ Rw 1 cur cap n (cellsD l) ∧ Ok l ∧ (vl l = vl x - vl y ∧ List.length l = List.length x)))) := by
  subst hnx hny
  refine FnR.intro (c := codeOf Tryd.f60) [.tmp 4] 35 Tryd.func60 kr kr kr fun w hpre => ?_
  have H0 := St.start w
  refine rS [.v] H0 kr fun gs1 w1 H1 => ?_
  clear H0
  refine rS [.nw (fun b => .slice (some ⟨b, 0, none⟩) 0 0) #[] 3, .v] H1 kr fun gs2 w2 H2 => ?_
  clear H1
  refine rS [.v] H2 kr fun gs3 w3 H3 => ?_
  clear H2
  refine g_seq kr ?_
  refine rS [.v, .v, .v] H3 kr fun gs4 w4 H4 => ?_
  clear H3
  refine g_block 0 kr ?_
  have HL1 : St w.heap.size w w4 [((gs2 0).b, Obj.cells #[] 3 (0, 0))] := H4.as kr
  clear H4
  refine g_loop kr (fun mz ρ ww => ∃ (b : Nat) (cap : Nat) (n : Nat) (cur : Array Value) (l : List Nat) (k : Nat) (c : Nat), List.length x + 1 - k = mz ∧ (n = List.length l) ∧ (Rw 1 cur cap n (cellsD l)) ∧ (k ≤ List.length x) ∧ (TakeI x y l k (c : Int)) ∧ St w.heap.size w ww [(b, Obj.cells cur 3 (0, 0))] ∧ Is [(0, .slice (some ⟨ba, 0, none⟩) (List.length x) ca), (1, .slice (some ⟨bb, 0, none⟩) (List.length y) cb), (4, .slice none 0 0), (5, .slice (some ⟨b, 0, none⟩) n cap), (6, .int .i64 ((c : Nat) : Int)), (11, .int .i64 ((List.length x : Nat) : Int)), (12, .int .i64 ((k : Nat) : Int))] ρ) (List.length x + 1 - 0) ⟨(gs2 0).b, 0, 0, #[], [], 0, 0, rfl, rfl, (Rw.lit #[] 0 rfl (by unfold maxLen; omega)), (by omega), (TakeI.start x y), HL1, (Is.of ⟨kr, kr, kr, kr, kr, kr, kr, trivial⟩)⟩ ?_
  clear HL1
  rintro _ _ w5 ⟨b, cap, n, cur, l, k, c, rfl, hn, hr, hk, hS, H5, _, rfl⟩
  have hc0 := hS.c0; have hc1 := hS.c1; have hxk := ok_getD hx k; have hyk := ok_getD hy k; have hlen := hS.len; have hok := hS.ok
  by_cases hc2 : (k : Nat) < List.length x
  · skip
    refine rS [.e (v := .bool (decide (((k : Nat) : Int) < ((List.length x : Nat) : Int)))) (v' := .bool true) (bool_eq (decide_eq_true (by omega)))] H5 kr fun gs6 w6 H6 => ?_
    clear H5
    refine g_seq kr ?_
    refine g_cond_t kr kr ?_
    refine g_skip kr ?_
    show WP _ _ _ _ _ _
    refine g_seq kr ?_
    refine g_block 1 kr ?_
    refine rS [.v, .v] H6 kr fun gs7 w7 H7 => ?_
    clear H6
    refine dS [.v, .v, .o (ins := [((.tmp 15), .slice (some ⟨ba, 0, none⟩) (List.length x) ca), ((.tmp 16), .int .i64 ((k : Nat) : Int))]) (v := .pointer (some ⟨ba, 0 + k * 1, none⟩)) (fun ρ o w ho hi => idxS_run (kd := .i64) (t := 60) (e := 3) (size := 1) (bytes := 8) kr (x := (.tmp 15)) (y := (.tmp 16)) ba 0 (List.length x) ca k ho hi.1 hi.2.1 (by omega) w), .fs (off := 0 + k * 1) (v := .int .i64 ((List.getD x k 0 : Nat) : Int)) hpre.1 (lt_of_heap hpre.1) (hA.atD (by omega) rfl), .v, .v, .cp (pre := fun w => w.heap[bb]? = some (.cells curB 3 (0, 0))) (digit_fn y bb (List.length y) cb curB rfl hB (by omega) k (by omega)) [] (fun w hb hd => ((hb.block _ (lt_of_heap hpre.2)).trans hpre.2)), .e (v := .int .i64 (IntKind.i64.wrap (((List.getD x k 0 : Nat) : Int) - ((List.getD y k 0 : Nat) : Int)))) (v' := .int .i64 (((List.getD x k 0 : Nat) : Int) - ((List.getD y k 0 : Nat) : Int))) (int_eq (wrap_i64 (by omega) (by omega))), .v, .e (v := .int .i64 (IntKind.i64.wrap ((((List.getD x k 0 : Nat) : Int) - ((List.getD y k 0 : Nat) : Int)) - ((c : Nat) : Int)))) (v' := .int .i64 ((((List.getD x k 0 : Nat) : Int) - ((List.getD y k 0 : Nat) : Int)) - ((c : Nat) : Int))) (int_eq (wrap_i64 (by omega) (by omega))), .v] H7 kr fun w8 H8 => ?_
    clear H7
    refine g_keep [0, 1, 4, 5, 6, 7, 8, 11, 12, 13] fun ρ1 => ?_
    have HK3 := H8.keep
    clear H8
    refine rS [.v] HK3 kr fun gs9 w9 H9 => ?_
    clear HK3
    refine g_seq kr ?_
    refine g_sreg [0, 1] kr kr ?_
    refine rp [.v] H9 kr fun gs10 w10 H10 => ?_
    show WPs _ _ _ _ [1] _ _
    clear H9
    by_cases hc4 : ((((List.getD x k 0 : Nat) : Int) - ((List.getD y k 0 : Nat) : Int)) - ((c : Nat) : Int) : Int) < 0
    · skip
      refine rp [.e (v := .bool (decide ((((List.getD x k 0 : Nat) : Int) - ((List.getD y k 0 : Nat) : Int)) - ((c : Nat) : Int) < 0))) (v' := .bool true) (bool_eq (decide_eq_true (by omega)))] H10 kr fun gs11 w11 H11 => ?_
      show WPs _ _ _ _ [] _ _
      clear H10
      refine s_nil ?_
      refine g_cond_t kr kr ?_
      refine rS [.v, .e (v := .int .i64 (IntKind.i64.wrap (((((List.getD x k 0 : Nat) : Int) - ((List.getD y k 0 : Nat) : Int)) - ((c : Nat) : Int)) + 65536))) (v' := .int .i64 (((((List.getD x k 0 : Nat) : Int) - ((List.getD y k 0 : Nat) : Int)) - ((c : Nat) : Int)) + 65536)) (int_eq (wrap_i64 (by omega) (by omega))), .v] H11 kr fun gs12 w12 H12 => ?_
      clear H11
      refine rL [.v] H12 kr fun gs13 w13 H13 => ?_
      clear H12
      show WP _ _ _ _ _ _
      refine g_reg0 [0, 1, 2, 3, 4] kr ?_
      refine rp [.v] H13 kr fun gs14 w14 H14 => ?_
      show WPs _ _ _ _ [1, 2, 3, 4] _ _
      clear H13
      refine s_now 8 (v := .int .i64 (((((List.getD x k 0 : Nat) : Int) - ((List.getD y k 0 : Nat) : Int)) - ((c : Nat) : Int)) + 65536)) (v' := .int .i64 ((Int.toNat (((((List.getD x k 0 : Nat) : Int) - ((List.getD y k 0 : Nat) : Int)) - ((c : Nat) : Int)) + 65536) : Nat) : Int)) (int_eq (show (((((List.getD x k 0 : Nat) : Int) - ((List.getD y k 0 : Nat) : Int)) - ((c : Nat) : Int)) + 65536) = ((Int.toNat (((((List.getD x k 0 : Nat) : Int) - ((List.getD y k 0 : Nat) : Int)) - ((c : Nat) : Int)) + 65536) : Nat) : Int) from by omega)) kr ?_
      refine s_now 28 (v := .int .i64 (((((List.getD x k 0 : Nat) : Int) - ((List.getD y k 0 : Nat) : Int)) - ((c : Nat) : Int)) + 65536)) (v' := .int .i64 ((Int.toNat (((((List.getD x k 0 : Nat) : Int) - ((List.getD y k 0 : Nat) : Int)) - ((c : Nat) : Int)) + 65536) : Nat) : Int)) (int_eq (show (((((List.getD x k 0 : Nat) : Int) - ((List.getD y k 0 : Nat) : Int)) - ((c : Nat) : Int)) + 65536) = ((Int.toNat (((((List.getD x k 0 : Nat) : Int) - ((List.getD y k 0 : Nat) : Int)) - ((c : Nat) : Int)) + 65536) : Nat) : Int) from by omega)) kr ?_
      refine rp [.v, .nw (fun b => .slice (some ⟨b, 0, none⟩) 1 1) #[.int .i64 ((Int.toNat (((((List.getD x k 0 : Nat) : Int) - ((List.getD y k 0 : Nat) : Int)) - ((c : Nat) : Int)) + 65536) : Nat) : Int)] 3] H14 kr fun gs15 w15 H15 => ?_
      show WPs _ _ _ _ [3, 4] _ _
      clear H14
      refine s_append H15 (some 32) 60 3 1 8 (.tmp 29) (.tmp 31) 0 1 b ((gs15 1).b) n 1 cap 1 cur #[.int .i64 ((Int.toNat (((((List.getD x k 0 : Nat) : Int) - ((List.getD y k 0 : Nat) : Int)) - ((c : Nat) : Int)) + 65536) : Nat) : Int)] 3 (0, 0) (cellsD l) ([.int .i64 ((Int.toNat (((((List.getD x k 0 : Nat) : Int) - ((List.getD y k 0 : Nat) : Int)) - ((c : Nat) : Int)) + 65536) : Nat) : Int)]) (fun b_1 cur_3 => [(b_1, Obj.cells cur_3 3 (0, 0)), ((gs15 1).b, Obj.cells #[.int .i64 ((Int.toNat (((((List.getD x k 0 : Nat) : Int) - ((List.getD y k 0 : Nat) : Int)) - ((c : Nat) : Int)) + 65536) : Nat) : Int)] 3 (0, 0))]) kr kr kr kr kr hr kr kr (by rfl) (by rfl) (by intro u hu; simp at hu; first | exact hu.elim | (rcases hu with rfl | rfl | rfl | rfl <;> rfl) | (rcases hu with rfl | rfl <;> rfl) | (subst hu; rfl)) (by omega) (by unfold maxLen; omega) (fun _ _ => by kernel_rfl) ?_
      intro b_1 cap_2 cur_3 w16 H16 hr_4; clear H15
      refine rp [.v] H16 kr fun gs17 w17 H17 => ?_
      show WPs _ _ _ _ [] _ _
      clear H16
      refine s_nil ?_
      show WP _ _ _ _ _ _
      refine rL [.e (v := .int .i64 (IntKind.i64.wrap (((k : Nat) : Int) + 1))) (v' := .int .i64 ((k + 1 : Nat) : Int)) (int_eq (wrapAdd_i64 (a := k) (b := 1) (by omega))), .v] H17 kr fun gs18 w18 H18 => ?_
      clear H17
      have HL5 : St w.heap.size w w18 [(b_1, Obj.cells cur_3 3 (0, 0)), ((gs15 1).b, Obj.cells #[.int .i64 ((Int.toNat (((((List.getD x k 0 : Nat) : Int) - ((List.getD y k 0 : Nat) : Int)) - ((c : Nat) : Int)) + 65536) : Nat) : Int)] 3 (0, 0))] := H18.as kr
      clear H18
      have hS2 := hS.step (((((List.getD x k 0 : Nat) : Int) - ((List.getD y k 0 : Nat) : Int)) - ((c : Nat) : Int)) + 65536) ((1 : Nat) : Int) (by omega) (by omega) (by omega) (by omega) (by unfold dAt; omega)
      have HD6 : St w.heap.size w w18 [(b_1, Obj.cells cur_3 3 (0, 0))] := HL5.sub (List.Sublist.cons_cons _ (List.Sublist.cons _ List.Sublist.slnil))
      show ∃ m, _ ∧ _
      exact ⟨_, (by omega), b_1, cap_2, n + 1, cur_3, l ++ [Int.toNat (((((List.getD x k 0 : Nat) : Int) - ((List.getD y k 0 : Nat) : Int)) - ((c : Nat) : Int)) + 65536)], k + 1, 1, rfl, (by rw [List.length_append, ← hn]; rfl), (by rw [cellsD_append]; exact hr_4), (by omega), hS2, HD6, (Is.of ⟨kr, kr, kr, kr, kr, kr, kr, trivial⟩)⟩
    · skip
      refine rp [.e (v := .bool (decide ((((List.getD x k 0 : Nat) : Int) - ((List.getD y k 0 : Nat) : Int)) - ((c : Nat) : Int) < 0))) (v' := .bool false) (bool_eq (decide_eq_false (by omega)))] H10 kr fun gs19 w19 H19 => ?_
      show WPs _ _ _ _ [] _ _
      clear H10
      refine s_nil ?_
      refine g_cond_f kr kr ?_
      refine g_skip kr ?_
      show WP _ _ _ _ _ _
      refine g_reg0 [0, 1, 2, 3, 4] kr ?_
      refine rp [.v] H19 kr fun gs20 w20 H20 => ?_
      show WPs _ _ _ _ [1, 2, 3, 4] _ _
      clear H19
      refine s_now 8 (v := .int .i64 ((((List.getD x k 0 : Nat) : Int) - ((List.getD y k 0 : Nat) : Int)) - ((c : Nat) : Int))) (v' := .int .i64 ((Int.toNat ((((List.getD x k 0 : Nat) : Int) - ((List.getD y k 0 : Nat) : Int)) - ((c : Nat) : Int)) : Nat) : Int)) (int_eq (show ((((List.getD x k 0 : Nat) : Int) - ((List.getD y k 0 : Nat) : Int)) - ((c : Nat) : Int)) = ((Int.toNat ((((List.getD x k 0 : Nat) : Int) - ((List.getD y k 0 : Nat) : Int)) - ((c : Nat) : Int)) : Nat) : Int) from by omega)) kr ?_
      refine s_now 25 (v := .int .i64 ((((List.getD x k 0 : Nat) : Int) - ((List.getD y k 0 : Nat) : Int)) - ((c : Nat) : Int))) (v' := .int .i64 ((Int.toNat ((((List.getD x k 0 : Nat) : Int) - ((List.getD y k 0 : Nat) : Int)) - ((c : Nat) : Int)) : Nat) : Int)) (int_eq (show ((((List.getD x k 0 : Nat) : Int) - ((List.getD y k 0 : Nat) : Int)) - ((c : Nat) : Int)) = ((Int.toNat ((((List.getD x k 0 : Nat) : Int) - ((List.getD y k 0 : Nat) : Int)) - ((c : Nat) : Int)) : Nat) : Int) from by omega)) kr ?_
      refine rp [.v, .nw (fun b => .slice (some ⟨b, 0, none⟩) 1 1) #[.int .i64 ((Int.toNat ((((List.getD x k 0 : Nat) : Int) - ((List.getD y k 0 : Nat) : Int)) - ((c : Nat) : Int)) : Nat) : Int)] 3] H20 kr fun gs21 w21 H21 => ?_
      show WPs _ _ _ _ [3, 4] _ _
      clear H20
      refine s_append H21 (some 32) 60 3 1 8 (.tmp 29) (.tmp 31) 0 1 b ((gs21 1).b) n 1 cap 1 cur #[.int .i64 ((Int.toNat ((((List.getD x k 0 : Nat) : Int) - ((List.getD y k 0 : Nat) : Int)) - ((c : Nat) : Int)) : Nat) : Int)] 3 (0, 0) (cellsD l) ([.int .i64 ((Int.toNat ((((List.getD x k 0 : Nat) : Int) - ((List.getD y k 0 : Nat) : Int)) - ((c : Nat) : Int)) : Nat) : Int)]) (fun b_5 cur_7 => [(b_5, Obj.cells cur_7 3 (0, 0)), ((gs21 1).b, Obj.cells #[.int .i64 ((Int.toNat ((((List.getD x k 0 : Nat) : Int) - ((List.getD y k 0 : Nat) : Int)) - ((c : Nat) : Int)) : Nat) : Int)] 3 (0, 0))]) kr kr kr kr kr hr kr kr (by rfl) (by rfl) (by intro u hu; simp at hu; first | exact hu.elim | (rcases hu with rfl | rfl | rfl | rfl <;> rfl) | (rcases hu with rfl | rfl <;> rfl) | (subst hu; rfl)) (by omega) (by unfold maxLen; omega) (fun _ _ => by kernel_rfl) ?_
      intro b_5 cap_6 cur_7 w22 H22 hr_8; clear H21
      refine rp [.v] H22 kr fun gs23 w23 H23 => ?_
      show WPs _ _ _ _ [] _ _
      clear H22
      refine s_nil ?_
      show WP _ _ _ _ _ _
      refine rL [.e (v := .int .i64 (IntKind.i64.wrap (((k : Nat) : Int) + 1))) (v' := .int .i64 ((k + 1 : Nat) : Int)) (int_eq (wrapAdd_i64 (a := k) (b := 1) (by omega))), .v] H23 kr fun gs24 w24 H24 => ?_
      clear H23
      have HL7 : St w.heap.size w w24 [(b_5, Obj.cells cur_7 3 (0, 0)), ((gs21 1).b, Obj.cells #[.int .i64 ((Int.toNat ((((List.getD x k 0 : Nat) : Int) - ((List.getD y k 0 : Nat) : Int)) - ((c : Nat) : Int)) : Nat) : Int)] 3 (0, 0))] := H24.as kr
      clear H24
      have hS2 := hS.step ((((List.getD x k 0 : Nat) : Int) - ((List.getD y k 0 : Nat) : Int)) - ((c : Nat) : Int)) ((0 : Nat) : Int) (by omega) (by omega) (by omega) (by omega) (by unfold dAt; omega)
      have HD8 : St w.heap.size w w24 [(b_5, Obj.cells cur_7 3 (0, 0))] := HL7.sub (List.Sublist.cons_cons _ (List.Sublist.cons _ List.Sublist.slnil))
      show ∃ m, _ ∧ _
      exact ⟨_, (by omega), b_5, cap_6, n + 1, cur_7, l ++ [Int.toNat ((((List.getD x k 0 : Nat) : Int) - ((List.getD y k 0 : Nat) : Int)) - ((c : Nat) : Int))], k + 1, 0, rfl, (by rw [List.length_append, ← hn]; rfl), (by rw [cellsD_append]; exact hr_8), (by omega), hS2, HD8, (Is.of ⟨kr, kr, kr, kr, kr, kr, kr, trivial⟩)⟩
  · skip
    refine rS [.e (v := .bool (decide (((k : Nat) : Int) < ((List.length x : Nat) : Int)))) (v' := .bool false) (bool_eq (decide_eq_false (by omega)))] H5 kr fun gs25 w25 H25 => ?_
    clear H5
    refine g_seq kr ?_
    refine g_cond_f kr kr ?_
    refine g_exit 0 kr ?_
    show WP _ _ _ _ _ _
    refine rS [.v, .v] H25 kr fun gs26 w26 H26 => ?_
    clear H25
    refine g_ret kr ?_
    show ∃ vs, Res _ _ _ _ vs ∧ _
    refine ⟨[.slice (some ⟨b, 0, none⟩) n cap], (.tmp (.slice (some ⟨b, 0, none⟩) n cap) kr .nil), H26.below, ?_⟩
    obtain rfl : k = List.length x := by omega
    exact ⟨b, cap, _, _, l, rfl, H26.ge 0 (o := .cells cur 3 (0, 0)) kr, H26.get 0 kr, hn, hr, hok, hS.fin hx hy hle, hlen⟩
end Go.Proofs.YtmmloghbnpfedaaDoor

namespace Go.Proofs.YtmmloghbnpfedaaDoor
open Go Go.RowKit
set_option linter.unusedVariables false
set_option maxRecDepth 100000 in
set_option maxHeartbeats 2000000 in
theorem times_fn (x y : List Nat) (ba nx ca bb ny cb : Nat) (curA curB : Array Value) (hnx : nx = List.length x) (hny : ny = List.length y) (hA : Rw 1 curA ca nx (cellsD x)) (hB : Rw 1 curB cb ny (cellsD y)) (hx : Ok x) (hy : Ok y) (lx : List.length x ≤ 5000) (ly : List.length y ≤ 5000) : FnR Tryd.prog 58 #[.slice (some ⟨ba, 0, none⟩) nx ca, .slice (some ⟨bb, 0, none⟩) ny cb] (fun w => w.heap[ba]? = some (.cells curA 3 (0, 0)) ∧ w.heap[bb]? = some (.cells curB 3 (0, 0))) (RetS 3 1 (fun cur cap n l => (n = List.length l ∧ Rw 1 cur cap n (cellsD l) ∧ Ok l ∧ (vl l = vl x * vl y ∧ List.length l = List.length x + List.length y + 1)))) := by
  subst hnx hny
  refine FnR.intro (c := codeOf Tryd.f58) [.tmp 4] 60 Tryd.func58 kr kr kr fun w hpre => ?_
  have H0 := St.start w
  refine rS [.v] H0 kr fun gs1 w1 H1 => ?_
  clear H0
  refine g_sreg [0, 1, 2, 3, 4, 5, 6, 7] kr kr ?_
  refine rp [.v, .v, .v, .v, .e (v := .int .i64 (IntKind.i64.wrap (((List.length x : Nat) : Int) + ((List.length y : Nat) : Int)))) (v' := .int .i64 (((List.length x) + (List.length y) : Nat) : Int)) (int_eq (wrapAdd_i64 (a := List.length x) (b := List.length y) (by omega))), .e (v := .int .i64 (IntKind.i64.wrap ((((List.length x) + (List.length y) : Nat) : Int) + 1))) (v' := .int .i64 ((((List.length x) + (List.length y)) + 1 : Nat) : Int)) (int_eq (wrapAdd_i64 (a := (List.length x) + (List.length y)) (b := 1) (by omega)))] H1 kr fun gs2 w2 H2 => ?_
  show WPs _ _ _ _ [6, 7] _ _
  clear H1
  refine s_make H2 (some 16) 59 3 8 (.int .i64 0) (.tmp 15) (.tmp 15) .i64 .i64 (((List.length x) + (List.length y)) + 1) kr kr kr kr rfl kr kr (by omega) (by unfold maxLen; omega) ?_
  intro b_1 cur_2 w3 H3 hr_3; clear H2
  have hr_3z : Rw 1 cur_2 (((List.length x) + (List.length y)) + 1) (((List.length x) + (List.length y)) + 1) (cellsD (List.replicate (((List.length x) + (List.length y)) + 1) 0)) := by unfold cellsD; rw [List.map_replicate]; exact hr_3
  refine rp [.v] H3 kr fun gs4 w4 H4 => ?_
  show WPs _ _ _ _ [] _ _
  clear H3
  refine s_nil ?_
  refine g_seq kr ?_
  refine rS [.v, .v, .v] H4 kr fun gs5 w5 H5 => ?_
  clear H4
  refine g_block 0 kr ?_
  have HL1 : St w.heap.size w w5 [(b_1, Obj.cells cur_2 3 (0, 0))] := H5.as kr
  clear H5
  refine g_loop kr (fun mz ρ ww => ∃ (b : Nat) (cap : Nat) (n : Nat) (cur : Array Value) (l : List Nat) (i : Nat), List.length x + 1 - i = mz ∧ (n = List.length l) ∧ (Rw 1 cur cap n (cellsD l)) ∧ (i ≤ List.length x) ∧ (List.length l = List.length x + List.length y + 1) ∧ (Ok l) ∧ (vl l = vl (List.take i x) * vl y) ∧ St w.heap.size w ww [(b, Obj.cells cur 3 (0, 0))] ∧ Is [(0, .slice (some ⟨ba, 0, none⟩) (List.length x) ca), (1, .slice (some ⟨bb, 0, none⟩) (List.length y) cb), (4, .slice none 0 0), (5, .slice (some ⟨b, 0, none⟩) n cap), (18, .int .i64 ((List.length x : Nat) : Int)), (19, .int .i64 ((i : Nat) : Int))] ρ) (List.length x + 1 - 0) ⟨b_1, ((List.length x) + (List.length y)) + 1, ((List.length x) + (List.length y)) + 1, cur_2, (List.replicate (((List.length x) + (List.length y)) + 1) 0), 0, rfl, (by rw [List.length_replicate]), hr_3z, (by omega), (by rw [List.length_replicate]), (ok_zeros _), (by rw [vl_zeros]; simp [vl]), HL1, (Is.of ⟨kr, kr, kr, kr, kr, kr, trivial⟩)⟩ ?_
  clear HL1
  rintro _ _ w6 ⟨b, cap, n, cur, l, i, rfl, hn, hr, hi, hl, hok, hv, H6, _, rfl⟩
  by_cases hc2 : (i : Nat) < List.length x
  · skip
    refine rS [.e (v := .bool (decide (((i : Nat) : Int) < ((List.length x : Nat) : Int)))) (v' := .bool true) (bool_eq (decide_eq_true (by omega)))] H6 kr fun gs7 w7 H7 => ?_
    clear H6
    refine g_seq kr ?_
    refine g_cond_t kr kr ?_
    refine g_skip kr ?_
    show WP _ _ _ _ _ _
    refine g_seq kr ?_
    refine g_block 1 kr ?_
    refine rS [.v, .v] H7 kr fun gs8 w8 H8 => ?_
    clear H7
    refine rS [.v] H8 kr fun gs9 w9 H9 => ?_
    clear H8
    refine rS [.v] H9 kr fun gs10 w10 H10 => ?_
    clear H9
    refine g_block 2 kr ?_
    have HL3 : St w.heap.size w w10 [(b, Obj.cells cur 3 (0, 0))] := H10.as kr
    clear H10
    refine g_loop kr (fun mz ρ ww => ∃ (b2 : Nat) (cap2 : Nat) (n2 : Nat) (cur2 : Array Value) (l2 : List Nat) (k : Nat) (c : Nat), List.length y + 2 - k = mz ∧ (n2 = List.length l2) ∧ (Rw 1 cur2 cap2 n2 (cellsD l2)) ∧ (MulI x y l2 i k c) ∧ St w.heap.size w ww [(b2, Obj.cells cur2 3 (0, 0))] ∧ Is [(0, .slice (some ⟨ba, 0, none⟩) (List.length x) ca), (1, .slice (some ⟨bb, 0, none⟩) (List.length y) cb), (4, .slice none 0 0), (5, .slice (some ⟨b2, 0, none⟩) n2 cap2), (6, .int .i64 ((i : Nat) : Int)), (7, .int .i64 ((c : Nat) : Int)), (8, .int .i64 ((k : Nat) : Int)), (18, .int .i64 ((List.length x : Nat) : Int)), (19, .int .i64 ((i : Nat) : Int)), (20, .bool true)] ρ) (List.length y + 2 - 0) ⟨b, cap, n, cur, l, 0, 0, rfl, hn, hr, (MulI.start hl hok (by omega) hv), HL3, (Is.of ⟨kr, kr, kr, kr, kr, kr, kr, kr, kr, kr, trivial⟩)⟩ ?_
    clear HL3
    rintro _ _ w11 ⟨b2, cap2, n2, cur2, l2, k, c, rfl, hn2, hr2, hM, H11, _, rfl⟩
    have hcw := hM.cw; have htop := hM.top; have hii := hM.hi; have hlen2 := hM.len; have ho := ok_getD hM.ok (i + k); have hxi := ok_getD hx i; have hyk := ok_getD hy k
    have hm : List.getD x i 0 * List.getD y k 0 ≤ 65535 * 65535 := Nat.mul_le_mul (by omega) (by omega)
    refine g_seq kr ?_
    refine g_sreg [0, 1, 2, 3, 4, 5, 6, 7] kr kr ?_
    refine rp [.v, .v, .v] H11 kr fun gs12 w12 H12 => ?_
    show WPs _ _ _ _ [3, 4, 5, 6, 7] _ _
    clear H11
    by_cases hc4 : (k : Nat) < List.length y
    · skip
      refine rp [.e (v := .bool (decide (((k : Nat) : Int) < ((List.length y : Nat) : Int)))) (v' := .bool true) (bool_eq (decide_eq_true (by omega))), .v, .n, .n, .v] H12 kr fun gs13 w13 H13 => ?_
      show WPs _ _ _ _ [] _ _
      clear H12
      refine s_nil ?_
      refine g_keep [0, 1, 4, 5, 6, 7, 8, 18, 19, 20, 29] fun ρ1 => ?_
      have HK5 := H13.keep
      clear H13
      refine g_cond_t kr kr ?_
      refine g_skip kr ?_
      show WP _ _ _ _ _ _
      refine g_seq kr ?_
      refine g_block 3 kr ?_
      obtain ⟨hij, hM2⟩ := hM.next hx hy (by omega)
      refine dS [.v, .v, .v, .e (v := .int .i64 (IntKind.i64.wrap (((i : Nat) : Int) + ((k : Nat) : Int)))) (v' := .int .i64 ((i + k : Nat) : Int)) (int_eq (wrapAdd_i64 (a := i) (b := k) (by omega))), .o (ins := [((.tmp 32), .slice (some ⟨b2, 0, none⟩) n2 cap2), ((.tmp 35), .int .i64 ((i + k : Nat) : Int))]) (v := .pointer (some ⟨b2, 0 + (i + k) * 1, none⟩)) (fun ρ o w ho hi => idxS_run (kd := .i64) (t := 59) (e := 3) (size := 1) (bytes := 8) kr (x := (.tmp 32)) (y := (.tmp 35)) b2 0 n2 cap2 (i + k) ho hi.1 hi.2.1 (by omega) w), .ls (C := cur2) (off := 0 + (i + k) * 1) (v := .int .i64 ((List.getD l2 (i + k) 0 : Nat) : Int)) 0 (hr2.atD (by omega) hn2), .v, .v, .o (ins := [((.tmp 38), .slice (some ⟨ba, 0, none⟩) (List.length x) ca), ((.tmp 39), .int .i64 ((i : Nat) : Int))]) (v := .pointer (some ⟨ba, 0 + i * 1, none⟩)) (fun ρ o w ho hi => idxS_run (kd := .i64) (t := 60) (e := 3) (size := 1) (bytes := 8) kr (x := (.tmp 38)) (y := (.tmp 39)) ba 0 (List.length x) ca i ho hi.1 hi.2.1 (by omega) w), .fs (off := 0 + i * 1) (v := .int .i64 ((List.getD x i 0 : Nat) : Int)) hpre.1 (lt_of_heap hpre.1) (hA.atD (by omega) rfl), .v, .v, .cp (pre := fun w => w.heap[bb]? = some (.cells curB 3 (0, 0))) (digit_fn y bb (List.length y) cb curB rfl hB (by omega) k (by omega)) [] (fun w hb hd => ((hb.block _ (lt_of_heap hpre.2)).trans hpre.2)), .e (v := .int .i64 (IntKind.i64.wrap (((List.getD x i 0 : Nat) : Int) * ((List.getD y k 0 : Nat) : Int)))) (v' := .int .i64 (((List.getD x i 0) * (List.getD y k 0) : Nat) : Int)) (int_eq (wrapMul_i64 (a := List.getD x i 0) (b := List.getD y k 0) (by omega))), .e (v := .int .i64 (IntKind.i64.wrap (((List.getD l2 (i + k) 0 : Nat) : Int) + (((List.getD x i 0) * (List.getD y k 0) : Nat) : Int)))) (v' := .int .i64 (((List.getD l2 (i + k) 0) + ((List.getD x i 0) * (List.getD y k 0)) : Nat) : Int)) (int_eq (wrapAdd_i64 (a := List.getD l2 (i + k) 0) (b := (List.getD x i 0) * (List.getD y k 0)) (by omega))), .v, .e (v := .int .i64 (IntKind.i64.wrap ((((List.getD l2 (i + k) 0) + ((List.getD x i 0) * (List.getD y k 0)) : Nat) : Int) + ((c : Nat) : Int)))) (v' := .int .i64 ((((List.getD l2 (i + k) 0) + ((List.getD x i 0) * (List.getD y k 0))) + c : Nat) : Int)) (int_eq (wrapAdd_i64 (a := (List.getD l2 (i + k) 0) + ((List.getD x i 0) * (List.getD y k 0))) (b := c) (by omega))), .v] HK5 kr fun w14 H14 => ?_
      clear HK5
      refine g_keep [0, 1, 4, 5, 6, 7, 8, 9, 18, 19, 20, 29] fun ρ2 => ?_
      have HK6 := H14.keep
      clear H14
      refine g_sreg [0, 1, 2, 3, 4, 5, 6, 7] kr kr ?_
      refine rp [.v, .v, .v, .e (v := .int .i64 (IntKind.i64.wrap (((i : Nat) : Int) + ((k : Nat) : Int)))) (v' := .int .i64 ((i + k : Nat) : Int)) (int_eq (wrapAdd_i64 (a := i) (b := k) (by omega))), .v, .e (v := .int .i64 (Int.tmod ((((List.getD l2 (i + k) 0) + ((List.getD x i 0) * (List.getD y k 0))) + c : Nat) : Int) 65536)) (v' := .int .i64 (((((List.getD l2 (i + k) 0) + ((List.getD x i 0) * (List.getD y k 0))) + c) % 65536 : Nat) : Int)) (int_eq (remN (((List.getD l2 (i + k) 0) + ((List.getD x i 0) * (List.getD y k 0))) + c) 65536)), .o (ins := [((.tmp 49), .slice (some ⟨b2, 0, none⟩) n2 cap2), ((.tmp 52), .int .i64 ((i + k : Nat) : Int))]) (v := .pointer (some ⟨b2, 0 + (i + k) * 1, none⟩)) (fun ρ o w ho hi => idxS_run (kd := .i64) (t := 59) (e := 3) (size := 1) (bytes := 8) kr (x := (.tmp 49)) (y := (.tmp 52)) b2 0 n2 cap2 (i + k) ho hi.1 hi.2.1 (by omega) w)] HK6 kr fun gs15 w15 H15 => ?_
      show WPs _ _ _ _ [7] _ _
      clear HK6
      obtain ⟨cur_4, hc_5, hs_6, hr_7⟩ := hr2.put (i + k) ((((List.getD l2 (i + k) 0) + ((List.getD x i 0) * (List.getD y k 0))) + c) % 65536) (by omega)
      refine rp [.se (C := cur2) (C' := cur_4) (off := 0 + (i + k) * 1) (v := .int .i64 (((((List.getD l2 (i + k) 0) + ((List.getD x i 0) * (List.getD y k 0))) + c) % 65536 : Nat) : Int)) 0 hs_6 hc_5] H15 kr fun gs16 w16 H16 => ?_
      show WPs _ _ _ _ [] _ _
      clear H15
      refine s_nil ?_
      refine rL [.v, .e (v := .int .i64 (IntKind.i64.wrap (((((List.getD l2 (i + k) 0) + ((List.getD x i 0) * (List.getD y k 0))) + c : Nat) : Int).tdiv 65536))) (v' := .int .i64 (((((List.getD l2 (i + k) 0) + ((List.getD x i 0) * (List.getD y k 0))) + c) / 65536 : Nat) : Int)) (int_eq (quoN_i64 (a := ((List.getD l2 (i + k) 0) + ((List.getD x i 0) * (List.getD y k 0))) + c) (b := 65536) (by omega))), .v] H16 kr fun gs17 w17 H17 => ?_
      clear H16
      show WP _ _ _ _ _ _
      refine rL [.v, .e (v := .int .i64 (IntKind.i64.wrap (((k : Nat) : Int) + 1))) (v' := .int .i64 ((k + 1 : Nat) : Int)) (int_eq (wrapAdd_i64 (a := k) (b := 1) (by omega))), .v] H17 kr fun gs18 w18 H18 => ?_
      clear H17
      have HL7 : St w.heap.size w w18 [(b2, Obj.cells cur_4 3 (0, 0))] := H18.as kr
      clear H18
      show ∃ m, _ ∧ _
      exact ⟨_, (by have := hM2.top; omega), b2, cap2, n2, cur_4, (List.set l2 (i + k) ((((List.getD l2 (i + k) 0) + ((List.getD x i 0) * (List.getD y k 0))) + c) % 65536)), k + 1, (List.getD l2 (i + k) 0 + List.getD x i 0 * List.getD y k 0 + c) / 65536, rfl, (by rw [List.length_set]; exact hn2), hr_7, hM2, HL7, (Is.of ⟨kr, kr, kr, kr, kr, kr, kr, kr, kr, kr, trivial⟩)⟩
    · skip
      refine rp [.e (v := .bool (decide (((k : Nat) : Int) < ((List.length y : Nat) : Int)))) (v' := .bool false) (bool_eq (decide_eq_false (by omega))), .v, .v] H12 kr fun gs19 w19 H19 => ?_
      show WPs _ _ _ _ [6, 7] _ _
      clear H12
      by_cases hc8 : (c : Nat) > 0
      · skip
        refine rp [.e (v := .bool (decide (0 < ((c : Nat) : Int)))) (v' := .bool true) (bool_eq (decide_eq_true (by omega))), .v] H19 kr fun gs20 w20 H20 => ?_
        show WPs _ _ _ _ [] _ _
        clear H19
        refine s_nil ?_
        refine g_keep [0, 1, 4, 5, 6, 7, 8, 18, 19, 20, 29] fun ρ3 => ?_
        have HK9 := H20.keep
        clear H20
        refine g_cond_t kr kr ?_
        refine g_skip kr ?_
        show WP _ _ _ _ _ _
        refine g_seq kr ?_
        refine g_block 3 kr ?_
        obtain ⟨hij, hM2⟩ := hM.next hx hy (by omega)
        refine dS [.v, .v, .v, .e (v := .int .i64 (IntKind.i64.wrap (((i : Nat) : Int) + ((k : Nat) : Int)))) (v' := .int .i64 ((i + k : Nat) : Int)) (int_eq (wrapAdd_i64 (a := i) (b := k) (by omega))), .o (ins := [((.tmp 32), .slice (some ⟨b2, 0, none⟩) n2 cap2), ((.tmp 35), .int .i64 ((i + k : Nat) : Int))]) (v := .pointer (some ⟨b2, 0 + (i + k) * 1, none⟩)) (fun ρ o w ho hi => idxS_run (kd := .i64) (t := 59) (e := 3) (size := 1) (bytes := 8) kr (x := (.tmp 32)) (y := (.tmp 35)) b2 0 n2 cap2 (i + k) ho hi.1 hi.2.1 (by omega) w), .ls (C := cur2) (off := 0 + (i + k) * 1) (v := .int .i64 ((List.getD l2 (i + k) 0 : Nat) : Int)) 0 (hr2.atD (by omega) hn2), .v, .v, .o (ins := [((.tmp 38), .slice (some ⟨ba, 0, none⟩) (List.length x) ca), ((.tmp 39), .int .i64 ((i : Nat) : Int))]) (v := .pointer (some ⟨ba, 0 + i * 1, none⟩)) (fun ρ o w ho hi => idxS_run (kd := .i64) (t := 60) (e := 3) (size := 1) (bytes := 8) kr (x := (.tmp 38)) (y := (.tmp 39)) ba 0 (List.length x) ca i ho hi.1 hi.2.1 (by omega) w), .fs (off := 0 + i * 1) (v := .int .i64 ((List.getD x i 0 : Nat) : Int)) hpre.1 (lt_of_heap hpre.1) (hA.atD (by omega) rfl), .v, .v, .cp (pre := fun w => w.heap[bb]? = some (.cells curB 3 (0, 0))) (digit_fn y bb (List.length y) cb curB rfl hB (by omega) k (by omega)) [] (fun w hb hd => ((hb.block _ (lt_of_heap hpre.2)).trans hpre.2)), .e (v := .int .i64 (IntKind.i64.wrap (((List.getD x i 0 : Nat) : Int) * ((List.getD y k 0 : Nat) : Int)))) (v' := .int .i64 (((List.getD x i 0) * (List.getD y k 0) : Nat) : Int)) (int_eq (wrapMul_i64 (a := List.getD x i 0) (b := List.getD y k 0) (by omega))), .e (v := .int .i64 (IntKind.i64.wrap (((List.getD l2 (i + k) 0 : Nat) : Int) + (((List.getD x i 0) * (List.getD y k 0) : Nat) : Int)))) (v' := .int .i64 (((List.getD l2 (i + k) 0) + ((List.getD x i 0) * (List.getD y k 0)) : Nat) : Int)) (int_eq (wrapAdd_i64 (a := List.getD l2 (i + k) 0) (b := (List.getD x i 0) * (List.getD y k 0)) (by omega))), .v, .e (v := .int .i64 (IntKind.i64.wrap ((((List.getD l2 (i + k) 0) + ((List.getD x i 0) * (List.getD y k 0)) : Nat) : Int) + ((c : Nat) : Int)))) (v' := .int .i64 ((((List.getD l2 (i + k) 0) + ((List.getD x i 0) * (List.getD y k 0))) + c : Nat) : Int)) (int_eq (wrapAdd_i64 (a := (List.getD l2 (i + k) 0) + ((List.getD x i 0) * (List.getD y k 0))) (b := c) (by omega))), .v] HK9 kr fun w21 H21 => ?_
        clear HK9
        refine g_keep [0, 1, 4, 5, 6, 7, 8, 9, 18, 19, 20, 29] fun ρ4 => ?_
        have HK10 := H21.keep
        clear H21
        refine g_sreg [0, 1, 2, 3, 4, 5, 6, 7] kr kr ?_
        refine rp [.v, .v, .v, .e (v := .int .i64 (IntKind.i64.wrap (((i : Nat) : Int) + ((k : Nat) : Int)))) (v' := .int .i64 ((i + k : Nat) : Int)) (int_eq (wrapAdd_i64 (a := i) (b := k) (by omega))), .v, .e (v := .int .i64 (Int.tmod ((((List.getD l2 (i + k) 0) + ((List.getD x i 0) * (List.getD y k 0))) + c : Nat) : Int) 65536)) (v' := .int .i64 (((((List.getD l2 (i + k) 0) + ((List.getD x i 0) * (List.getD y k 0))) + c) % 65536 : Nat) : Int)) (int_eq (remN (((List.getD l2 (i + k) 0) + ((List.getD x i 0) * (List.getD y k 0))) + c) 65536)), .o (ins := [((.tmp 49), .slice (some ⟨b2, 0, none⟩) n2 cap2), ((.tmp 52), .int .i64 ((i + k : Nat) : Int))]) (v := .pointer (some ⟨b2, 0 + (i + k) * 1, none⟩)) (fun ρ o w ho hi => idxS_run (kd := .i64) (t := 59) (e := 3) (size := 1) (bytes := 8) kr (x := (.tmp 49)) (y := (.tmp 52)) b2 0 n2 cap2 (i + k) ho hi.1 hi.2.1 (by omega) w)] HK10 kr fun gs22 w22 H22 => ?_
        show WPs _ _ _ _ [7] _ _
        clear HK10
        obtain ⟨cur_8, hc_9, hs_10, hr_11⟩ := hr2.put (i + k) ((((List.getD l2 (i + k) 0) + ((List.getD x i 0) * (List.getD y k 0))) + c) % 65536) (by omega)
        refine rp [.se (C := cur2) (C' := cur_8) (off := 0 + (i + k) * 1) (v := .int .i64 (((((List.getD l2 (i + k) 0) + ((List.getD x i 0) * (List.getD y k 0))) + c) % 65536 : Nat) : Int)) 0 hs_10 hc_9] H22 kr fun gs23 w23 H23 => ?_
        show WPs _ _ _ _ [] _ _
        clear H22
        refine s_nil ?_
        refine rL [.v, .e (v := .int .i64 (IntKind.i64.wrap (((((List.getD l2 (i + k) 0) + ((List.getD x i 0) * (List.getD y k 0))) + c : Nat) : Int).tdiv 65536))) (v' := .int .i64 (((((List.getD l2 (i + k) 0) + ((List.getD x i 0) * (List.getD y k 0))) + c) / 65536 : Nat) : Int)) (int_eq (quoN_i64 (a := ((List.getD l2 (i + k) 0) + ((List.getD x i 0) * (List.getD y k 0))) + c) (b := 65536) (by omega))), .v] H23 kr fun gs24 w24 H24 => ?_
        clear H23
        show WP _ _ _ _ _ _
        refine rL [.v, .e (v := .int .i64 (IntKind.i64.wrap (((k : Nat) : Int) + 1))) (v' := .int .i64 ((k + 1 : Nat) : Int)) (int_eq (wrapAdd_i64 (a := k) (b := 1) (by omega))), .v] H24 kr fun gs25 w25 H25 => ?_
        clear H24
        have HL11 : St w.heap.size w w25 [(b2, Obj.cells cur_8 3 (0, 0))] := H25.as kr
        clear H25
        show ∃ m, _ ∧ _
        exact ⟨_, (by have := hM2.top; omega), b2, cap2, n2, cur_8, (List.set l2 (i + k) ((((List.getD l2 (i + k) 0) + ((List.getD x i 0) * (List.getD y k 0))) + c) % 65536)), k + 1, (List.getD l2 (i + k) 0 + List.getD x i 0 * List.getD y k 0 + c) / 65536, rfl, (by rw [List.length_set]; exact hn2), hr_11, hM2, HL11, (Is.of ⟨kr, kr, kr, kr, kr, kr, kr, kr, kr, kr, trivial⟩)⟩
      · skip
        refine rp [.e (v := .bool (decide (0 < ((c : Nat) : Int)))) (v' := .bool false) (bool_eq (decide_eq_false (by omega))), .v] H19 kr fun gs26 w26 H26 => ?_
        show WPs _ _ _ _ [] _ _
        clear H19
        refine s_nil ?_
        refine g_keep [0, 1, 4, 5, 6, 7, 8, 18, 19, 20, 29] fun ρ5 => ?_
        have HK12 := H26.keep
        clear H26
        refine g_cond_f kr kr ?_
        refine g_exit 2 kr ?_
        show WP _ _ _ _ _ _
        refine rL [.e (v := .int .i64 (IntKind.i64.wrap (((i : Nat) : Int) + 1))) (v' := .int .i64 ((i + 1 : Nat) : Int)) (int_eq (wrapAdd_i64 (a := i) (b := 1) (by omega))), .v] HK12 kr fun gs27 w27 H27 => ?_
        clear HK12
        have HL13 : St w.heap.size w w27 [(b2, Obj.cells cur2 3 (0, 0))] := H27.as kr
        clear H27
        show ∃ m, _ ∧ _
        exact ⟨_, (by omega), b2, cap2, n2, cur2, l2, i + 1, rfl, hn2, hr2, (by omega), hM.len, hM.ok, (hM.fin (by omega) (by omega)), HL13, (Is.of ⟨kr, kr, kr, kr, kr, kr, trivial⟩)⟩
  · skip
    refine rS [.e (v := .bool (decide (((i : Nat) : Int) < ((List.length x : Nat) : Int)))) (v' := .bool false) (bool_eq (decide_eq_false (by omega)))] H6 kr fun gs28 w28 H28 => ?_
    clear H6
    refine g_seq kr ?_
    refine g_cond_f kr kr ?_
    refine g_exit 0 kr ?_
    show WP _ _ _ _ _ _
    refine rS [.v, .v] H28 kr fun gs29 w29 H29 => ?_
    clear H28
    refine g_ret kr ?_
    show ∃ vs, Res _ _ _ _ vs ∧ _
    refine ⟨[.slice (some ⟨b, 0, none⟩) n cap], (.tmp (.slice (some ⟨b, 0, none⟩) n cap) kr .nil), H29.below, ?_⟩
    obtain rfl : i = List.length x := by omega
    exact ⟨b, cap, _, _, l, rfl, H29.ge 0 (o := .cells cur 3 (0, 0)) kr, H29.get 0 kr, hn, hr, hok, by rw [hv, List.take_of_length_le (Nat.le_refl _)], hl⟩
end Go.Proofs.YtmmloghbnpfedaaDoor

namespace Go.Proofs.YtmmloghbnpfedaaDoor
open Go Go.RowKit
set_option linter.unusedVariables false
set_option maxRecDepth 100000 in
set_option maxHeartbeats 2000000 in
theorem to_fn (x : List Nat) (ba nx ca : Nat) (curA : Array Value) (hnx : nx = List.length x) (hA : Rw 1 curA ca nx (cellsD x)) (lx : List.length x ≤ 100000) (hx : Ok x) : FnP Tryd.prog 77 #[.slice (some ⟨ba, 0, none⟩) nx ca] (fun w => w.heap[ba]? = some (.cells curA 3 (0, 0))) (uv (vl x % big)) := by
  subst hnx
  have hd0 := ok_getD hx 0
  have hd1 := ok_getD hx 1
  have hd2 := ok_getD hx 2
  have hd3 := ok_getD hx 3
  have hd4 := ok_getD hx 4
  have hd5 := ok_getD hx 5
  have hd6 := ok_getD hx 6
  have hd7 := ok_getD hx 7
  have hd8 := ok_getD hx 8
  have hd9 := ok_getD hx 9
  have hd10 := ok_getD hx 10
  have hd11 := ok_getD hx 11
  have hd12 := ok_getD hx 12
  have hd13 := ok_getD hx 13
  have hd14 := ok_getD hx 14
  have hd15 := ok_getD hx 15
  refine FnP.intro (c := codeOf Tryd.f77) [.cell 2 24] 24 Tryd.func77 kr kr kr fun w hpre => ?_
  have H0 := St.start w
  refine rS [.a] H0 kr fun gs1 w1 H1 => ?_
  clear H0
  refine rS [.v, .a, .s 1] H1 kr fun gs2 w2 H2 => ?_
  clear H1
  refine g_seq kr ?_
  refine rS [.v] H2 kr fun gs3 w3 H3 => ?_
  clear H2
  refine g_block 0 kr ?_
  have HL1 : St w.heap.size w w3 [((gs1 0).b, Obj.cells #[.int .u64 0, .int .u64 0, .int .u64 0, .int .u64 0] 24 (0, 0)), ((gs2 1).b, Obj.cells #[.int .u64 0, .int .u64 0, .int .u64 0, .int .u64 0] 24 (0, 0))] := H3.as kr
  clear H3
  refine g_first kr ?_
  refine g_seq kr ?_
  refine rS [.v, .v] HL1 kr fun gs4 w4 H4 => ?_
  clear HL1
  refine g_cond_t kr kr ?_
  refine g_skip kr ?_
  show WP _ _ _ _ _ _
  refine g_seq kr ?_
  refine g_block 1 kr ?_
  refine dL [.v, .v, .v, .v, .v, .l 1, .v, .v, .v, .cp (pre := fun w => w.heap[ba]? = some (.cells curA 3 (0, 0))) (digit_fn x ba (List.length x) ca curA rfl hA (by omega) 15 (by omega)) [] (fun w hb hd => ((hb.block _ (lt_of_heap hpre)).trans hpre)), .e (v := .int .u64 (IntKind.u64.wrap (((List.getD x 15 0 : Nat) : Int)))) (v' := .int .u64 ((List.getD x 15 0 : Nat) : Int)) (int_eq (wrapN_u64 (a := List.getD x 15 0) (by omega))), .e (v := .int .u64 (IntKind.u64.wrap (0 + ((List.getD x 15 0 : Nat) : Int)))) (v' := .int .u64 ((List.getD x 15 0 : Nat) : Int)) (int_eq (show IntKind.u64.wrap ((0 : Int) + ((List.getD x 15 0 : Nat) : Int)) = _ by rw [Int.zero_add]; exact wrapN_u64 (by omega))), .v, .s 1] H4 kr fun w5 H5 => ?_
  clear H4
  show WP _ _ _ _ _ _
  refine g_keep [0, 2, 3, 4, 7] fun ρ1 => ?_
  have HK2 := H5.keep
  clear H5
  refine rL [.v, .v, .v] HK2 kr fun gs6 w6 H6 => ?_
  clear HK2
  show WPL _ _ _ _ _ _
  refine g_next ?_
  refine g_seq kr ?_
  refine rS [.v, .v] H6 kr fun gs7 w7 H7 => ?_
  clear H6
  refine g_cond_t kr kr ?_
  refine g_skip kr ?_
  show WP _ _ _ _ _ _
  refine g_seq kr ?_
  refine g_block 1 kr ?_
  refine dL [.v, .v, .v, .v, .v, .l 1, .e (v := .int .u64 (IntKind.u64.wrap (((List.getD x 15 0 : Nat) : Int) * 65536))) (v' := .int .u64 (((List.getD x 15 0) * 65536 : Nat) : Int)) (int_eq (wrapMul_u64 (a := List.getD x 15 0) (b := 65536) (by omega))), .v, .v, .cp (pre := fun w => w.heap[ba]? = some (.cells curA 3 (0, 0))) (digit_fn x ba (List.length x) ca curA rfl hA (by omega) 14 (by omega)) [] (fun w hb hd => ((hb.block _ (lt_of_heap hpre)).trans hpre)), .e (v := .int .u64 (IntKind.u64.wrap (((List.getD x 14 0 : Nat) : Int)))) (v' := .int .u64 ((List.getD x 14 0 : Nat) : Int)) (int_eq (wrapN_u64 (a := List.getD x 14 0) (by omega))), .e (v := .int .u64 (IntKind.u64.wrap ((((List.getD x 15 0) * 65536 : Nat) : Int) + ((List.getD x 14 0 : Nat) : Int)))) (v' := .int .u64 ((((List.getD x 15 0) * 65536) + (List.getD x 14 0) : Nat) : Int)) (int_eq (wrapAdd_u64 (a := (List.getD x 15 0) * 65536) (b := List.getD x 14 0) (by omega))), .v, .s 1] H7 kr fun w8 H8 => ?_
  clear H7
  show WP _ _ _ _ _ _
  refine g_keep [0, 2, 3, 4, 7] fun ρ2 => ?_
  have HK3 := H8.keep
  clear H8
  refine rL [.v, .v, .v] HK3 kr fun gs9 w9 H9 => ?_
  clear HK3
  show WPL _ _ _ _ _ _
  refine g_next ?_
  refine g_seq kr ?_
  refine rS [.v, .v] H9 kr fun gs10 w10 H10 => ?_
  clear H9
  refine g_cond_t kr kr ?_
  refine g_skip kr ?_
  show WP _ _ _ _ _ _
  refine g_seq kr ?_
  refine g_block 1 kr ?_
  refine dL [.v, .v, .v, .v, .v, .l 1, .e (v := .int .u64 (IntKind.u64.wrap (((((List.getD x 15 0) * 65536) + (List.getD x 14 0) : Nat) : Int) * 65536))) (v' := .int .u64 (((((List.getD x 15 0) * 65536) + (List.getD x 14 0)) * 65536 : Nat) : Int)) (int_eq (wrapMul_u64 (a := ((List.getD x 15 0) * 65536) + (List.getD x 14 0)) (b := 65536) (by omega))), .v, .v, .cp (pre := fun w => w.heap[ba]? = some (.cells curA 3 (0, 0))) (digit_fn x ba (List.length x) ca curA rfl hA (by omega) 13 (by omega)) [] (fun w hb hd => ((hb.block _ (lt_of_heap hpre)).trans hpre)), .e (v := .int .u64 (IntKind.u64.wrap (((List.getD x 13 0 : Nat) : Int)))) (v' := .int .u64 ((List.getD x 13 0 : Nat) : Int)) (int_eq (wrapN_u64 (a := List.getD x 13 0) (by omega))), .e (v := .int .u64 (IntKind.u64.wrap ((((((List.getD x 15 0) * 65536) + (List.getD x 14 0)) * 65536 : Nat) : Int) + ((List.getD x 13 0 : Nat) : Int)))) (v' := .int .u64 ((((((List.getD x 15 0) * 65536) + (List.getD x 14 0)) * 65536) + (List.getD x 13 0) : Nat) : Int)) (int_eq (wrapAdd_u64 (a := (((List.getD x 15 0) * 65536) + (List.getD x 14 0)) * 65536) (b := List.getD x 13 0) (by omega))), .v, .s 1] H10 kr fun w11 H11 => ?_
  clear H10
  show WP _ _ _ _ _ _
  refine g_keep [0, 2, 3, 4, 7] fun ρ3 => ?_
  have HK4 := H11.keep
  clear H11
  refine rL [.v, .v, .v] HK4 kr fun gs12 w12 H12 => ?_
  clear HK4
  show WPL _ _ _ _ _ _
  refine g_next ?_
  refine g_seq kr ?_
  refine rS [.v, .v] H12 kr fun gs13 w13 H13 => ?_
  clear H12
  refine g_cond_t kr kr ?_
  refine g_skip kr ?_
  show WP _ _ _ _ _ _
  refine g_seq kr ?_
  refine g_block 1 kr ?_
  refine dL [.v, .v, .v, .v, .v, .l 1, .e (v := .int .u64 (IntKind.u64.wrap (((((((List.getD x 15 0) * 65536) + (List.getD x 14 0)) * 65536) + (List.getD x 13 0) : Nat) : Int) * 65536))) (v' := .int .u64 (((((((List.getD x 15 0) * 65536) + (List.getD x 14 0)) * 65536) + (List.getD x 13 0)) * 65536 : Nat) : Int)) (int_eq (wrapMul_u64 (a := ((((List.getD x 15 0) * 65536) + (List.getD x 14 0)) * 65536) + (List.getD x 13 0)) (b := 65536) (by omega))), .v, .v, .cp (pre := fun w => w.heap[ba]? = some (.cells curA 3 (0, 0))) (digit_fn x ba (List.length x) ca curA rfl hA (by omega) 12 (by omega)) [] (fun w hb hd => ((hb.block _ (lt_of_heap hpre)).trans hpre)), .e (v := .int .u64 (IntKind.u64.wrap (((List.getD x 12 0 : Nat) : Int)))) (v' := .int .u64 ((List.getD x 12 0 : Nat) : Int)) (int_eq (wrapN_u64 (a := List.getD x 12 0) (by omega))), .e (v := .int .u64 (IntKind.u64.wrap ((((((((List.getD x 15 0) * 65536) + (List.getD x 14 0)) * 65536) + (List.getD x 13 0)) * 65536 : Nat) : Int) + ((List.getD x 12 0 : Nat) : Int)))) (v' := .int .u64 ((((((((List.getD x 15 0) * 65536) + (List.getD x 14 0)) * 65536) + (List.getD x 13 0)) * 65536) + (List.getD x 12 0) : Nat) : Int)) (int_eq (wrapAdd_u64 (a := (((((List.getD x 15 0) * 65536) + (List.getD x 14 0)) * 65536) + (List.getD x 13 0)) * 65536) (b := List.getD x 12 0) (by omega))), .v, .s 1] H13 kr fun w14 H14 => ?_
  clear H13
  show WP _ _ _ _ _ _
  refine g_keep [0, 2, 3, 4, 7] fun ρ4 => ?_
  have HK5 := H14.keep
  clear H14
  refine rL [.v, .v, .v] HK5 kr fun gs15 w15 H15 => ?_
  clear HK5
  show WPL _ _ _ _ _ _
  refine g_next ?_
  refine g_seq kr ?_
  refine rS [.v, .v] H15 kr fun gs16 w16 H16 => ?_
  clear H15
  refine g_cond_t kr kr ?_
  refine g_skip kr ?_
  show WP _ _ _ _ _ _
  refine g_seq kr ?_
  refine g_block 1 kr ?_
  refine dL [.v, .v, .v, .v, .v, .l 1, .v, .v, .v, .cp (pre := fun w => w.heap[ba]? = some (.cells curA 3 (0, 0))) (digit_fn x ba (List.length x) ca curA rfl hA (by omega) 11 (by omega)) [] (fun w hb hd => ((hb.block _ (lt_of_heap hpre)).trans hpre)), .e (v := .int .u64 (IntKind.u64.wrap (((List.getD x 11 0 : Nat) : Int)))) (v' := .int .u64 ((List.getD x 11 0 : Nat) : Int)) (int_eq (wrapN_u64 (a := List.getD x 11 0) (by omega))), .e (v := .int .u64 (IntKind.u64.wrap (0 + ((List.getD x 11 0 : Nat) : Int)))) (v' := .int .u64 ((List.getD x 11 0 : Nat) : Int)) (int_eq (show IntKind.u64.wrap ((0 : Int) + ((List.getD x 11 0 : Nat) : Int)) = _ by rw [Int.zero_add]; exact wrapN_u64 (by omega))), .v, .s 1] H16 kr fun w17 H17 => ?_
  clear H16
  show WP _ _ _ _ _ _
  refine g_keep [0, 2, 3, 4, 7] fun ρ5 => ?_
  have HK6 := H17.keep
  clear H17
  refine rL [.v, .v, .v] HK6 kr fun gs18 w18 H18 => ?_
  clear HK6
  show WPL _ _ _ _ _ _
  refine g_next ?_
  refine g_seq kr ?_
  refine rS [.v, .v] H18 kr fun gs19 w19 H19 => ?_
  clear H18
  refine g_cond_t kr kr ?_
  refine g_skip kr ?_
  show WP _ _ _ _ _ _
  refine g_seq kr ?_
  refine g_block 1 kr ?_
  refine dL [.v, .v, .v, .v, .v, .l 1, .e (v := .int .u64 (IntKind.u64.wrap (((List.getD x 11 0 : Nat) : Int) * 65536))) (v' := .int .u64 (((List.getD x 11 0) * 65536 : Nat) : Int)) (int_eq (wrapMul_u64 (a := List.getD x 11 0) (b := 65536) (by omega))), .v, .v, .cp (pre := fun w => w.heap[ba]? = some (.cells curA 3 (0, 0))) (digit_fn x ba (List.length x) ca curA rfl hA (by omega) 10 (by omega)) [] (fun w hb hd => ((hb.block _ (lt_of_heap hpre)).trans hpre)), .e (v := .int .u64 (IntKind.u64.wrap (((List.getD x 10 0 : Nat) : Int)))) (v' := .int .u64 ((List.getD x 10 0 : Nat) : Int)) (int_eq (wrapN_u64 (a := List.getD x 10 0) (by omega))), .e (v := .int .u64 (IntKind.u64.wrap ((((List.getD x 11 0) * 65536 : Nat) : Int) + ((List.getD x 10 0 : Nat) : Int)))) (v' := .int .u64 ((((List.getD x 11 0) * 65536) + (List.getD x 10 0) : Nat) : Int)) (int_eq (wrapAdd_u64 (a := (List.getD x 11 0) * 65536) (b := List.getD x 10 0) (by omega))), .v, .s 1] H19 kr fun w20 H20 => ?_
  clear H19
  show WP _ _ _ _ _ _
  refine g_keep [0, 2, 3, 4, 7] fun ρ6 => ?_
  have HK7 := H20.keep
  clear H20
  refine rL [.v, .v, .v] HK7 kr fun gs21 w21 H21 => ?_
  clear HK7
  show WPL _ _ _ _ _ _
  refine g_next ?_
  refine g_seq kr ?_
  refine rS [.v, .v] H21 kr fun gs22 w22 H22 => ?_
  clear H21
  refine g_cond_t kr kr ?_
  refine g_skip kr ?_
  show WP _ _ _ _ _ _
  refine g_seq kr ?_
  refine g_block 1 kr ?_
  refine dL [.v, .v, .v, .v, .v, .l 1, .e (v := .int .u64 (IntKind.u64.wrap (((((List.getD x 11 0) * 65536) + (List.getD x 10 0) : Nat) : Int) * 65536))) (v' := .int .u64 (((((List.getD x 11 0) * 65536) + (List.getD x 10 0)) * 65536 : Nat) : Int)) (int_eq (wrapMul_u64 (a := ((List.getD x 11 0) * 65536) + (List.getD x 10 0)) (b := 65536) (by omega))), .v, .v, .cp (pre := fun w => w.heap[ba]? = some (.cells curA 3 (0, 0))) (digit_fn x ba (List.length x) ca curA rfl hA (by omega) 9 (by omega)) [] (fun w hb hd => ((hb.block _ (lt_of_heap hpre)).trans hpre)), .e (v := .int .u64 (IntKind.u64.wrap (((List.getD x 9 0 : Nat) : Int)))) (v' := .int .u64 ((List.getD x 9 0 : Nat) : Int)) (int_eq (wrapN_u64 (a := List.getD x 9 0) (by omega))), .e (v := .int .u64 (IntKind.u64.wrap ((((((List.getD x 11 0) * 65536) + (List.getD x 10 0)) * 65536 : Nat) : Int) + ((List.getD x 9 0 : Nat) : Int)))) (v' := .int .u64 ((((((List.getD x 11 0) * 65536) + (List.getD x 10 0)) * 65536) + (List.getD x 9 0) : Nat) : Int)) (int_eq (wrapAdd_u64 (a := (((List.getD x 11 0) * 65536) + (List.getD x 10 0)) * 65536) (b := List.getD x 9 0) (by omega))), .v, .s 1] H22 kr fun w23 H23 => ?_
  clear H22
  show WP _ _ _ _ _ _
  refine g_keep [0, 2, 3, 4, 7] fun ρ7 => ?_
  have HK8 := H23.keep
  clear H23
  refine rL [.v, .v, .v] HK8 kr fun gs24 w24 H24 => ?_
  clear HK8
  show WPL _ _ _ _ _ _
  refine g_next ?_
  refine g_seq kr ?_
  refine rS [.v, .v] H24 kr fun gs25 w25 H25 => ?_
  clear H24
  refine g_cond_t kr kr ?_
  refine g_skip kr ?_
  show WP _ _ _ _ _ _
  refine g_seq kr ?_
  refine g_block 1 kr ?_
  refine dL [.v, .v, .v, .v, .v, .l 1, .e (v := .int .u64 (IntKind.u64.wrap (((((((List.getD x 11 0) * 65536) + (List.getD x 10 0)) * 65536) + (List.getD x 9 0) : Nat) : Int) * 65536))) (v' := .int .u64 (((((((List.getD x 11 0) * 65536) + (List.getD x 10 0)) * 65536) + (List.getD x 9 0)) * 65536 : Nat) : Int)) (int_eq (wrapMul_u64 (a := ((((List.getD x 11 0) * 65536) + (List.getD x 10 0)) * 65536) + (List.getD x 9 0)) (b := 65536) (by omega))), .v, .v, .cp (pre := fun w => w.heap[ba]? = some (.cells curA 3 (0, 0))) (digit_fn x ba (List.length x) ca curA rfl hA (by omega) 8 (by omega)) [] (fun w hb hd => ((hb.block _ (lt_of_heap hpre)).trans hpre)), .e (v := .int .u64 (IntKind.u64.wrap (((List.getD x 8 0 : Nat) : Int)))) (v' := .int .u64 ((List.getD x 8 0 : Nat) : Int)) (int_eq (wrapN_u64 (a := List.getD x 8 0) (by omega))), .e (v := .int .u64 (IntKind.u64.wrap ((((((((List.getD x 11 0) * 65536) + (List.getD x 10 0)) * 65536) + (List.getD x 9 0)) * 65536 : Nat) : Int) + ((List.getD x 8 0 : Nat) : Int)))) (v' := .int .u64 ((((((((List.getD x 11 0) * 65536) + (List.getD x 10 0)) * 65536) + (List.getD x 9 0)) * 65536) + (List.getD x 8 0) : Nat) : Int)) (int_eq (wrapAdd_u64 (a := (((((List.getD x 11 0) * 65536) + (List.getD x 10 0)) * 65536) + (List.getD x 9 0)) * 65536) (b := List.getD x 8 0) (by omega))), .v, .s 1] H25 kr fun w26 H26 => ?_
  clear H25
  show WP _ _ _ _ _ _
  refine g_keep [0, 2, 3, 4, 7] fun ρ8 => ?_
  have HK9 := H26.keep
  clear H26
  refine rL [.v, .v, .v] HK9 kr fun gs27 w27 H27 => ?_
  clear HK9
  show WPL _ _ _ _ _ _
  refine g_next ?_
  refine g_seq kr ?_
  refine rS [.v, .v] H27 kr fun gs28 w28 H28 => ?_
  clear H27
  refine g_cond_t kr kr ?_
  refine g_skip kr ?_
  show WP _ _ _ _ _ _
  refine g_seq kr ?_
  refine g_block 1 kr ?_
  refine dL [.v, .v, .v, .v, .v, .l 1, .v, .v, .v, .cp (pre := fun w => w.heap[ba]? = some (.cells curA 3 (0, 0))) (digit_fn x ba (List.length x) ca curA rfl hA (by omega) 7 (by omega)) [] (fun w hb hd => ((hb.block _ (lt_of_heap hpre)).trans hpre)), .e (v := .int .u64 (IntKind.u64.wrap (((List.getD x 7 0 : Nat) : Int)))) (v' := .int .u64 ((List.getD x 7 0 : Nat) : Int)) (int_eq (wrapN_u64 (a := List.getD x 7 0) (by omega))), .e (v := .int .u64 (IntKind.u64.wrap (0 + ((List.getD x 7 0 : Nat) : Int)))) (v' := .int .u64 ((List.getD x 7 0 : Nat) : Int)) (int_eq (show IntKind.u64.wrap ((0 : Int) + ((List.getD x 7 0 : Nat) : Int)) = _ by rw [Int.zero_add]; exact wrapN_u64 (by omega))), .v, .s 1] H28 kr fun w29 H29 => ?_
  clear H28
  show WP _ _ _ _ _ _
  refine g_keep [0, 2, 3, 4, 7] fun ρ9 => ?_
  have HK10 := H29.keep
  clear H29
  refine rL [.v, .v, .v] HK10 kr fun gs30 w30 H30 => ?_
  clear HK10
  show WPL _ _ _ _ _ _
  refine g_next ?_
  refine g_seq kr ?_
  refine rS [.v, .v] H30 kr fun gs31 w31 H31 => ?_
  clear H30
  refine g_cond_t kr kr ?_
  refine g_skip kr ?_
  show WP _ _ _ _ _ _
  refine g_seq kr ?_
  refine g_block 1 kr ?_
  refine dL [.v, .v, .v, .v, .v, .l 1, .e (v := .int .u64 (IntKind.u64.wrap (((List.getD x 7 0 : Nat) : Int) * 65536))) (v' := .int .u64 (((List.getD x 7 0) * 65536 : Nat) : Int)) (int_eq (wrapMul_u64 (a := List.getD x 7 0) (b := 65536) (by omega))), .v, .v, .cp (pre := fun w => w.heap[ba]? = some (.cells curA 3 (0, 0))) (digit_fn x ba (List.length x) ca curA rfl hA (by omega) 6 (by omega)) [] (fun w hb hd => ((hb.block _ (lt_of_heap hpre)).trans hpre)), .e (v := .int .u64 (IntKind.u64.wrap (((List.getD x 6 0 : Nat) : Int)))) (v' := .int .u64 ((List.getD x 6 0 : Nat) : Int)) (int_eq (wrapN_u64 (a := List.getD x 6 0) (by omega))), .e (v := .int .u64 (IntKind.u64.wrap ((((List.getD x 7 0) * 65536 : Nat) : Int) + ((List.getD x 6 0 : Nat) : Int)))) (v' := .int .u64 ((((List.getD x 7 0) * 65536) + (List.getD x 6 0) : Nat) : Int)) (int_eq (wrapAdd_u64 (a := (List.getD x 7 0) * 65536) (b := List.getD x 6 0) (by omega))), .v, .s 1] H31 kr fun w32 H32 => ?_
  clear H31
  show WP _ _ _ _ _ _
  refine g_keep [0, 2, 3, 4, 7] fun ρ10 => ?_
  have HK11 := H32.keep
  clear H32
  refine rL [.v, .v, .v] HK11 kr fun gs33 w33 H33 => ?_
  clear HK11
  show WPL _ _ _ _ _ _
  refine g_next ?_
  refine g_seq kr ?_
  refine rS [.v, .v] H33 kr fun gs34 w34 H34 => ?_
  clear H33
  refine g_cond_t kr kr ?_
  refine g_skip kr ?_
  show WP _ _ _ _ _ _
  refine g_seq kr ?_
  refine g_block 1 kr ?_
  refine dL [.v, .v, .v, .v, .v, .l 1, .e (v := .int .u64 (IntKind.u64.wrap (((((List.getD x 7 0) * 65536) + (List.getD x 6 0) : Nat) : Int) * 65536))) (v' := .int .u64 (((((List.getD x 7 0) * 65536) + (List.getD x 6 0)) * 65536 : Nat) : Int)) (int_eq (wrapMul_u64 (a := ((List.getD x 7 0) * 65536) + (List.getD x 6 0)) (b := 65536) (by omega))), .v, .v, .cp (pre := fun w => w.heap[ba]? = some (.cells curA 3 (0, 0))) (digit_fn x ba (List.length x) ca curA rfl hA (by omega) 5 (by omega)) [] (fun w hb hd => ((hb.block _ (lt_of_heap hpre)).trans hpre)), .e (v := .int .u64 (IntKind.u64.wrap (((List.getD x 5 0 : Nat) : Int)))) (v' := .int .u64 ((List.getD x 5 0 : Nat) : Int)) (int_eq (wrapN_u64 (a := List.getD x 5 0) (by omega))), .e (v := .int .u64 (IntKind.u64.wrap ((((((List.getD x 7 0) * 65536) + (List.getD x 6 0)) * 65536 : Nat) : Int) + ((List.getD x 5 0 : Nat) : Int)))) (v' := .int .u64 ((((((List.getD x 7 0) * 65536) + (List.getD x 6 0)) * 65536) + (List.getD x 5 0) : Nat) : Int)) (int_eq (wrapAdd_u64 (a := (((List.getD x 7 0) * 65536) + (List.getD x 6 0)) * 65536) (b := List.getD x 5 0) (by omega))), .v, .s 1] H34 kr fun w35 H35 => ?_
  clear H34
  show WP _ _ _ _ _ _
  refine g_keep [0, 2, 3, 4, 7] fun ρ11 => ?_
  have HK12 := H35.keep
  clear H35
  refine rL [.v, .v, .v] HK12 kr fun gs36 w36 H36 => ?_
  clear HK12
  show WPL _ _ _ _ _ _
  refine g_next ?_
  refine g_seq kr ?_
  refine rS [.v, .v] H36 kr fun gs37 w37 H37 => ?_
  clear H36
  refine g_cond_t kr kr ?_
  refine g_skip kr ?_
  show WP _ _ _ _ _ _
  refine g_seq kr ?_
  refine g_block 1 kr ?_
  refine dL [.v, .v, .v, .v, .v, .l 1, .e (v := .int .u64 (IntKind.u64.wrap (((((((List.getD x 7 0) * 65536) + (List.getD x 6 0)) * 65536) + (List.getD x 5 0) : Nat) : Int) * 65536))) (v' := .int .u64 (((((((List.getD x 7 0) * 65536) + (List.getD x 6 0)) * 65536) + (List.getD x 5 0)) * 65536 : Nat) : Int)) (int_eq (wrapMul_u64 (a := ((((List.getD x 7 0) * 65536) + (List.getD x 6 0)) * 65536) + (List.getD x 5 0)) (b := 65536) (by omega))), .v, .v, .cp (pre := fun w => w.heap[ba]? = some (.cells curA 3 (0, 0))) (digit_fn x ba (List.length x) ca curA rfl hA (by omega) 4 (by omega)) [] (fun w hb hd => ((hb.block _ (lt_of_heap hpre)).trans hpre)), .e (v := .int .u64 (IntKind.u64.wrap (((List.getD x 4 0 : Nat) : Int)))) (v' := .int .u64 ((List.getD x 4 0 : Nat) : Int)) (int_eq (wrapN_u64 (a := List.getD x 4 0) (by omega))), .e (v := .int .u64 (IntKind.u64.wrap ((((((((List.getD x 7 0) * 65536) + (List.getD x 6 0)) * 65536) + (List.getD x 5 0)) * 65536 : Nat) : Int) + ((List.getD x 4 0 : Nat) : Int)))) (v' := .int .u64 ((((((((List.getD x 7 0) * 65536) + (List.getD x 6 0)) * 65536) + (List.getD x 5 0)) * 65536) + (List.getD x 4 0) : Nat) : Int)) (int_eq (wrapAdd_u64 (a := (((((List.getD x 7 0) * 65536) + (List.getD x 6 0)) * 65536) + (List.getD x 5 0)) * 65536) (b := List.getD x 4 0) (by omega))), .v, .s 1] H37 kr fun w38 H38 => ?_
  clear H37
  show WP _ _ _ _ _ _
  refine g_keep [0, 2, 3, 4, 7] fun ρ12 => ?_
  have HK13 := H38.keep
  clear H38
  refine rL [.v, .v, .v] HK13 kr fun gs39 w39 H39 => ?_
  clear HK13
  show WPL _ _ _ _ _ _
  refine g_next ?_
  refine g_seq kr ?_
  refine rS [.v, .v] H39 kr fun gs40 w40 H40 => ?_
  clear H39
  refine g_cond_t kr kr ?_
  refine g_skip kr ?_
  show WP _ _ _ _ _ _
  refine g_seq kr ?_
  refine g_block 1 kr ?_
  refine dL [.v, .v, .v, .v, .v, .l 1, .v, .v, .v, .cp (pre := fun w => w.heap[ba]? = some (.cells curA 3 (0, 0))) (digit_fn x ba (List.length x) ca curA rfl hA (by omega) 3 (by omega)) [] (fun w hb hd => ((hb.block _ (lt_of_heap hpre)).trans hpre)), .e (v := .int .u64 (IntKind.u64.wrap (((List.getD x 3 0 : Nat) : Int)))) (v' := .int .u64 ((List.getD x 3 0 : Nat) : Int)) (int_eq (wrapN_u64 (a := List.getD x 3 0) (by omega))), .e (v := .int .u64 (IntKind.u64.wrap (0 + ((List.getD x 3 0 : Nat) : Int)))) (v' := .int .u64 ((List.getD x 3 0 : Nat) : Int)) (int_eq (show IntKind.u64.wrap ((0 : Int) + ((List.getD x 3 0 : Nat) : Int)) = _ by rw [Int.zero_add]; exact wrapN_u64 (by omega))), .v, .s 1] H40 kr fun w41 H41 => ?_
  clear H40
  show WP _ _ _ _ _ _
  refine g_keep [0, 2, 3, 4, 7] fun ρ13 => ?_
  have HK14 := H41.keep
  clear H41
  refine rL [.v, .v, .v] HK14 kr fun gs42 w42 H42 => ?_
  clear HK14
  show WPL _ _ _ _ _ _
  refine g_next ?_
  refine g_seq kr ?_
  refine rS [.v, .v] H42 kr fun gs43 w43 H43 => ?_
  clear H42
  refine g_cond_t kr kr ?_
  refine g_skip kr ?_
  show WP _ _ _ _ _ _
  refine g_seq kr ?_
  refine g_block 1 kr ?_
  refine dL [.v, .v, .v, .v, .v, .l 1, .e (v := .int .u64 (IntKind.u64.wrap (((List.getD x 3 0 : Nat) : Int) * 65536))) (v' := .int .u64 (((List.getD x 3 0) * 65536 : Nat) : Int)) (int_eq (wrapMul_u64 (a := List.getD x 3 0) (b := 65536) (by omega))), .v, .v, .cp (pre := fun w => w.heap[ba]? = some (.cells curA 3 (0, 0))) (digit_fn x ba (List.length x) ca curA rfl hA (by omega) 2 (by omega)) [] (fun w hb hd => ((hb.block _ (lt_of_heap hpre)).trans hpre)), .e (v := .int .u64 (IntKind.u64.wrap (((List.getD x 2 0 : Nat) : Int)))) (v' := .int .u64 ((List.getD x 2 0 : Nat) : Int)) (int_eq (wrapN_u64 (a := List.getD x 2 0) (by omega))), .e (v := .int .u64 (IntKind.u64.wrap ((((List.getD x 3 0) * 65536 : Nat) : Int) + ((List.getD x 2 0 : Nat) : Int)))) (v' := .int .u64 ((((List.getD x 3 0) * 65536) + (List.getD x 2 0) : Nat) : Int)) (int_eq (wrapAdd_u64 (a := (List.getD x 3 0) * 65536) (b := List.getD x 2 0) (by omega))), .v, .s 1] H43 kr fun w44 H44 => ?_
  clear H43
  show WP _ _ _ _ _ _
  refine g_keep [0, 2, 3, 4, 7] fun ρ14 => ?_
  have HK15 := H44.keep
  clear H44
  refine rL [.v, .v, .v] HK15 kr fun gs45 w45 H45 => ?_
  clear HK15
  show WPL _ _ _ _ _ _
  refine g_next ?_
  refine g_seq kr ?_
  refine rS [.v, .v] H45 kr fun gs46 w46 H46 => ?_
  clear H45
  refine g_cond_t kr kr ?_
  refine g_skip kr ?_
  show WP _ _ _ _ _ _
  refine g_seq kr ?_
  refine g_block 1 kr ?_
  refine dL [.v, .v, .v, .v, .v, .l 1, .e (v := .int .u64 (IntKind.u64.wrap (((((List.getD x 3 0) * 65536) + (List.getD x 2 0) : Nat) : Int) * 65536))) (v' := .int .u64 (((((List.getD x 3 0) * 65536) + (List.getD x 2 0)) * 65536 : Nat) : Int)) (int_eq (wrapMul_u64 (a := ((List.getD x 3 0) * 65536) + (List.getD x 2 0)) (b := 65536) (by omega))), .v, .v, .cp (pre := fun w => w.heap[ba]? = some (.cells curA 3 (0, 0))) (digit_fn x ba (List.length x) ca curA rfl hA (by omega) 1 (by omega)) [] (fun w hb hd => ((hb.block _ (lt_of_heap hpre)).trans hpre)), .e (v := .int .u64 (IntKind.u64.wrap (((List.getD x 1 0 : Nat) : Int)))) (v' := .int .u64 ((List.getD x 1 0 : Nat) : Int)) (int_eq (wrapN_u64 (a := List.getD x 1 0) (by omega))), .e (v := .int .u64 (IntKind.u64.wrap ((((((List.getD x 3 0) * 65536) + (List.getD x 2 0)) * 65536 : Nat) : Int) + ((List.getD x 1 0 : Nat) : Int)))) (v' := .int .u64 ((((((List.getD x 3 0) * 65536) + (List.getD x 2 0)) * 65536) + (List.getD x 1 0) : Nat) : Int)) (int_eq (wrapAdd_u64 (a := (((List.getD x 3 0) * 65536) + (List.getD x 2 0)) * 65536) (b := List.getD x 1 0) (by omega))), .v, .s 1] H46 kr fun w47 H47 => ?_
  clear H46
  show WP _ _ _ _ _ _
  refine g_keep [0, 2, 3, 4, 7] fun ρ15 => ?_
  have HK16 := H47.keep
  clear H47
  refine rL [.v, .v, .v] HK16 kr fun gs48 w48 H48 => ?_
  clear HK16
  show WPL _ _ _ _ _ _
  refine g_next ?_
  refine g_seq kr ?_
  refine rS [.v, .v] H48 kr fun gs49 w49 H49 => ?_
  clear H48
  refine g_cond_t kr kr ?_
  refine g_skip kr ?_
  show WP _ _ _ _ _ _
  refine g_seq kr ?_
  refine g_block 1 kr ?_
  refine dL [.v, .v, .v, .v, .v, .l 1, .e (v := .int .u64 (IntKind.u64.wrap (((((((List.getD x 3 0) * 65536) + (List.getD x 2 0)) * 65536) + (List.getD x 1 0) : Nat) : Int) * 65536))) (v' := .int .u64 (((((((List.getD x 3 0) * 65536) + (List.getD x 2 0)) * 65536) + (List.getD x 1 0)) * 65536 : Nat) : Int)) (int_eq (wrapMul_u64 (a := ((((List.getD x 3 0) * 65536) + (List.getD x 2 0)) * 65536) + (List.getD x 1 0)) (b := 65536) (by omega))), .v, .v, .cp (pre := fun w => w.heap[ba]? = some (.cells curA 3 (0, 0))) (digit_fn x ba (List.length x) ca curA rfl hA (by omega) 0 (by omega)) [] (fun w hb hd => ((hb.block _ (lt_of_heap hpre)).trans hpre)), .e (v := .int .u64 (IntKind.u64.wrap (((List.getD x 0 0 : Nat) : Int)))) (v' := .int .u64 ((List.getD x 0 0 : Nat) : Int)) (int_eq (wrapN_u64 (a := List.getD x 0 0) (by omega))), .e (v := .int .u64 (IntKind.u64.wrap ((((((((List.getD x 3 0) * 65536) + (List.getD x 2 0)) * 65536) + (List.getD x 1 0)) * 65536 : Nat) : Int) + ((List.getD x 0 0 : Nat) : Int)))) (v' := .int .u64 ((((((((List.getD x 3 0) * 65536) + (List.getD x 2 0)) * 65536) + (List.getD x 1 0)) * 65536) + (List.getD x 0 0) : Nat) : Int)) (int_eq (wrapAdd_u64 (a := (((((List.getD x 3 0) * 65536) + (List.getD x 2 0)) * 65536) + (List.getD x 1 0)) * 65536) (b := List.getD x 0 0) (by omega))), .v, .s 1] H49 kr fun w50 H50 => ?_
  clear H49
  show WP _ _ _ _ _ _
  refine g_keep [0, 2, 3, 4, 7] fun ρ16 => ?_
  have HK17 := H50.keep
  clear H50
  refine rL [.v, .v, .v] HK17 kr fun gs51 w51 H51 => ?_
  clear HK17
  show WPL _ _ _ _ _ _
  refine g_next ?_
  refine g_seq kr ?_
  refine rS [.v, .v] H51 kr fun gs52 w52 H52 => ?_
  clear H51
  refine g_cond_f kr kr ?_
  refine g_exit 0 kr ?_
  show WP _ _ _ _ _ _
  refine rS [.l 1, .s 0] H52 kr fun gs53 w53 H53 => ?_
  clear H52
  refine g_ret kr ?_
  show ∃ vs, Res _ _ _ _ vs ∧ _
  refine ⟨[.agg #[.int .u64 ((((((((List.getD x 3 0) * 65536) + (List.getD x 2 0)) * 65536) + (List.getD x 1 0)) * 65536) + (List.getD x 0 0) : Nat) : Int), .int .u64 ((((((((List.getD x 7 0) * 65536) + (List.getD x 6 0)) * 65536) + (List.getD x 5 0)) * 65536) + (List.getD x 4 0) : Nat) : Int), .int .u64 ((((((((List.getD x 11 0) * 65536) + (List.getD x 10 0)) * 65536) + (List.getD x 9 0)) * 65536) + (List.getD x 8 0) : Nat) : Int), .int .u64 ((((((((List.getD x 15 0) * 65536) + (List.getD x 14 0)) * 65536) + (List.getD x 13 0)) * 65536) + (List.getD x 12 0) : Nat) : Int)]], (.agg (b := (gs1 0).b) #[.int .u64 ((((((((List.getD x 3 0) * 65536) + (List.getD x 2 0)) * 65536) + (List.getD x 1 0)) * 65536) + (List.getD x 0 0) : Nat) : Int), .int .u64 ((((((((List.getD x 7 0) * 65536) + (List.getD x 6 0)) * 65536) + (List.getD x 5 0)) * 65536) + (List.getD x 4 0) : Nat) : Int), .int .u64 ((((((((List.getD x 11 0) * 65536) + (List.getD x 10 0)) * 65536) + (List.getD x 9 0)) * 65536) + (List.getD x 8 0) : Nat) : Int), .int .u64 ((((((((List.getD x 15 0) * 65536) + (List.getD x 14 0)) * 65536) + (List.getD x 13 0)) * 65536) + (List.getD x 12 0) : Nat) : Int)] 24 (0, 0) kr (H53.get 0 kr) kr .nil), ?_, H53.below⟩
  have e := uv_digits hx (fun i => List.getD x i 0) (fun _ => rfl)
  exact e
end Go.Proofs.YtmmloghbnpfedaaDoor
