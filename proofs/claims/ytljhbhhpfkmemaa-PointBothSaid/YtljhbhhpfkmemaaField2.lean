/-
  More calls of package field: differences, powers.
-/
import Derived.Test.YtljhbhhpfkmemaaField1
namespace Go.Proofs.Ytljhbhhpfkmemaa
open Go Go.RowKit
set_option linter.unusedVariables false
theorem bt_nat {A n : Nat} (h : n < 256) : bt A (n : Int) = A.testBit n := by unfold bt; simp; omega

set_option maxRecDepth 100000 in
theorem fsub0_fn (A B : Nat) (hA : A < big) (hB : B < big) : Fn Try.prog 28 #[uv A, uv B, .int .i64 0] (.tuple #[uv (fSub A B PR), .int .i64 0]) := by
  refine Fn.intro (c := codeOf Try.f28) [.cell 6 24, .tmp 7] 41 Try.func28 kr kr kr fun w => ?_
  have H0 := St.start w
  refine g_sreg [0, 1, 2, 3] kr kr ?_
  refine s_box H0 (some 3) 24 (.tmp 0) (uv A) kr kr kr ?_
  intro b1 w1 H1; clear H0
  refine s_box H1 (some 4) 24 (.tmp 1) (uv B) kr kr kr ?_
  intro b2 w2 H2; clear H1
  refine s_alloc H2 (some 6) 24 (.agg Z4) kr kr kr ?_
  intro b3 w3 H3; clear H2
  refine s_val (some 7) (.int .i64 0) (fun w => kr) kr ?_
  refine s_nil ?_
  refine g_sreg [0, 1, 2, 3, 4, 5, 6, 7] kr kr ?_
  refine s_val (some 13) (.int .i64 0) (fun w => kr) kr ?_
  refine s_call H3 (some 14) 20 #[.int .i64 0] (.tuple #[uv PR, .int .i64 0]) prime0_fn (fun w => kr) kr ?_
  intro w4 H4; clear H3
  refine s_val (some 12) (.tuple #[uv PR, .int .i64 0]) (fun w => kr) kr ?_
  refine s_val (some 15) (uv PR) (fun w => kr) kr ?_
  refine s_val (some 16) (.int .i64 0) (fun w => kr) kr ?_
  refine s_alloc H4 (some 8) 24 (.agg Z4) kr kr kr ?_
  intro b4 w5 H5; clear H4
  refine s_store H5 0 [(b4, Oc (uv PR) 24), (b3, Od Z4 24), (b2, Oc (uv B) 24), (b1, Oc (uv A) 24)] 24 (.tmp 8) (.tmp 15) b4 0 Z4 (Value.cells (uv PR)) 24 (uv PR) kr kr kr kr kr kr (of_decide_eq_true kr) kr kr ?_
  intro w6 H6; clear H5
  refine s_val (some 9) (.int .i64 0) (fun w => kr) kr ?_
  refine s_nil ?_
  refine g_seq kr ?_
  refine g_sreg [0, 1] kr kr ?_
  refine s_val (some 17) (.int .i64 0) (fun w => kr) kr ?_
  refine s_val (some 18) (.bool false) (fun w => kr) kr ?_
  refine s_nil ?_
  refine g_cond_f kr kr ?_
  refine g_skip kr ?_
  show WP _ _ _ _ _ _
  refine g_sdraw [0, 1, 2, 3, 4, 5, 6, 7, 8, 9, 10, 11, 12, 13, 14] [((some 22), fun _ => uv A), ((some 23), fun _ => .agg Z4), ((some 24), fun _ => uv PR), ((some 25), fun _ => uv (rs A 0 PR)), ((some 26), fun _ => uv B), ((some 27), fun _ => .agg Z4), ((some 28), fun _ => uv PR), ((some 29), fun _ => uv (rs B 0 PR)), ((some 30), fun _ => .tuple #[uv (df (rs A 0 PR) (rs B 0 PR)), .bool (lo (rs A 0 PR) (rs B 0 PR))]), ((some 21), fun _ => .tuple #[uv (df (rs A 0 PR) (rs B 0 PR)), .bool (lo (rs A 0 PR) (rs B 0 PR))]), ((some 31), fun _ => uv (df (rs A 0 PR) (rs B 0 PR))), ((some 32), fun _ => .bool (lo (rs A 0 PR) (rs B 0 PR))), ((some 10), fun b => .pointer (some ⟨b, 0, none⟩)), (none, fun _ => undef), ((some 11), fun _ => .bool (lo (rs A 0 PR) (rs B 0 PR)))] (fun L g x => St w.heap.size w x ([(b4, Oc (uv PR) 24), (b3, Od Z4 24), (b2, Oc (uv B) 24), (b1, Oc (uv A) 24)] ++ (bif L 12 then [(g 12, (bif L 13 then Oc (uv (df (rs A 0 PR) (rs B 0 PR))) 24 else Od Z4 24))] else []))) kr kr kr kr (H6.drew) ⟨?_, ?_, ?_, ?_, ?_, ?_, ?_, ?_, ?_, ?_, ?_, ?_, ?_, ?_, ?_, trivial⟩ ?_
  · exact gv_load 24 (.tmp 3) (fun _ => 3) (fun g => b1) (Value.cells (uv A)) 24 (0, 0) (fun _ _ _ h => h) (fun g => kr) (fun g => kr) (fun L g _ => kr) kr
  · exact gv_val (fun _ _ _ h => h) (fun g w => kr)
  · exact gv_load 24 (.tmp 8) (fun _ => 0) (fun g => b4) (Value.cells (uv PR)) 24 (0, 0) (fun _ _ _ h => h) (fun g => kr) (fun g => kr) (fun L g _ => kr) kr
  · exact gv_call 49 #[uv A, .agg Z4, uv PR] (fun _ _ _ h => h) (rest_fn A 0 PR hA (by unfold big; omega) pr_ok) (fun g w => kr)
  · exact gv_load 24 (.tmp 4) (fun _ => 2) (fun g => b2) (Value.cells (uv B)) 24 (0, 0) (fun _ _ _ h => h) (fun g => kr) (fun g => kr) (fun L g _ => kr) kr
  · exact gv_val (fun _ _ _ h => h) (fun g w => kr)
  · exact gv_load 24 (.tmp 8) (fun _ => 0) (fun g => b4) (Value.cells (uv PR)) 24 (0, 0) (fun _ _ _ h => h) (fun g => kr) (fun g => kr) (fun L g _ => kr) kr
  · exact gv_call 49 #[uv B, .agg Z4, uv PR] (fun _ _ _ h => h) (rest_fn B 0 PR hB (by unfold big; omega) pr_ok) (fun g w => kr)
  · exact gv_call 50 #[uv (rs A 0 PR), uv (rs B 0 PR)] (fun _ _ _ h => h) (sub_fn (rs A 0 PR) (rs B 0 PR) (rs_lt pr_ok) (rs_lt pr_ok)) (fun g w => kr)
  · exact gv_val (fun _ _ _ h => h) (fun g w => kr)
  · exact gv_val (fun _ _ _ h => h) (fun g w => kr)
  · exact gv_val (fun _ _ _ h => h) (fun g w => kr)
  · exact gv_alloc 24 (.agg Z4) (fun L g => [(b4, Oc (uv PR) 24), (b3, Od Z4 24), (b2, Oc (uv B) 24), (b1, Oc (uv A) 24)]) (fun L g => ([] : List (Nat × Obj))) (fun g => kr) kr (fun L g hN => by (have hn : L 12 = false := hN.1; show ([(b4, Oc (uv PR) 24), (b3, Od Z4 24), (b2, Oc (uv B) 24), (b1, Oc (uv A) 24)] ++ (bif L 12 then [(g 12, (bif L 13 then Oc (uv (df (rs A 0 PR) (rs B 0 PR))) 24 else Od Z4 24))] else [])) = ([(b4, Oc (uv PR) 24), (b3, Od Z4 24), (b2, Oc (uv B) 24), (b1, Oc (uv A) 24)]) ++ (([] : List (Nat × Obj))); rw [hn]; rfl)) (fun L g b hN => by (have hz : L 13 = false := hN.2.2.no 12 13 kr hN.1; show ([(b4, Oc (uv PR) 24), (b3, Od Z4 24), (b2, Oc (uv B) 24), (b1, Oc (uv A) 24)]) ++ (b, Od Z4 24) :: (([] : List (Nat × Obj))) = ([(b4, Oc (uv PR) 24), (b3, Od Z4 24), (b2, Oc (uv B) 24), (b1, Oc (uv A) 24)] ++ ([(b, (bif L 13 then Oc (uv (df (rs A 0 PR) (rs B 0 PR))) 24 else Od Z4 24))])); rw [hz]; rfl))
  · exact gv_store (fun _ => 4) 24 (.tmp 10) (.tmp 31) (fun g => g 12) 0 Z4 (Value.cells (uv (df (rs A 0 PR) (rs B 0 PR)))) 24 (uv (df (rs A 0 PR) (rs B 0 PR))) (fun g => kr) (fun g => kr) (fun g => kr) kr kr (of_decide_eq_true kr) kr (fun L g hN => by (have hs13 : L 13 = false := hN.1; have hs12 : L 12 = true := before_yes hN.2.1 12 kr; show ([(b4, Oc (uv PR) 24), (b3, Od Z4 24), (b2, Oc (uv B) 24), (b1, Oc (uv A) 24)] ++ (bif L 12 then [(g 12, (bif L 13 then Oc (uv (df (rs A 0 PR) (rs B 0 PR))) 24 else Od Z4 24))] else []))[(fun _ => 4) L]? = some (g 12, Od Z4 24) ∧ ([(b4, Oc (uv PR) 24), (b3, Od Z4 24), (b2, Oc (uv B) 24), (b1, Oc (uv A) 24)] ++ (bif L 12 then [(g 12, (bif L 13 then Oc (uv (df (rs A 0 PR) (rs B 0 PR))) 24 else Od Z4 24))] else [])).set ((fun _ => 4) L) (g 12, Oc (uv (df (rs A 0 PR) (rs B 0 PR))) 24) = ([(b4, Oc (uv PR) 24), (b3, Od Z4 24), (b2, Oc (uv B) 24), (b1, Oc (uv A) 24)] ++ (bif L 12 then [(g 12, (bif true then Oc (uv (df (rs A 0 PR) (rs B 0 PR))) 24 else Od Z4 24))] else [])); rw [hs13, hs12]; exact ⟨rfl, rfl⟩))
  · exact gv_val (fun _ _ _ h => h) (fun g w => kr)
  intro L0 g7 w7 hall HL; clear H6
  have H7 : St w.heap.size w w7 [(b4, Oc (uv PR) 24), (b3, Od Z4 24), (b2, Oc (uv B) 24), (b1, Oc (uv A) 24), ((g7 12), Oc (uv (df (rs A 0 PR) (rs B 0 PR))) 24)] := by have e13 := hall 13 (Nat.le_of_ble_eq_true kr); have e12 := hall 12 (Nat.le_of_ble_eq_true kr); simp only [e13, e12, cond_true] at HL; exact HL
  clear HL hall
  refine g_seq kr ?_
  refine g_sreg [0] kr kr ?_
  cases hlo : lo (rs A 0 PR) (rs B 0 PR)
  · skip
    refine s_val (some 33) (.bool false) (fun w => kr) kr ?_
    refine s_nil ?_
    refine g_cond_f kr kr ?_
    refine g_skip kr ?_
    show WP _ _ _ _ _ _
    refine g_sreg [0, 1, 2] kr kr ?_
    refine s_load H7 (some 40) 24 (.tmp 10) 4 (g7 12) (Value.cells (uv (df (rs A 0 PR) (rs B 0 PR)))) 24 (0, 0) kr kr kr kr kr ?_
    refine s_store H7 1 [(b4, Oc (uv PR) 24), (b3, Oc (uv (df (rs A 0 PR) (rs B 0 PR))) 24), (b2, Oc (uv B) 24), (b1, Oc (uv A) 24), ((g7 12), Oc (uv (df (rs A 0 PR) (rs B 0 PR))) 24)] 24 (.tmp 6) (.tmp 40) b3 0 Z4 (Value.cells (uv (df (rs A 0 PR) (rs B 0 PR)))) 24 (uv (df (rs A 0 PR) (rs B 0 PR))) kr kr kr kr kr kr (of_decide_eq_true kr) kr kr ?_
    intro w8 H8; clear H7
    refine s_val (some 7) (.int .i64 0) (fun w => kr) kr ?_
    refine s_nil ?_
    refine g_ret kr ?_
    show ∃ vs, Res _ _ _ _ vs ∧ _
    refine ⟨[uv (df (rs A 0 PR) (rs B 0 PR)), .int .i64 0], (.agg (b := b3) (Value.cells (uv (df (rs A 0 PR) (rs B 0 PR)))) 24 (0, 0) kr (H8.get 1 kr) kr (.tmp (.int .i64 0) kr .nil)), ?_, H8.below⟩
    exact congrArg (fun n => Value.tuple #[uv n, .int .i64 0]) (fSub_of2 pr_ok hlo)
  · skip
    refine s_val (some 33) (.bool true) (fun w => kr) kr ?_
    refine s_nil ?_
    refine g_cond_t kr kr ?_
    refine g_reg0 [0, 1, 2, 3, 4, 5, 6] kr ?_
    refine s_load H7 (some 35) 24 (.tmp 10) 4 (g7 12) (Value.cells (uv (df (rs A 0 PR) (rs B 0 PR)))) 24 (0, 0) kr kr kr kr kr ?_
    refine s_load H7 (some 36) 24 (.tmp 8) 0 b4 (Value.cells (uv PR)) 24 (0, 0) kr kr kr kr kr ?_
    refine s_call H7 (some 37) 18 #[uv (df (rs A 0 PR) (rs B 0 PR)), uv PR] (.tuple #[uv (sm (df (rs A 0 PR) (rs B 0 PR)) PR), .bool (ov (df (rs A 0 PR) (rs B 0 PR)) PR)]) (add_fn (df (rs A 0 PR) (rs B 0 PR)) PR (df_lt _ _) pr_ok.1) (fun w => kr) kr ?_
    intro w9 H9; clear H7
    refine s_val (some 34) (.tuple #[uv (sm (df (rs A 0 PR) (rs B 0 PR)) PR), .bool (ov (df (rs A 0 PR) (rs B 0 PR)) PR)]) (fun w => kr) kr ?_
    refine s_val (some 38) (uv (sm (df (rs A 0 PR) (rs B 0 PR)) PR)) (fun w => kr) kr ?_
    refine s_val (some 39) (.bool (ov (df (rs A 0 PR) (rs B 0 PR)) PR)) (fun w => kr) kr ?_
    refine s_store H9 4 [(b4, Oc (uv PR) 24), (b3, Od Z4 24), (b2, Oc (uv B) 24), (b1, Oc (uv A) 24), ((g7 12), Oc (uv (sm (df (rs A 0 PR) (rs B 0 PR)) PR)) 24)] 24 (.tmp 10) (.tmp 38) (g7 12) 0 (Value.cells (uv (df (rs A 0 PR) (rs B 0 PR)))) (Value.cells (uv (sm (df (rs A 0 PR) (rs B 0 PR)) PR))) 24 (uv (sm (df (rs A 0 PR) (rs B 0 PR)) PR)) kr kr kr kr kr kr (of_decide_eq_true kr) kr kr ?_
    intro w10 H10; clear H9
    refine s_nil ?_
    show WP _ _ _ _ _ _
    refine g_sreg [0, 1, 2] kr kr ?_
    refine s_load H10 (some 40) 24 (.tmp 10) 4 (g7 12) (Value.cells (uv (sm (df (rs A 0 PR) (rs B 0 PR)) PR))) 24 (0, 0) kr kr kr kr kr ?_
    refine s_store H10 1 [(b4, Oc (uv PR) 24), (b3, Oc (uv (sm (df (rs A 0 PR) (rs B 0 PR)) PR)) 24), (b2, Oc (uv B) 24), (b1, Oc (uv A) 24), ((g7 12), Oc (uv (sm (df (rs A 0 PR) (rs B 0 PR)) PR)) 24)] 24 (.tmp 6) (.tmp 40) b3 0 Z4 (Value.cells (uv (sm (df (rs A 0 PR) (rs B 0 PR)) PR))) 24 (uv (sm (df (rs A 0 PR) (rs B 0 PR)) PR)) kr kr kr kr kr kr (of_decide_eq_true kr) kr kr ?_
    intro w11 H11; clear H10
    refine s_val (some 7) (.int .i64 0) (fun w => kr) kr ?_
    refine s_nil ?_
    refine g_ret kr ?_
    show ∃ vs, Res _ _ _ _ vs ∧ _
    refine ⟨[uv (sm (df (rs A 0 PR) (rs B 0 PR)) PR), .int .i64 0], (.agg (b := b3) (Value.cells (uv (sm (df (rs A 0 PR) (rs B 0 PR)) PR))) 24 (0, 0) kr (H11.get 1 kr) kr (.tmp (.int .i64 0) kr .nil)), ?_, H11.below⟩
    exact congrArg (fun n => Value.tuple #[uv n, .int .i64 0]) (fSub_of1 pr_ok hlo)

set_option maxRecDepth 100000 in
theorem fsub1_fn (A B : Nat) (hA : A < big) (hB : B < big) : Fn Try.prog 28 #[uv A, uv B, .int .i64 1] (.tuple #[uv (fSub A B NR), .int .i64 0]) := by
  refine Fn.intro (c := codeOf Try.f28) [.cell 6 24, .tmp 7] 41 Try.func28 kr kr kr fun w => ?_
  have H0 := St.start w
  refine g_sreg [0, 1, 2, 3] kr kr ?_
  refine s_box H0 (some 3) 24 (.tmp 0) (uv A) kr kr kr ?_
  intro b1 w1 H1; clear H0
  refine s_box H1 (some 4) 24 (.tmp 1) (uv B) kr kr kr ?_
  intro b2 w2 H2; clear H1
  refine s_alloc H2 (some 6) 24 (.agg Z4) kr kr kr ?_
  intro b3 w3 H3; clear H2
  refine s_val (some 7) (.int .i64 0) (fun w => kr) kr ?_
  refine s_nil ?_
  refine g_sreg [0, 1, 2, 3, 4, 5, 6, 7] kr kr ?_
  refine s_val (some 13) (.int .i64 1) (fun w => kr) kr ?_
  refine s_call H3 (some 14) 20 #[.int .i64 1] (.tuple #[uv NR, .int .i64 0]) prime1_fn (fun w => kr) kr ?_
  intro w4 H4; clear H3
  refine s_val (some 12) (.tuple #[uv NR, .int .i64 0]) (fun w => kr) kr ?_
  refine s_val (some 15) (uv NR) (fun w => kr) kr ?_
  refine s_val (some 16) (.int .i64 0) (fun w => kr) kr ?_
  refine s_alloc H4 (some 8) 24 (.agg Z4) kr kr kr ?_
  intro b4 w5 H5; clear H4
  refine s_store H5 0 [(b4, Oc (uv NR) 24), (b3, Od Z4 24), (b2, Oc (uv B) 24), (b1, Oc (uv A) 24)] 24 (.tmp 8) (.tmp 15) b4 0 Z4 (Value.cells (uv NR)) 24 (uv NR) kr kr kr kr kr kr (of_decide_eq_true kr) kr kr ?_
  intro w6 H6; clear H5
  refine s_val (some 9) (.int .i64 0) (fun w => kr) kr ?_
  refine s_nil ?_
  refine g_seq kr ?_
  refine g_sreg [0, 1] kr kr ?_
  refine s_val (some 17) (.int .i64 0) (fun w => kr) kr ?_
  refine s_val (some 18) (.bool false) (fun w => kr) kr ?_
  refine s_nil ?_
  refine g_cond_f kr kr ?_
  refine g_skip kr ?_
  show WP _ _ _ _ _ _
  refine g_sdraw [0, 1, 2, 3, 4, 5, 6, 7, 8, 9, 10, 11, 12, 13, 14] [((some 22), fun _ => uv A), ((some 23), fun _ => .agg Z4), ((some 24), fun _ => uv NR), ((some 25), fun _ => uv (rs A 0 NR)), ((some 26), fun _ => uv B), ((some 27), fun _ => .agg Z4), ((some 28), fun _ => uv NR), ((some 29), fun _ => uv (rs B 0 NR)), ((some 30), fun _ => .tuple #[uv (df (rs A 0 NR) (rs B 0 NR)), .bool (lo (rs A 0 NR) (rs B 0 NR))]), ((some 21), fun _ => .tuple #[uv (df (rs A 0 NR) (rs B 0 NR)), .bool (lo (rs A 0 NR) (rs B 0 NR))]), ((some 31), fun _ => uv (df (rs A 0 NR) (rs B 0 NR))), ((some 32), fun _ => .bool (lo (rs A 0 NR) (rs B 0 NR))), ((some 10), fun b => .pointer (some ⟨b, 0, none⟩)), (none, fun _ => undef), ((some 11), fun _ => .bool (lo (rs A 0 NR) (rs B 0 NR)))] (fun L g x => St w.heap.size w x ([(b4, Oc (uv NR) 24), (b3, Od Z4 24), (b2, Oc (uv B) 24), (b1, Oc (uv A) 24)] ++ (bif L 12 then [(g 12, (bif L 13 then Oc (uv (df (rs A 0 NR) (rs B 0 NR))) 24 else Od Z4 24))] else []))) kr kr kr kr (H6.drew) ⟨?_, ?_, ?_, ?_, ?_, ?_, ?_, ?_, ?_, ?_, ?_, ?_, ?_, ?_, ?_, trivial⟩ ?_
  · exact gv_load 24 (.tmp 3) (fun _ => 3) (fun g => b1) (Value.cells (uv A)) 24 (0, 0) (fun _ _ _ h => h) (fun g => kr) (fun g => kr) (fun L g _ => kr) kr
  · exact gv_val (fun _ _ _ h => h) (fun g w => kr)
  · exact gv_load 24 (.tmp 8) (fun _ => 0) (fun g => b4) (Value.cells (uv NR)) 24 (0, 0) (fun _ _ _ h => h) (fun g => kr) (fun g => kr) (fun L g _ => kr) kr
  · exact gv_call 49 #[uv A, .agg Z4, uv NR] (fun _ _ _ h => h) (rest_fn A 0 NR hA (by unfold big; omega) nr_ok) (fun g w => kr)
  · exact gv_load 24 (.tmp 4) (fun _ => 2) (fun g => b2) (Value.cells (uv B)) 24 (0, 0) (fun _ _ _ h => h) (fun g => kr) (fun g => kr) (fun L g _ => kr) kr
  · exact gv_val (fun _ _ _ h => h) (fun g w => kr)
  · exact gv_load 24 (.tmp 8) (fun _ => 0) (fun g => b4) (Value.cells (uv NR)) 24 (0, 0) (fun _ _ _ h => h) (fun g => kr) (fun g => kr) (fun L g _ => kr) kr
  · exact gv_call 49 #[uv B, .agg Z4, uv NR] (fun _ _ _ h => h) (rest_fn B 0 NR hB (by unfold big; omega) nr_ok) (fun g w => kr)
  · exact gv_call 50 #[uv (rs A 0 NR), uv (rs B 0 NR)] (fun _ _ _ h => h) (sub_fn (rs A 0 NR) (rs B 0 NR) (rs_lt nr_ok) (rs_lt nr_ok)) (fun g w => kr)
  · exact gv_val (fun _ _ _ h => h) (fun g w => kr)
  · exact gv_val (fun _ _ _ h => h) (fun g w => kr)
  · exact gv_val (fun _ _ _ h => h) (fun g w => kr)
  · exact gv_alloc 24 (.agg Z4) (fun L g => [(b4, Oc (uv NR) 24), (b3, Od Z4 24), (b2, Oc (uv B) 24), (b1, Oc (uv A) 24)]) (fun L g => ([] : List (Nat × Obj))) (fun g => kr) kr (fun L g hN => by (have hn : L 12 = false := hN.1; show ([(b4, Oc (uv NR) 24), (b3, Od Z4 24), (b2, Oc (uv B) 24), (b1, Oc (uv A) 24)] ++ (bif L 12 then [(g 12, (bif L 13 then Oc (uv (df (rs A 0 NR) (rs B 0 NR))) 24 else Od Z4 24))] else [])) = ([(b4, Oc (uv NR) 24), (b3, Od Z4 24), (b2, Oc (uv B) 24), (b1, Oc (uv A) 24)]) ++ (([] : List (Nat × Obj))); rw [hn]; rfl)) (fun L g b hN => by (have hz : L 13 = false := hN.2.2.no 12 13 kr hN.1; show ([(b4, Oc (uv NR) 24), (b3, Od Z4 24), (b2, Oc (uv B) 24), (b1, Oc (uv A) 24)]) ++ (b, Od Z4 24) :: (([] : List (Nat × Obj))) = ([(b4, Oc (uv NR) 24), (b3, Od Z4 24), (b2, Oc (uv B) 24), (b1, Oc (uv A) 24)] ++ ([(b, (bif L 13 then Oc (uv (df (rs A 0 NR) (rs B 0 NR))) 24 else Od Z4 24))])); rw [hz]; rfl))
  · exact gv_store (fun _ => 4) 24 (.tmp 10) (.tmp 31) (fun g => g 12) 0 Z4 (Value.cells (uv (df (rs A 0 NR) (rs B 0 NR)))) 24 (uv (df (rs A 0 NR) (rs B 0 NR))) (fun g => kr) (fun g => kr) (fun g => kr) kr kr (of_decide_eq_true kr) kr (fun L g hN => by (have hs13 : L 13 = false := hN.1; have hs12 : L 12 = true := before_yes hN.2.1 12 kr; show ([(b4, Oc (uv NR) 24), (b3, Od Z4 24), (b2, Oc (uv B) 24), (b1, Oc (uv A) 24)] ++ (bif L 12 then [(g 12, (bif L 13 then Oc (uv (df (rs A 0 NR) (rs B 0 NR))) 24 else Od Z4 24))] else []))[(fun _ => 4) L]? = some (g 12, Od Z4 24) ∧ ([(b4, Oc (uv NR) 24), (b3, Od Z4 24), (b2, Oc (uv B) 24), (b1, Oc (uv A) 24)] ++ (bif L 12 then [(g 12, (bif L 13 then Oc (uv (df (rs A 0 NR) (rs B 0 NR))) 24 else Od Z4 24))] else [])).set ((fun _ => 4) L) (g 12, Oc (uv (df (rs A 0 NR) (rs B 0 NR))) 24) = ([(b4, Oc (uv NR) 24), (b3, Od Z4 24), (b2, Oc (uv B) 24), (b1, Oc (uv A) 24)] ++ (bif L 12 then [(g 12, (bif true then Oc (uv (df (rs A 0 NR) (rs B 0 NR))) 24 else Od Z4 24))] else [])); rw [hs13, hs12]; exact ⟨rfl, rfl⟩))
  · exact gv_val (fun _ _ _ h => h) (fun g w => kr)
  intro L0 g7 w7 hall HL; clear H6
  have H7 : St w.heap.size w w7 [(b4, Oc (uv NR) 24), (b3, Od Z4 24), (b2, Oc (uv B) 24), (b1, Oc (uv A) 24), ((g7 12), Oc (uv (df (rs A 0 NR) (rs B 0 NR))) 24)] := by have e13 := hall 13 (Nat.le_of_ble_eq_true kr); have e12 := hall 12 (Nat.le_of_ble_eq_true kr); simp only [e13, e12, cond_true] at HL; exact HL
  clear HL hall
  refine g_seq kr ?_
  refine g_sreg [0] kr kr ?_
  cases hlo : lo (rs A 0 NR) (rs B 0 NR)
  · skip
    refine s_val (some 33) (.bool false) (fun w => kr) kr ?_
    refine s_nil ?_
    refine g_cond_f kr kr ?_
    refine g_skip kr ?_
    show WP _ _ _ _ _ _
    refine g_sreg [0, 1, 2] kr kr ?_
    refine s_load H7 (some 40) 24 (.tmp 10) 4 (g7 12) (Value.cells (uv (df (rs A 0 NR) (rs B 0 NR)))) 24 (0, 0) kr kr kr kr kr ?_
    refine s_store H7 1 [(b4, Oc (uv NR) 24), (b3, Oc (uv (df (rs A 0 NR) (rs B 0 NR))) 24), (b2, Oc (uv B) 24), (b1, Oc (uv A) 24), ((g7 12), Oc (uv (df (rs A 0 NR) (rs B 0 NR))) 24)] 24 (.tmp 6) (.tmp 40) b3 0 Z4 (Value.cells (uv (df (rs A 0 NR) (rs B 0 NR)))) 24 (uv (df (rs A 0 NR) (rs B 0 NR))) kr kr kr kr kr kr (of_decide_eq_true kr) kr kr ?_
    intro w8 H8; clear H7
    refine s_val (some 7) (.int .i64 0) (fun w => kr) kr ?_
    refine s_nil ?_
    refine g_ret kr ?_
    show ∃ vs, Res _ _ _ _ vs ∧ _
    refine ⟨[uv (df (rs A 0 NR) (rs B 0 NR)), .int .i64 0], (.agg (b := b3) (Value.cells (uv (df (rs A 0 NR) (rs B 0 NR)))) 24 (0, 0) kr (H8.get 1 kr) kr (.tmp (.int .i64 0) kr .nil)), ?_, H8.below⟩
    exact congrArg (fun n => Value.tuple #[uv n, .int .i64 0]) (fSub_of2 nr_ok hlo)
  · skip
    refine s_val (some 33) (.bool true) (fun w => kr) kr ?_
    refine s_nil ?_
    refine g_cond_t kr kr ?_
    refine g_reg0 [0, 1, 2, 3, 4, 5, 6] kr ?_
    refine s_load H7 (some 35) 24 (.tmp 10) 4 (g7 12) (Value.cells (uv (df (rs A 0 NR) (rs B 0 NR)))) 24 (0, 0) kr kr kr kr kr ?_
    refine s_load H7 (some 36) 24 (.tmp 8) 0 b4 (Value.cells (uv NR)) 24 (0, 0) kr kr kr kr kr ?_
    refine s_call H7 (some 37) 18 #[uv (df (rs A 0 NR) (rs B 0 NR)), uv NR] (.tuple #[uv (sm (df (rs A 0 NR) (rs B 0 NR)) NR), .bool (ov (df (rs A 0 NR) (rs B 0 NR)) NR)]) (add_fn (df (rs A 0 NR) (rs B 0 NR)) NR (df_lt _ _) nr_ok.1) (fun w => kr) kr ?_
    intro w9 H9; clear H7
    refine s_val (some 34) (.tuple #[uv (sm (df (rs A 0 NR) (rs B 0 NR)) NR), .bool (ov (df (rs A 0 NR) (rs B 0 NR)) NR)]) (fun w => kr) kr ?_
    refine s_val (some 38) (uv (sm (df (rs A 0 NR) (rs B 0 NR)) NR)) (fun w => kr) kr ?_
    refine s_val (some 39) (.bool (ov (df (rs A 0 NR) (rs B 0 NR)) NR)) (fun w => kr) kr ?_
    refine s_store H9 4 [(b4, Oc (uv NR) 24), (b3, Od Z4 24), (b2, Oc (uv B) 24), (b1, Oc (uv A) 24), ((g7 12), Oc (uv (sm (df (rs A 0 NR) (rs B 0 NR)) NR)) 24)] 24 (.tmp 10) (.tmp 38) (g7 12) 0 (Value.cells (uv (df (rs A 0 NR) (rs B 0 NR)))) (Value.cells (uv (sm (df (rs A 0 NR) (rs B 0 NR)) NR))) 24 (uv (sm (df (rs A 0 NR) (rs B 0 NR)) NR)) kr kr kr kr kr kr (of_decide_eq_true kr) kr kr ?_
    intro w10 H10; clear H9
    refine s_nil ?_
    show WP _ _ _ _ _ _
    refine g_sreg [0, 1, 2] kr kr ?_
    refine s_load H10 (some 40) 24 (.tmp 10) 4 (g7 12) (Value.cells (uv (sm (df (rs A 0 NR) (rs B 0 NR)) NR))) 24 (0, 0) kr kr kr kr kr ?_
    refine s_store H10 1 [(b4, Oc (uv NR) 24), (b3, Oc (uv (sm (df (rs A 0 NR) (rs B 0 NR)) NR)) 24), (b2, Oc (uv B) 24), (b1, Oc (uv A) 24), ((g7 12), Oc (uv (sm (df (rs A 0 NR) (rs B 0 NR)) NR)) 24)] 24 (.tmp 6) (.tmp 40) b3 0 Z4 (Value.cells (uv (sm (df (rs A 0 NR) (rs B 0 NR)) NR))) 24 (uv (sm (df (rs A 0 NR) (rs B 0 NR)) NR)) kr kr kr kr kr kr (of_decide_eq_true kr) kr kr ?_
    intro w11 H11; clear H10
    refine s_val (some 7) (.int .i64 0) (fun w => kr) kr ?_
    refine s_nil ?_
    refine g_ret kr ?_
    show ∃ vs, Res _ _ _ _ vs ∧ _
    refine ⟨[uv (sm (df (rs A 0 NR) (rs B 0 NR)) NR), .int .i64 0], (.agg (b := b3) (Value.cells (uv (sm (df (rs A 0 NR) (rs B 0 NR)) NR))) 24 (0, 0) kr (H11.get 1 kr) kr (.tmp (.int .i64 0) kr .nil)), ?_, H11.below⟩
    exact congrArg (fun n => Value.tuple #[uv n, .int .i64 0]) (fSub_of1 nr_ok hlo)

set_option maxRecDepth 100000 in
theorem ftimes_fn (X Y M bm : Nat) (hX : X < big) (hY : Y < big) (hM : MOK M) : FnP Try.prog 69 #[uv X, uv Y, .pointer (some ⟨bm, 0, none⟩)] (fun w => w.heap[bm]? = some (.cells (Value.cells (uv M)) 24 (0, 0))) (uv (rs (pl X Y) (ph X Y) M)) := by
  refine FnP.intro (c := codeOf Try.f69) [.cell 5 24] 18 Try.func69 kr kr kr fun w hpre => ?_
  have H0 := St.start w
  refine g_sreg [0, 1, 2] kr kr ?_
  refine s_box H0 (some 3) 24 (.tmp 0) (uv X) kr kr kr ?_
  intro b1 w1 H1; clear H0
  refine s_box H1 (some 4) 24 (.tmp 1) (uv Y) kr kr kr ?_
  intro b2 w2 H2; clear H1
  refine s_alloc H2 (some 5) 24 (.agg Z4) kr kr kr ?_
  intro b3 w3 H3; clear H2
  refine s_nil ?_
  refine g_sreg [0, 1, 2, 3, 4, 5, 6, 7, 8, 9] kr kr ?_
  refine s_load H3 (some 9) 24 (.tmp 3) 2 b1 (Value.cells (uv X)) 24 (0, 0) kr kr kr kr kr ?_
  refine s_load H3 (some 10) 24 (.tmp 4) 1 b2 (Value.cells (uv Y)) 24 (0, 0) kr kr kr kr kr ?_
  refine s_call H3 (some 11) 43 #[uv X, uv Y] (.tuple #[uv (pl X Y), uv (ph X Y)]) (mul_fn X Y hX hY) (fun w => kr) kr ?_
  intro w4 H4; clear H3
  refine s_val (some 8) (.tuple #[uv (pl X Y), uv (ph X Y)]) (fun w => kr) kr ?_
  refine s_val (some 12) (uv (pl X Y)) (fun w => kr) kr ?_
  refine s_val (some 13) (uv (ph X Y)) (fun w => kr) kr ?_
  refine s_alloc H4 (some 6) 24 (.agg Z4) kr kr kr ?_
  intro b4 w5 H5; clear H4
  refine s_alloc H5 (some 7) 24 (.agg Z4) kr kr kr ?_
  intro b5 w6 H6; clear H5
  refine s_store H6 1 [(b5, Od Z4 24), (b4, Oc (uv (pl X Y)) 24), (b3, Od Z4 24), (b2, Oc (uv Y) 24), (b1, Oc (uv X) 24)] 24 (.tmp 6) (.tmp 12) b4 0 Z4 (Value.cells (uv (pl X Y))) 24 (uv (pl X Y)) kr kr kr kr kr kr (of_decide_eq_true kr) kr kr ?_
  intro w7 H7; clear H6
  refine s_store H7 0 [(b5, Oc (uv (ph X Y)) 24), (b4, Oc (uv (pl X Y)) 24), (b3, Od Z4 24), (b2, Oc (uv Y) 24), (b1, Oc (uv X) 24)] 24 (.tmp 7) (.tmp 13) b5 0 Z4 (Value.cells (uv (ph X Y))) 24 (uv (ph X Y)) kr kr kr kr kr kr (of_decide_eq_true kr) kr kr ?_
  intro w8 H8; clear H7
  refine s_nil ?_
  refine g_sreg [0, 1, 2, 3, 4] kr kr ?_
  refine s_load H8 (some 14) 24 (.tmp 6) 1 b4 (Value.cells (uv (pl X Y))) 24 (0, 0) kr kr kr kr kr ?_
  refine s_load H8 (some 15) 24 (.tmp 7) 0 b5 (Value.cells (uv (ph X Y))) 24 (0, 0) kr kr kr kr kr ?_
  refine s_loadF H8 (some 16) 24 (.tmp 2) bm (Value.cells (uv M)) 24 (0, 0) kr kr kr hpre (lt_of_heap hpre) kr ?_
  refine s_call H8 (some 17) 49 #[uv (pl X Y), uv (ph X Y), uv M] (uv (rs (pl X Y) (ph X Y) M)) (rest_fn (pl X Y) (ph X Y) M (pl_lt _ _) (ph_lt hX hY) hM) (fun w => kr) kr ?_
  intro w9 H9; clear H8
  refine s_store H9 2 [(b5, Oc (uv (ph X Y)) 24), (b4, Oc (uv (pl X Y)) 24), (b3, Oc (uv (rs (pl X Y) (ph X Y) M)) 24), (b2, Oc (uv Y) 24), (b1, Oc (uv X) 24)] 24 (.tmp 5) (.tmp 17) b3 0 Z4 (Value.cells (uv (rs (pl X Y) (ph X Y) M))) 24 (uv (rs (pl X Y) (ph X Y) M)) kr kr kr kr kr kr (of_decide_eq_true kr) kr kr ?_
  intro w10 H10; clear H9
  refine s_nil ?_
  refine g_ret kr ?_
  show ∃ vs, Res _ _ _ _ vs ∧ _
  refine ⟨[uv (rs (pl X Y) (ph X Y) M)], (.agg (b := b3) (Value.cells (uv (rs (pl X Y) (ph X Y) M))) 24 (0, 0) kr (H10.get 2 kr) kr .nil), ?_, H10.below⟩
  rfl

set_option maxRecDepth 100000 in
theorem pow0_fn (A n : Nat) (hA : A < big) (hn : n < big) : Fn Try.prog 61 #[uv A, uv n, .int .i64 0] (.tuple #[uv (fpw A n PR), .int .i64 0]) := by
  refine Fn.intro (c := codeOf Try.f61) [.cell 6 24, .tmp 7] 43 Try.func61 kr kr kr fun w => ?_
  have H0 := St.start w
  refine g_sreg [0, 1, 2, 3] kr kr ?_
  refine s_box H0 (some 3) 24 (.tmp 0) (uv A) kr kr kr ?_
  intro b1 w1 H1; clear H0
  refine s_box H1 (some 4) 24 (.tmp 1) (uv n) kr kr kr ?_
  intro b2 w2 H2; clear H1
  refine s_alloc H2 (some 6) 24 (.agg Z4) kr kr kr ?_
  intro b3 w3 H3; clear H2
  refine s_val (some 7) (.int .i64 0) (fun w => kr) kr ?_
  refine s_nil ?_
  refine g_sreg [0, 1, 2, 3, 4, 5, 6, 7] kr kr ?_
  refine s_val (some 14) (.int .i64 0) (fun w => kr) kr ?_
  refine s_call H3 (some 15) 20 #[.int .i64 0] (.tuple #[uv PR, .int .i64 0]) prime0_fn (fun w => kr) kr ?_
  intro w4 H4; clear H3
  refine s_val (some 13) (.tuple #[uv PR, .int .i64 0]) (fun w => kr) kr ?_
  refine s_val (some 16) (uv PR) (fun w => kr) kr ?_
  refine s_val (some 17) (.int .i64 0) (fun w => kr) kr ?_
  refine s_alloc H4 (some 8) 24 (.agg Z4) kr kr kr ?_
  intro b4 w5 H5; clear H4
  refine s_store H5 0 [(b4, Oc (uv PR) 24), (b3, Od Z4 24), (b2, Oc (uv n) 24), (b1, Oc (uv A) 24)] 24 (.tmp 8) (.tmp 16) b4 0 Z4 (Value.cells (uv PR)) 24 (uv PR) kr kr kr kr kr kr (of_decide_eq_true kr) kr kr ?_
  intro w6 H6; clear H5
  refine s_val (some 9) (.int .i64 0) (fun w => kr) kr ?_
  refine s_nil ?_
  refine g_seq kr ?_
  refine g_sreg [0, 1] kr kr ?_
  refine s_val (some 18) (.int .i64 0) (fun w => kr) kr ?_
  refine s_val (some 19) (.bool false) (fun w => kr) kr ?_
  refine s_nil ?_
  refine g_cond_f kr kr ?_
  refine g_skip kr ?_
  show WP _ _ _ _ _ _
  refine g_sreg [0, 1] kr kr ?_
  refine s_val (some 22) (.func (.func 69) #[] #[.pointer (some ⟨b4, 0, none⟩)]) (fun w => kr) kr ?_
  refine s_val (some 10) (.func (.func 69) #[] #[.pointer (some ⟨b4, 0, none⟩)]) (fun w => kr) kr ?_
  refine s_nil ?_
  refine g_sreg [0, 1, 2] kr kr ?_
  refine s_call H6 (some 23) 44 #[.int .u64 1] (uv 1) (small_fn 1 (by omega)) (fun w => kr) kr ?_
  intro w7 H7; clear H6
  refine s_alloc H7 (some 11) 24 (.agg Z4) kr kr kr ?_
  intro b5 w8 H8; clear H7
  refine s_store H8 0 [(b5, Oc (uv 1) 24), (b4, Oc (uv PR) 24), (b3, Od Z4 24), (b2, Oc (uv n) 24), (b1, Oc (uv A) 24)] 24 (.tmp 11) (.tmp 23) b5 0 Z4 (Value.cells (uv 1)) 24 (uv 1) kr kr kr kr kr kr (of_decide_eq_true kr) kr kr ?_
  intro w9 H9; clear H8
  refine s_nil ?_
  refine g_seq kr ?_
  refine g_sreg [0, 1, 2, 3] kr kr ?_
  refine s_load H9 (some 24) 24 (.tmp 4) 3 b2 (Value.cells (uv n)) 24 (0, 0) kr kr kr kr kr ?_
  refine s_call H9 (some 25) 70 #[uv n] (.int .i64 (len n : Int)) (len_fn n hn) (fun w => kr) kr ?_
  intro w10 H10; clear H9
  refine s_valE (some 26) (.int .i64 (IntKind.i64.wrap ((len n : Int) - 1))) (.int .i64 ((len n : Int) - 1)) (fun w => kr) (int_eq (by rw [wrap_i64] <;> (have := len_le hn; omega))) kr ?_
  refine s_val (some 12) (.int .i64 ((len n : Int) - 1)) (fun w => kr) kr ?_
  refine s_nil ?_
  refine g_block 0 kr ?_
  have hst : uv 1 = uv (fpw A (n / 2 ^ len n) PR) := congrArg uv (fpw_start pr_ok (lt_two_pow_len n))
  rw [hst] at H10
  refine g_loop kr (fun m ρ x => ∃ (k : Nat), k = m ∧ (k ≤ 256) ∧ St w.heap.size w x [(b5, Oc (uv (fpw A (n / 2 ^ k) PR)) 24), (b4, Oc (uv PR) 24), (b3, Od Z4 24), (b2, Oc (uv n) 24), (b1, Oc (uv A) 24)] ∧ Is [(0, uv A), (1, uv n), (2, .int .i64 0), (3, .pointer (some ⟨b1, 0, none⟩)), (4, .pointer (some ⟨b2, 0, none⟩)), (6, .pointer (some ⟨b3, 0, none⟩)), (7, .int .i64 0), (8, .pointer (some ⟨b4, 0, none⟩)), (9, .int .i64 0), (10, .func (.func 69) #[] #[.pointer (some ⟨b4, 0, none⟩)]), (11, .pointer (some ⟨b5, 0, none⟩)), (12, .int .i64 ((k : Int) - 1)), (19, .bool false)] ρ) (len n) ⟨(len n), rfl, (len_le hn), H10, (Is.of ⟨kr, kr, kr, kr, kr, kr, kr, kr, kr, kr, kr, kr, kr, trivial⟩)⟩ ?_
  clear H10
  rintro _ _ w11 ⟨k, rfl, hk, H11, _, rfl⟩
  refine g_seq kr ?_
  refine g_sreg [0, 1] kr kr ?_
  refine s_val (some 27) (.int .i64 ((k : Int) - 1)) (fun w => kr) kr ?_
  by_cases hc : 1 ≤ k
  · skip
    refine s_valE (some 28) (.bool (decide (0 ≤ (k : Int) - 1))) (.bool true) (fun w => kr) (bool_eq (decide_eq_true (by omega))) kr ?_
    refine s_nil ?_
    refine g_cond_t kr kr ?_
    refine g_skip kr ?_
    show WP _ _ _ _ _ _
    refine g_seq kr ?_
    refine g_block 1 kr ?_
    refine g_sreg [0, 1, 2, 3, 4] kr kr ?_
    refine s_val (some 31) (.func (.func 69) #[] #[.pointer (some ⟨b4, 0, none⟩)]) (fun w => kr) kr ?_
    refine s_load H11 (some 32) 24 (.tmp 11) 0 b5 (Value.cells (uv (fpw A (n / 2 ^ k) PR))) 24 (0, 0) kr kr kr kr kr ?_
    refine s_load H11 (some 33) 24 (.tmp 11) 0 b5 (Value.cells (uv (fpw A (n / 2 ^ k) PR))) 24 (0, 0) kr kr kr kr kr ?_
    refine s_callP H11 (some 34) 69 #[uv (fpw A (n / 2 ^ k) PR), uv (fpw A (n / 2 ^ k) PR), .pointer (some ⟨b4, 0, none⟩)] (fun w => w.heap[b4]? = some (.cells (Value.cells (uv PR)) 24 (0, 0))) (uv (rs (pl (fpw A (n / 2 ^ k) PR) (fpw A (n / 2 ^ k) PR)) (ph (fpw A (n / 2 ^ k) PR) (fpw A (n / 2 ^ k) PR)) PR)) (ftimes_fn (fpw A (n / 2 ^ k) PR) (fpw A (n / 2 ^ k) PR) PR b4 (fpw_lt pr_ok) (fpw_lt pr_ok) pr_ok) (H11.get 1 kr) (fun w => kr) kr ?_
    intro w12 H12; clear H11
    refine s_store H12 0 [(b5, Oc (uv (rs (pl (fpw A (n / 2 ^ k) PR) (fpw A (n / 2 ^ k) PR)) (ph (fpw A (n / 2 ^ k) PR) (fpw A (n / 2 ^ k) PR)) PR)) 24), (b4, Oc (uv PR) 24), (b3, Od Z4 24), (b2, Oc (uv n) 24), (b1, Oc (uv A) 24)] 24 (.tmp 11) (.tmp 34) b5 0 (Value.cells (uv (fpw A (n / 2 ^ k) PR))) (Value.cells (uv (rs (pl (fpw A (n / 2 ^ k) PR) (fpw A (n / 2 ^ k) PR)) (ph (fpw A (n / 2 ^ k) PR) (fpw A (n / 2 ^ k) PR)) PR))) 24 (uv (rs (pl (fpw A (n / 2 ^ k) PR) (fpw A (n / 2 ^ k) PR)) (ph (fpw A (n / 2 ^ k) PR) (fpw A (n / 2 ^ k) PR)) PR)) kr kr kr kr kr kr (of_decide_eq_true kr) kr kr ?_
    intro w13 H13; clear H12
    refine s_nil ?_
    refine g_sreg [0, 1, 2] kr kr ?_
    refine s_load H13 (some 35) 24 (.tmp 4) 3 b2 (Value.cells (uv n)) 24 (0, 0) kr kr kr kr kr ?_
    refine s_valE (some 36) (.int .i64 ((k : Int) - 1)) (.int .i64 ((k - 1 : Nat) : Int)) (fun w => kr) (int_eq (by omega)) kr ?_
    refine s_call H13 (some 37) 62 #[uv n, .int .i64 ((k - 1 : Nat) : Int)] (.bool (bt n ((k - 1 : Nat) : Int))) (bit_fn n ((k - 1 : Nat) : Int)) (fun w => kr) kr ?_
    intro w14 H14; clear H13
    cases hbt : bt n ((k - 1 : Nat) : Int)
    · skip
      refine s_nil ?_
      refine g_cond_f kr kr ?_
      refine g_skip kr ?_
      show WP _ _ _ _ _ _
      refine g_reg0 [0, 1, 2] kr ?_
      refine s_val (some 29) (.int .i64 ((k : Int) - 1)) (fun w => kr) kr ?_
      refine s_valE (some 30) (.int .i64 (IntKind.i64.wrap (((k : Int) - 1) - 1))) (.int .i64 (((k - 1 : Nat) : Int) - 1)) (fun w => kr) (int_eq (by rw [wrap_i64 (by omega) (by omega)]; omega)) kr ?_
      refine s_val (some 12) (.int .i64 (((k - 1 : Nat) : Int) - 1)) (fun w => kr) kr ?_
      refine s_nil ?_
      rw [bt_nat (by omega)] at hbt
      have hst : (rs (pl (fpw A (n / 2 ^ k) PR) (fpw A (n / 2 ^ k) PR)) (ph (fpw A (n / 2 ^ k) PR) (fpw A (n / 2 ^ k) PR)) PR) = fpw A (n / 2 ^ (k - 1)) PR := fpw_double (by omega) hbt
      rw [hst] at H14
      show ∃ m, _ ∧ _
      exact ⟨_, (show k - 1 < k by omega), (k - 1), rfl, (by omega), H14, (Is.of ⟨kr, kr, kr, kr, kr, kr, kr, kr, kr, kr, kr, kr, kr, trivial⟩)⟩
    · skip
      refine s_nil ?_
      refine g_cond_t kr kr ?_
      refine g_reg0 [0, 1, 2, 3, 4] kr ?_
      refine s_val (some 38) (.func (.func 69) #[] #[.pointer (some ⟨b4, 0, none⟩)]) (fun w => kr) kr ?_
      refine s_load H14 (some 39) 24 (.tmp 11) 0 b5 (Value.cells (uv (rs (pl (fpw A (n / 2 ^ k) PR) (fpw A (n / 2 ^ k) PR)) (ph (fpw A (n / 2 ^ k) PR) (fpw A (n / 2 ^ k) PR)) PR))) 24 (0, 0) kr kr kr kr kr ?_
      refine s_load H14 (some 40) 24 (.tmp 3) 4 b1 (Value.cells (uv A)) 24 (0, 0) kr kr kr kr kr ?_
      refine s_callP H14 (some 41) 69 #[uv (rs (pl (fpw A (n / 2 ^ k) PR) (fpw A (n / 2 ^ k) PR)) (ph (fpw A (n / 2 ^ k) PR) (fpw A (n / 2 ^ k) PR)) PR), uv A, .pointer (some ⟨b4, 0, none⟩)] (fun w => w.heap[b4]? = some (.cells (Value.cells (uv PR)) 24 (0, 0))) (uv (rs (pl (rs (pl (fpw A (n / 2 ^ k) PR) (fpw A (n / 2 ^ k) PR)) (ph (fpw A (n / 2 ^ k) PR) (fpw A (n / 2 ^ k) PR)) PR) A) (ph (rs (pl (fpw A (n / 2 ^ k) PR) (fpw A (n / 2 ^ k) PR)) (ph (fpw A (n / 2 ^ k) PR) (fpw A (n / 2 ^ k) PR)) PR) A) PR)) (ftimes_fn (rs (pl (fpw A (n / 2 ^ k) PR) (fpw A (n / 2 ^ k) PR)) (ph (fpw A (n / 2 ^ k) PR) (fpw A (n / 2 ^ k) PR)) PR) A PR b4 (rs_lt pr_ok) hA pr_ok) (H14.get 1 kr) (fun w => kr) kr ?_
      intro w15 H15; clear H14
      refine s_store H15 0 [(b5, Oc (uv (rs (pl (rs (pl (fpw A (n / 2 ^ k) PR) (fpw A (n / 2 ^ k) PR)) (ph (fpw A (n / 2 ^ k) PR) (fpw A (n / 2 ^ k) PR)) PR) A) (ph (rs (pl (fpw A (n / 2 ^ k) PR) (fpw A (n / 2 ^ k) PR)) (ph (fpw A (n / 2 ^ k) PR) (fpw A (n / 2 ^ k) PR)) PR) A) PR)) 24), (b4, Oc (uv PR) 24), (b3, Od Z4 24), (b2, Oc (uv n) 24), (b1, Oc (uv A) 24)] 24 (.tmp 11) (.tmp 41) b5 0 (Value.cells (uv (rs (pl (fpw A (n / 2 ^ k) PR) (fpw A (n / 2 ^ k) PR)) (ph (fpw A (n / 2 ^ k) PR) (fpw A (n / 2 ^ k) PR)) PR))) (Value.cells (uv (rs (pl (rs (pl (fpw A (n / 2 ^ k) PR) (fpw A (n / 2 ^ k) PR)) (ph (fpw A (n / 2 ^ k) PR) (fpw A (n / 2 ^ k) PR)) PR) A) (ph (rs (pl (fpw A (n / 2 ^ k) PR) (fpw A (n / 2 ^ k) PR)) (ph (fpw A (n / 2 ^ k) PR) (fpw A (n / 2 ^ k) PR)) PR) A) PR))) 24 (uv (rs (pl (rs (pl (fpw A (n / 2 ^ k) PR) (fpw A (n / 2 ^ k) PR)) (ph (fpw A (n / 2 ^ k) PR) (fpw A (n / 2 ^ k) PR)) PR) A) (ph (rs (pl (fpw A (n / 2 ^ k) PR) (fpw A (n / 2 ^ k) PR)) (ph (fpw A (n / 2 ^ k) PR) (fpw A (n / 2 ^ k) PR)) PR) A) PR)) kr kr kr kr kr kr (of_decide_eq_true kr) kr kr ?_
      intro w16 H16; clear H15
      refine s_nil ?_
      show WP _ _ _ _ _ _
      refine g_reg0 [0, 1, 2] kr ?_
      refine s_val (some 29) (.int .i64 ((k : Int) - 1)) (fun w => kr) kr ?_
      refine s_valE (some 30) (.int .i64 (IntKind.i64.wrap (((k : Int) - 1) - 1))) (.int .i64 (((k - 1 : Nat) : Int) - 1)) (fun w => kr) (int_eq (by rw [wrap_i64 (by omega) (by omega)]; omega)) kr ?_
      refine s_val (some 12) (.int .i64 (((k - 1 : Nat) : Int) - 1)) (fun w => kr) kr ?_
      refine s_nil ?_
      rw [bt_nat (by omega)] at hbt
      have hst : (rs (pl (rs (pl (fpw A (n / 2 ^ k) PR) (fpw A (n / 2 ^ k) PR)) (ph (fpw A (n / 2 ^ k) PR) (fpw A (n / 2 ^ k) PR)) PR) A) (ph (rs (pl (fpw A (n / 2 ^ k) PR) (fpw A (n / 2 ^ k) PR)) (ph (fpw A (n / 2 ^ k) PR) (fpw A (n / 2 ^ k) PR)) PR) A) PR) = fpw A (n / 2 ^ (k - 1)) PR := fpw_odd (by omega) hbt
      rw [hst] at H16
      show ∃ m, _ ∧ _
      exact ⟨_, (show k - 1 < k by omega), (k - 1), rfl, (by omega), H16, (Is.of ⟨kr, kr, kr, kr, kr, kr, kr, kr, kr, kr, kr, kr, kr, trivial⟩)⟩
  · skip
    refine s_valE (some 28) (.bool (decide (0 ≤ (k : Int) - 1))) (.bool false) (fun w => kr) (bool_eq (decide_eq_false (by omega))) kr ?_
    obtain rfl : k = 0 := by omega
    refine s_nil ?_
    refine g_cond_f kr kr ?_
    refine g_exit 0 kr ?_
    show WP _ _ _ _ _ _
    refine g_sreg [0, 1, 2] kr kr ?_
    refine s_load H11 (some 42) 24 (.tmp 11) 0 b5 (Value.cells (uv (fpw A (n / 2 ^ 0) PR))) 24 (0, 0) kr kr kr kr kr ?_
    refine s_store H11 2 [(b5, Oc (uv (fpw A (n / 2 ^ 0) PR)) 24), (b4, Oc (uv PR) 24), (b3, Oc (uv (fpw A (n / 2 ^ 0) PR)) 24), (b2, Oc (uv n) 24), (b1, Oc (uv A) 24)] 24 (.tmp 6) (.tmp 42) b3 0 Z4 (Value.cells (uv (fpw A (n / 2 ^ 0) PR))) 24 (uv (fpw A (n / 2 ^ 0) PR)) kr kr kr kr kr kr (of_decide_eq_true kr) kr kr ?_
    intro w17 H17; clear H11
    refine s_val (some 7) (.int .i64 0) (fun w => kr) kr ?_
    refine s_nil ?_
    refine g_ret kr ?_
    show ∃ vs, Res _ _ _ _ vs ∧ _
    refine ⟨[uv (fpw A (n / 2 ^ 0) PR), .int .i64 0], (.agg (b := b3) (Value.cells (uv (fpw A (n / 2 ^ 0) PR))) 24 (0, 0) kr (H17.get 2 kr) kr (.tmp (.int .i64 0) kr .nil)), ?_, H17.below⟩
    exact congrArg (fun q => Value.tuple #[uv (fpw A q PR), .int .i64 0]) (Nat.div_one n)

end Go.Proofs.Ytljhbhhpfkmemaa
