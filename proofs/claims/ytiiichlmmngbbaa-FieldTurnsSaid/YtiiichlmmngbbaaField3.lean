/-
  More calls of package field: what turns a number, roots; the statements' own first call.
-/
import Derived.Test.YtiiichlmmngbbaaField2
namespace Go.Proofs.Ytiiichlmmngbbaa
open Go Go.RowKit
set_option linter.unusedVariables false
/-- The power that turns a number. -/
def finv (A M : Nat) : Nat := fpw A (df M 2) M
def QR : Nat := 28948022309329048855892746252171976963317496166410141009864396001977208667916
/-- The root, if there is one. -/
def rt (A : Nat) : Nat := if bt (fpw A QR PR) 0 then fSub 0 (fpw A QR PR) PR else fpw A QR PR
theorem rt_lt (A : Nat) : rt A < big := by unfold rt; split; exact fSub_lt pr_ok; exact fpw_lt pr_ok
theorem qr_lt : QR < big := by unfold QR big; omega

set_option maxRecDepth 100000 in
theorem invZero0_fn (A : Nat) (hA : A < big) (hz : rs A 0 PR = 0) : Fn Try.prog 50 #[uv A, .int .i64 0] (.tuple #[.agg #[.int .u64 0, .int .u64 0, .int .u64 0, .int .u64 0], .int .i64 6]) := by
  refine Fn.intro (c := codeOf Try.f50) [.cell 4 24, .tmp 5] 38 Try.func50 (by kernel_rfl) (by kernel_rfl) (by kernel_rfl) fun w => ?_
  have H0 := St.start w
  refine g_sreg [0, 1, 2] (by kernel_rfl) (by kernel_rfl) ?_
  refine s_box H0 (some 2) 24 (.tmp 0) (uv A) (by kernel_rfl) (by kernel_rfl) (by kernel_rfl) ?_
  intro b1 w1 H1; clear H0
  refine s_alloc H1 (some 4) 24 (.agg #[.int .u64 0, .int .u64 0, .int .u64 0, .int .u64 0]) (by kernel_rfl) (by kernel_rfl) (by kernel_rfl) ?_
  intro b2 w2 H2; clear H1
  refine s_val (some 5) (.int .i64 0) (fun w => by kernel_rfl) (by kernel_rfl) ?_
  refine s_nil ?_
  refine g_sreg [0, 1, 2, 3, 4, 5, 6, 7] (by kernel_rfl) (by kernel_rfl) ?_
  refine s_val (some 11) (.int .i64 0) (fun w => by kernel_rfl) (by kernel_rfl) ?_
  refine s_call H2 (some 12) 38 #[.int .i64 0] (.tuple #[uv PR, .int .i64 0]) prime0_fn (fun w => by kernel_rfl) (by kernel_rfl) ?_
  intro w3 H3; clear H2
  refine s_val (some 10) (.tuple #[uv PR, .int .i64 0]) (fun w => by kernel_rfl) (by kernel_rfl) ?_
  refine s_val (some 13) (uv PR) (fun w => by kernel_rfl) (by kernel_rfl) ?_
  refine s_val (some 14) (.int .i64 0) (fun w => by kernel_rfl) (by kernel_rfl) ?_
  refine s_alloc H3 (some 6) 24 (.agg #[.int .u64 0, .int .u64 0, .int .u64 0, .int .u64 0]) (by kernel_rfl) (by kernel_rfl) (by kernel_rfl) ?_
  intro b3 w4 H4; clear H3
  refine s_store H4 0 [(b3, Obj.cells (Value.cells (uv PR)) 24 (0, 0)), (b2, Obj.cells #[.int .u64 0, .int .u64 0, .int .u64 0, .int .u64 0] 24 (0, 0)), (b1, Obj.cells (Value.cells (uv A)) 24 (0, 0))] 24 (.tmp 6) (.tmp 13) b3 0 #[.int .u64 0, .int .u64 0, .int .u64 0, .int .u64 0] (Value.cells (uv PR)) 24 (uv PR) (by kernel_rfl) (by kernel_rfl) (by kernel_rfl) (by kernel_rfl) (by kernel_rfl) (by kernel_rfl) (of_decide_eq_true (by kernel_rfl)) (by kernel_rfl) (by kernel_rfl) ?_
  intro w5 H5; clear H4
  refine s_val (some 7) (.int .i64 0) (fun w => by kernel_rfl) (by kernel_rfl) ?_
  refine s_nil ?_
  refine g_seq (by kernel_rfl) ?_
  refine g_sreg [0, 1] (by kernel_rfl) (by kernel_rfl) ?_
  refine s_val (some 15) (.int .i64 0) (fun w => by kernel_rfl) (by kernel_rfl) ?_
  refine s_val (some 16) (.bool false) (fun w => by kernel_rfl) (by kernel_rfl) ?_
  refine s_nil ?_
  refine g_cond_f (by kernel_rfl) (by kernel_rfl) ?_
  refine g_skip (by kernel_rfl) ?_
  show WP _ _ _ _ _ _
  refine g_seq (by kernel_rfl) ?_
  refine g_sreg [0, 1, 2, 3, 4, 5] (by kernel_rfl) (by kernel_rfl) ?_
  refine s_load H5 (some 19) 24 (.tmp 2) 2 b1 (Value.cells (uv A)) 24 (0, 0) (by kernel_rfl) (by kernel_rfl) (by kernel_rfl) (by kernel_rfl) (by kernel_rfl) ?_
  refine s_val (some 20) (.agg #[.int .u64 0, .int .u64 0, .int .u64 0, .int .u64 0]) (fun w => by kernel_rfl) (by kernel_rfl) ?_
  refine s_load H5 (some 21) 24 (.tmp 6) 0 b3 (Value.cells (uv PR)) 24 (0, 0) (by kernel_rfl) (by kernel_rfl) (by kernel_rfl) (by kernel_rfl) (by kernel_rfl) ?_
  refine s_call H5 (some 22) 63 #[uv A, .agg #[.int .u64 0, .int .u64 0, .int .u64 0, .int .u64 0], uv PR] (uv (rs A 0 PR)) (rest_fn A 0 PR hA (by unfold big; omega) pr_ok) (fun w => by kernel_rfl) (by kernel_rfl) ?_
  intro w6 H6; clear H5
  refine s_val (some 23) (.agg #[.int .u64 0, .int .u64 0, .int .u64 0, .int .u64 0]) (fun w => by kernel_rfl) (by kernel_rfl) ?_
  refine s_opE (some 24) _ (.bool (decide ((rs A 0 PR) = 0))) (.bool true) (by kernel_rfl) (fun o w ho => eqU_run (x := (.tmp 22)) (y := (.tmp 23)) (rs A 0 PR) 0 (rs_lt pr_ok) (by unfold big; omega) w ho (by kernel_rfl) (by kernel_rfl)) (by rw [decide_eq_true hz] <;> rfl) (by kernel_rfl) ?_
  refine s_nil ?_
  refine g_cond_t (by kernel_rfl) (by kernel_rfl) ?_
  refine g_sreg [0, 1, 2] (by kernel_rfl) (by kernel_rfl) ?_
  refine s_val (some 25) (.agg #[.int .u64 0, .int .u64 0, .int .u64 0, .int .u64 0]) (fun w => by kernel_rfl) (by kernel_rfl) ?_
  refine s_store H6 1 [(b3, Obj.cells (Value.cells (uv PR)) 24 (0, 0)), (b2, Obj.cells #[.int .u64 0, .int .u64 0, .int .u64 0, .int .u64 0] 24 (0, 0)), (b1, Obj.cells (Value.cells (uv A)) 24 (0, 0))] 24 (.tmp 4) (.tmp 25) b2 0 #[.int .u64 0, .int .u64 0, .int .u64 0, .int .u64 0] #[.int .u64 0, .int .u64 0, .int .u64 0, .int .u64 0] 24 (.agg #[.int .u64 0, .int .u64 0, .int .u64 0, .int .u64 0]) (by kernel_rfl) (by kernel_rfl) (by kernel_rfl) (by kernel_rfl) (by kernel_rfl) (by kernel_rfl) (of_decide_eq_true (by kernel_rfl)) (by kernel_rfl) (by kernel_rfl) ?_
  intro w7 H7; clear H6
  refine s_val (some 5) (.int .i64 6) (fun w => by kernel_rfl) (by kernel_rfl) ?_
  refine s_nil ?_
  refine g_ret (by kernel_rfl) ?_
  show ∃ vs, Res _ _ _ _ vs ∧ _
  refine ⟨[.agg #[.int .u64 0, .int .u64 0, .int .u64 0, .int .u64 0], .int .i64 6], (.agg (b := b2) #[.int .u64 0, .int .u64 0, .int .u64 0, .int .u64 0] 24 (0, 0) (by kernel_rfl) (H7.get 1 (by kernel_rfl)) (by kernel_rfl) (.tmp (.int .i64 6) (by kernel_rfl) .nil)), ?_, H7.below⟩
  rfl

set_option maxRecDepth 100000 in
theorem inv0_fn (A : Nat) (hA : A < big) (hz : rs A 0 PR ≠ 0) : Fn Try.prog 50 #[uv A, .int .i64 0] (.tuple #[uv (finv A PR), .int .i64 0]) := by
  refine Fn.intro (c := codeOf Try.f50) [.cell 4 24, .tmp 5] 38 Try.func50 (by kernel_rfl) (by kernel_rfl) (by kernel_rfl) fun w => ?_
  have H0 := St.start w
  refine g_sreg [0, 1, 2] (by kernel_rfl) (by kernel_rfl) ?_
  refine s_box H0 (some 2) 24 (.tmp 0) (uv A) (by kernel_rfl) (by kernel_rfl) (by kernel_rfl) ?_
  intro b1 w1 H1; clear H0
  refine s_alloc H1 (some 4) 24 (.agg #[.int .u64 0, .int .u64 0, .int .u64 0, .int .u64 0]) (by kernel_rfl) (by kernel_rfl) (by kernel_rfl) ?_
  intro b2 w2 H2; clear H1
  refine s_val (some 5) (.int .i64 0) (fun w => by kernel_rfl) (by kernel_rfl) ?_
  refine s_nil ?_
  refine g_sreg [0, 1, 2, 3, 4, 5, 6, 7] (by kernel_rfl) (by kernel_rfl) ?_
  refine s_val (some 11) (.int .i64 0) (fun w => by kernel_rfl) (by kernel_rfl) ?_
  refine s_call H2 (some 12) 38 #[.int .i64 0] (.tuple #[uv PR, .int .i64 0]) prime0_fn (fun w => by kernel_rfl) (by kernel_rfl) ?_
  intro w3 H3; clear H2
  refine s_val (some 10) (.tuple #[uv PR, .int .i64 0]) (fun w => by kernel_rfl) (by kernel_rfl) ?_
  refine s_val (some 13) (uv PR) (fun w => by kernel_rfl) (by kernel_rfl) ?_
  refine s_val (some 14) (.int .i64 0) (fun w => by kernel_rfl) (by kernel_rfl) ?_
  refine s_alloc H3 (some 6) 24 (.agg #[.int .u64 0, .int .u64 0, .int .u64 0, .int .u64 0]) (by kernel_rfl) (by kernel_rfl) (by kernel_rfl) ?_
  intro b3 w4 H4; clear H3
  refine s_store H4 0 [(b3, Obj.cells (Value.cells (uv PR)) 24 (0, 0)), (b2, Obj.cells #[.int .u64 0, .int .u64 0, .int .u64 0, .int .u64 0] 24 (0, 0)), (b1, Obj.cells (Value.cells (uv A)) 24 (0, 0))] 24 (.tmp 6) (.tmp 13) b3 0 #[.int .u64 0, .int .u64 0, .int .u64 0, .int .u64 0] (Value.cells (uv PR)) 24 (uv PR) (by kernel_rfl) (by kernel_rfl) (by kernel_rfl) (by kernel_rfl) (by kernel_rfl) (by kernel_rfl) (of_decide_eq_true (by kernel_rfl)) (by kernel_rfl) (by kernel_rfl) ?_
  intro w5 H5; clear H4
  refine s_val (some 7) (.int .i64 0) (fun w => by kernel_rfl) (by kernel_rfl) ?_
  refine s_nil ?_
  refine g_seq (by kernel_rfl) ?_
  refine g_sreg [0, 1] (by kernel_rfl) (by kernel_rfl) ?_
  refine s_val (some 15) (.int .i64 0) (fun w => by kernel_rfl) (by kernel_rfl) ?_
  refine s_val (some 16) (.bool false) (fun w => by kernel_rfl) (by kernel_rfl) ?_
  refine s_nil ?_
  refine g_cond_f (by kernel_rfl) (by kernel_rfl) ?_
  refine g_skip (by kernel_rfl) ?_
  show WP _ _ _ _ _ _
  refine g_seq (by kernel_rfl) ?_
  refine g_sreg [0, 1, 2, 3, 4, 5] (by kernel_rfl) (by kernel_rfl) ?_
  refine s_load H5 (some 19) 24 (.tmp 2) 2 b1 (Value.cells (uv A)) 24 (0, 0) (by kernel_rfl) (by kernel_rfl) (by kernel_rfl) (by kernel_rfl) (by kernel_rfl) ?_
  refine s_val (some 20) (.agg #[.int .u64 0, .int .u64 0, .int .u64 0, .int .u64 0]) (fun w => by kernel_rfl) (by kernel_rfl) ?_
  refine s_load H5 (some 21) 24 (.tmp 6) 0 b3 (Value.cells (uv PR)) 24 (0, 0) (by kernel_rfl) (by kernel_rfl) (by kernel_rfl) (by kernel_rfl) (by kernel_rfl) ?_
  refine s_call H5 (some 22) 63 #[uv A, .agg #[.int .u64 0, .int .u64 0, .int .u64 0, .int .u64 0], uv PR] (uv (rs A 0 PR)) (rest_fn A 0 PR hA (by unfold big; omega) pr_ok) (fun w => by kernel_rfl) (by kernel_rfl) ?_
  intro w6 H6; clear H5
  refine s_val (some 23) (.agg #[.int .u64 0, .int .u64 0, .int .u64 0, .int .u64 0]) (fun w => by kernel_rfl) (by kernel_rfl) ?_
  refine s_opE (some 24) _ (.bool (decide ((rs A 0 PR) = 0))) (.bool false) (by kernel_rfl) (fun o w ho => eqU_run (x := (.tmp 22)) (y := (.tmp 23)) (rs A 0 PR) 0 (rs_lt pr_ok) (by unfold big; omega) w ho (by kernel_rfl) (by kernel_rfl)) (by rw [decide_eq_false hz] <;> rfl) (by kernel_rfl) ?_
  refine s_nil ?_
  refine g_cond_f (by kernel_rfl) (by kernel_rfl) ?_
  refine g_skip (by kernel_rfl) ?_
  show WP _ _ _ _ _ _
  refine g_sdraw [0, 1, 2, 3, 4, 5, 6, 7, 8] [((some 27), fun _ => uv PR), ((some 28), fun _ => uv 2), ((some 29), fun _ => .tuple #[uv (df PR 2), .bool (lo PR 2)]), ((some 26), fun _ => .tuple #[uv (df PR 2), .bool (lo PR 2)]), ((some 30), fun _ => uv (df PR 2)), ((some 31), fun _ => .bool (lo PR 2)), ((some 8), fun b => .pointer (some ⟨b, 0, none⟩)), (none, fun _ => undef), ((some 9), fun _ => .bool (lo PR 2))] (fun L g x => St w.heap.size w x ([(b3, Obj.cells (Value.cells (uv PR)) 24 (0, 0)), (b2, Obj.cells #[.int .u64 0, .int .u64 0, .int .u64 0, .int .u64 0] 24 (0, 0)), (b1, Obj.cells (Value.cells (uv A)) 24 (0, 0))] ++ (bif L 6 then [(g 6, (bif L 7 then Obj.cells (Value.cells (uv (df PR 2))) 24 (0, 0) else Obj.cells #[.int .u64 0, .int .u64 0, .int .u64 0, .int .u64 0] 24 (0, 0)))] else []))) (by kernel_rfl) (by kernel_rfl) (by kernel_rfl) (by kernel_rfl) (H6.drew) ⟨?_, ?_, ?_, ?_, ?_, ?_, ?_, ?_, ?_, trivial⟩ ?_
  · exact gv_load 24 (.tmp 6) (fun _ => 0) (fun g => b3) (Value.cells (uv PR)) 24 (0, 0) (fun _ _ _ h => h) (fun g => by kernel_rfl) (fun g => by kernel_rfl) (fun L g _ => by kernel_rfl) (by kernel_rfl)
  · exact gv_call 36 #[.int .u64 2] (fun _ _ _ h => h) (small_fn 2 (by omega)) (fun g w => by kernel_rfl)
  · exact gv_call 17 #[uv PR, uv 2] (fun _ _ _ h => h) (sub_fn PR 2 pr_ok.1 (by unfold big; omega)) (fun g w => by kernel_rfl)
  · exact gv_val (fun _ _ _ h => h) (fun g w => by kernel_rfl)
  · exact gv_val (fun _ _ _ h => h) (fun g w => by kernel_rfl)
  · exact gv_val (fun _ _ _ h => h) (fun g w => by kernel_rfl)
  · exact gv_alloc 24 (.agg #[.int .u64 0, .int .u64 0, .int .u64 0, .int .u64 0]) (fun L g => [(b3, Obj.cells (Value.cells (uv PR)) 24 (0, 0)), (b2, Obj.cells #[.int .u64 0, .int .u64 0, .int .u64 0, .int .u64 0] 24 (0, 0)), (b1, Obj.cells (Value.cells (uv A)) 24 (0, 0))]) (fun L g => ([] : List (Nat × Obj))) (fun g => by kernel_rfl) (by kernel_rfl) (fun L g hN => by (have hn : L 6 = false := hN.1; show ([(b3, Obj.cells (Value.cells (uv PR)) 24 (0, 0)), (b2, Obj.cells #[.int .u64 0, .int .u64 0, .int .u64 0, .int .u64 0] 24 (0, 0)), (b1, Obj.cells (Value.cells (uv A)) 24 (0, 0))] ++ (bif L 6 then [(g 6, (bif L 7 then Obj.cells (Value.cells (uv (df PR 2))) 24 (0, 0) else Obj.cells #[.int .u64 0, .int .u64 0, .int .u64 0, .int .u64 0] 24 (0, 0)))] else [])) = ([(b3, Obj.cells (Value.cells (uv PR)) 24 (0, 0)), (b2, Obj.cells #[.int .u64 0, .int .u64 0, .int .u64 0, .int .u64 0] 24 (0, 0)), (b1, Obj.cells (Value.cells (uv A)) 24 (0, 0))]) ++ (([] : List (Nat × Obj))); rw [hn]; rfl)) (fun L g b hN => by (have hz : L 7 = false := hN.2.2.no 6 7 (by kernel_rfl) hN.1; show ([(b3, Obj.cells (Value.cells (uv PR)) 24 (0, 0)), (b2, Obj.cells #[.int .u64 0, .int .u64 0, .int .u64 0, .int .u64 0] 24 (0, 0)), (b1, Obj.cells (Value.cells (uv A)) 24 (0, 0))]) ++ (b, Obj.cells #[.int .u64 0, .int .u64 0, .int .u64 0, .int .u64 0] 24 (0, 0)) :: (([] : List (Nat × Obj))) = ([(b3, Obj.cells (Value.cells (uv PR)) 24 (0, 0)), (b2, Obj.cells #[.int .u64 0, .int .u64 0, .int .u64 0, .int .u64 0] 24 (0, 0)), (b1, Obj.cells (Value.cells (uv A)) 24 (0, 0))] ++ ([(b, (bif L 7 then Obj.cells (Value.cells (uv (df PR 2))) 24 (0, 0) else Obj.cells #[.int .u64 0, .int .u64 0, .int .u64 0, .int .u64 0] 24 (0, 0)))])); rw [hz]; rfl))
  · exact gv_store (fun _ => 3) 24 (.tmp 8) (.tmp 30) (fun g => g 6) 0 #[.int .u64 0, .int .u64 0, .int .u64 0, .int .u64 0] (Value.cells (uv (df PR 2))) 24 (uv (df PR 2)) (fun g => by kernel_rfl) (fun g => by kernel_rfl) (fun g => by kernel_rfl) (by kernel_rfl) (by kernel_rfl) (of_decide_eq_true (by kernel_rfl)) (by kernel_rfl) (fun L g hN => by (have hs7 : L 7 = false := hN.1; have hs6 : L 6 = true := before_yes hN.2.1 6 (by kernel_rfl); show ([(b3, Obj.cells (Value.cells (uv PR)) 24 (0, 0)), (b2, Obj.cells #[.int .u64 0, .int .u64 0, .int .u64 0, .int .u64 0] 24 (0, 0)), (b1, Obj.cells (Value.cells (uv A)) 24 (0, 0))] ++ (bif L 6 then [(g 6, (bif L 7 then Obj.cells (Value.cells (uv (df PR 2))) 24 (0, 0) else Obj.cells #[.int .u64 0, .int .u64 0, .int .u64 0, .int .u64 0] 24 (0, 0)))] else []))[(fun _ => 3) L]? = some (g 6, Obj.cells #[.int .u64 0, .int .u64 0, .int .u64 0, .int .u64 0] 24 (0, 0)) ∧ ([(b3, Obj.cells (Value.cells (uv PR)) 24 (0, 0)), (b2, Obj.cells #[.int .u64 0, .int .u64 0, .int .u64 0, .int .u64 0] 24 (0, 0)), (b1, Obj.cells (Value.cells (uv A)) 24 (0, 0))] ++ (bif L 6 then [(g 6, (bif L 7 then Obj.cells (Value.cells (uv (df PR 2))) 24 (0, 0) else Obj.cells #[.int .u64 0, .int .u64 0, .int .u64 0, .int .u64 0] 24 (0, 0)))] else [])).set ((fun _ => 3) L) (g 6, Obj.cells (Value.cells (uv (df PR 2))) 24 (0, 0)) = ([(b3, Obj.cells (Value.cells (uv PR)) 24 (0, 0)), (b2, Obj.cells #[.int .u64 0, .int .u64 0, .int .u64 0, .int .u64 0] 24 (0, 0)), (b1, Obj.cells (Value.cells (uv A)) 24 (0, 0))] ++ (bif L 6 then [(g 6, (bif true then Obj.cells (Value.cells (uv (df PR 2))) 24 (0, 0) else Obj.cells #[.int .u64 0, .int .u64 0, .int .u64 0, .int .u64 0] 24 (0, 0)))] else [])); rw [hs7, hs6]; exact ⟨rfl, rfl⟩))
  · exact gv_val (fun _ _ _ h => h) (fun g w => by kernel_rfl)
  intro L0 g7 w7 hall HL; clear H6
  have H7 : St w.heap.size w w7 [(b3, Obj.cells (Value.cells (uv PR)) 24 (0, 0)), (b2, Obj.cells #[.int .u64 0, .int .u64 0, .int .u64 0, .int .u64 0] 24 (0, 0)), (b1, Obj.cells (Value.cells (uv A)) 24 (0, 0)), ((g7 6), Obj.cells (Value.cells (uv (df PR 2))) 24 (0, 0))] := by have e7 := hall 7 (Nat.le_of_ble_eq_true (by kernel_rfl)); have e6 := hall 6 (Nat.le_of_ble_eq_true (by kernel_rfl)); simp only [e7, e6, cond_true] at HL; exact HL
  clear HL hall
  refine g_sreg [0, 1, 2, 3, 4, 5, 6, 7] (by kernel_rfl) (by kernel_rfl) ?_
  refine s_load H7 (some 32) 24 (.tmp 2) 2 b1 (Value.cells (uv A)) 24 (0, 0) (by kernel_rfl) (by kernel_rfl) (by kernel_rfl) (by kernel_rfl) (by kernel_rfl) ?_
  refine s_load H7 (some 33) 24 (.tmp 8) 3 (g7 6) (Value.cells (uv (df PR 2))) 24 (0, 0) (by kernel_rfl) (by kernel_rfl) (by kernel_rfl) (by kernel_rfl) (by kernel_rfl) ?_
  refine s_val (some 34) (.int .i64 0) (fun w => by kernel_rfl) (by kernel_rfl) ?_
  refine s_call H7 (some 35) 49 #[uv A, uv (df PR 2), .int .i64 0] (.tuple #[uv (fpw A (df PR 2) PR), .int .i64 0]) (pow0_fn A (df PR 2) hA (df_lt _ _)) (fun w => by kernel_rfl) (by kernel_rfl) ?_
  intro w8 H8; clear H7
  refine s_val (some 36) (uv (fpw A (df PR 2) PR)) (fun w => by kernel_rfl) (by kernel_rfl) ?_
  refine s_val (some 37) (.int .i64 0) (fun w => by kernel_rfl) (by kernel_rfl) ?_
  refine s_store H8 1 [(b3, Obj.cells (Value.cells (uv PR)) 24 (0, 0)), (b2, Obj.cells (Value.cells (uv (fpw A (df PR 2) PR))) 24 (0, 0)), (b1, Obj.cells (Value.cells (uv A)) 24 (0, 0)), ((g7 6), Obj.cells (Value.cells (uv (df PR 2))) 24 (0, 0))] 24 (.tmp 4) (.tmp 36) b2 0 #[.int .u64 0, .int .u64 0, .int .u64 0, .int .u64 0] (Value.cells (uv (fpw A (df PR 2) PR))) 24 (uv (fpw A (df PR 2) PR)) (by kernel_rfl) (by kernel_rfl) (by kernel_rfl) (by kernel_rfl) (by kernel_rfl) (by kernel_rfl) (of_decide_eq_true (by kernel_rfl)) (by kernel_rfl) (by kernel_rfl) ?_
  intro w9 H9; clear H8
  refine s_val (some 5) (.int .i64 0) (fun w => by kernel_rfl) (by kernel_rfl) ?_
  refine s_nil ?_
  refine g_ret (by kernel_rfl) ?_
  show ∃ vs, Res _ _ _ _ vs ∧ _
  refine ⟨[uv (fpw A (df PR 2) PR), .int .i64 0], (.agg (b := b2) (Value.cells (uv (fpw A (df PR 2) PR))) 24 (0, 0) (by kernel_rfl) (H9.get 1 (by kernel_rfl)) (by kernel_rfl) (.tmp (.int .i64 0) (by kernel_rfl) .nil)), ?_, H9.below⟩
  rfl

set_option maxRecDepth 100000 in
theorem invZero1_fn (A : Nat) (hA : A < big) (hz : rs A 0 NR = 0) : Fn Try.prog 50 #[uv A, .int .i64 1] (.tuple #[.agg #[.int .u64 0, .int .u64 0, .int .u64 0, .int .u64 0], .int .i64 6]) := by
  refine Fn.intro (c := codeOf Try.f50) [.cell 4 24, .tmp 5] 38 Try.func50 (by kernel_rfl) (by kernel_rfl) (by kernel_rfl) fun w => ?_
  have H0 := St.start w
  refine g_sreg [0, 1, 2] (by kernel_rfl) (by kernel_rfl) ?_
  refine s_box H0 (some 2) 24 (.tmp 0) (uv A) (by kernel_rfl) (by kernel_rfl) (by kernel_rfl) ?_
  intro b1 w1 H1; clear H0
  refine s_alloc H1 (some 4) 24 (.agg #[.int .u64 0, .int .u64 0, .int .u64 0, .int .u64 0]) (by kernel_rfl) (by kernel_rfl) (by kernel_rfl) ?_
  intro b2 w2 H2; clear H1
  refine s_val (some 5) (.int .i64 0) (fun w => by kernel_rfl) (by kernel_rfl) ?_
  refine s_nil ?_
  refine g_sreg [0, 1, 2, 3, 4, 5, 6, 7] (by kernel_rfl) (by kernel_rfl) ?_
  refine s_val (some 11) (.int .i64 1) (fun w => by kernel_rfl) (by kernel_rfl) ?_
  refine s_call H2 (some 12) 38 #[.int .i64 1] (.tuple #[uv NR, .int .i64 0]) prime1_fn (fun w => by kernel_rfl) (by kernel_rfl) ?_
  intro w3 H3; clear H2
  refine s_val (some 10) (.tuple #[uv NR, .int .i64 0]) (fun w => by kernel_rfl) (by kernel_rfl) ?_
  refine s_val (some 13) (uv NR) (fun w => by kernel_rfl) (by kernel_rfl) ?_
  refine s_val (some 14) (.int .i64 0) (fun w => by kernel_rfl) (by kernel_rfl) ?_
  refine s_alloc H3 (some 6) 24 (.agg #[.int .u64 0, .int .u64 0, .int .u64 0, .int .u64 0]) (by kernel_rfl) (by kernel_rfl) (by kernel_rfl) ?_
  intro b3 w4 H4; clear H3
  refine s_store H4 0 [(b3, Obj.cells (Value.cells (uv NR)) 24 (0, 0)), (b2, Obj.cells #[.int .u64 0, .int .u64 0, .int .u64 0, .int .u64 0] 24 (0, 0)), (b1, Obj.cells (Value.cells (uv A)) 24 (0, 0))] 24 (.tmp 6) (.tmp 13) b3 0 #[.int .u64 0, .int .u64 0, .int .u64 0, .int .u64 0] (Value.cells (uv NR)) 24 (uv NR) (by kernel_rfl) (by kernel_rfl) (by kernel_rfl) (by kernel_rfl) (by kernel_rfl) (by kernel_rfl) (of_decide_eq_true (by kernel_rfl)) (by kernel_rfl) (by kernel_rfl) ?_
  intro w5 H5; clear H4
  refine s_val (some 7) (.int .i64 0) (fun w => by kernel_rfl) (by kernel_rfl) ?_
  refine s_nil ?_
  refine g_seq (by kernel_rfl) ?_
  refine g_sreg [0, 1] (by kernel_rfl) (by kernel_rfl) ?_
  refine s_val (some 15) (.int .i64 0) (fun w => by kernel_rfl) (by kernel_rfl) ?_
  refine s_val (some 16) (.bool false) (fun w => by kernel_rfl) (by kernel_rfl) ?_
  refine s_nil ?_
  refine g_cond_f (by kernel_rfl) (by kernel_rfl) ?_
  refine g_skip (by kernel_rfl) ?_
  show WP _ _ _ _ _ _
  refine g_seq (by kernel_rfl) ?_
  refine g_sreg [0, 1, 2, 3, 4, 5] (by kernel_rfl) (by kernel_rfl) ?_
  refine s_load H5 (some 19) 24 (.tmp 2) 2 b1 (Value.cells (uv A)) 24 (0, 0) (by kernel_rfl) (by kernel_rfl) (by kernel_rfl) (by kernel_rfl) (by kernel_rfl) ?_
  refine s_val (some 20) (.agg #[.int .u64 0, .int .u64 0, .int .u64 0, .int .u64 0]) (fun w => by kernel_rfl) (by kernel_rfl) ?_
  refine s_load H5 (some 21) 24 (.tmp 6) 0 b3 (Value.cells (uv NR)) 24 (0, 0) (by kernel_rfl) (by kernel_rfl) (by kernel_rfl) (by kernel_rfl) (by kernel_rfl) ?_
  refine s_call H5 (some 22) 63 #[uv A, .agg #[.int .u64 0, .int .u64 0, .int .u64 0, .int .u64 0], uv NR] (uv (rs A 0 NR)) (rest_fn A 0 NR hA (by unfold big; omega) nr_ok) (fun w => by kernel_rfl) (by kernel_rfl) ?_
  intro w6 H6; clear H5
  refine s_val (some 23) (.agg #[.int .u64 0, .int .u64 0, .int .u64 0, .int .u64 0]) (fun w => by kernel_rfl) (by kernel_rfl) ?_
  refine s_opE (some 24) _ (.bool (decide ((rs A 0 NR) = 0))) (.bool true) (by kernel_rfl) (fun o w ho => eqU_run (x := (.tmp 22)) (y := (.tmp 23)) (rs A 0 NR) 0 (rs_lt nr_ok) (by unfold big; omega) w ho (by kernel_rfl) (by kernel_rfl)) (by rw [decide_eq_true hz] <;> rfl) (by kernel_rfl) ?_
  refine s_nil ?_
  refine g_cond_t (by kernel_rfl) (by kernel_rfl) ?_
  refine g_sreg [0, 1, 2] (by kernel_rfl) (by kernel_rfl) ?_
  refine s_val (some 25) (.agg #[.int .u64 0, .int .u64 0, .int .u64 0, .int .u64 0]) (fun w => by kernel_rfl) (by kernel_rfl) ?_
  refine s_store H6 1 [(b3, Obj.cells (Value.cells (uv NR)) 24 (0, 0)), (b2, Obj.cells #[.int .u64 0, .int .u64 0, .int .u64 0, .int .u64 0] 24 (0, 0)), (b1, Obj.cells (Value.cells (uv A)) 24 (0, 0))] 24 (.tmp 4) (.tmp 25) b2 0 #[.int .u64 0, .int .u64 0, .int .u64 0, .int .u64 0] #[.int .u64 0, .int .u64 0, .int .u64 0, .int .u64 0] 24 (.agg #[.int .u64 0, .int .u64 0, .int .u64 0, .int .u64 0]) (by kernel_rfl) (by kernel_rfl) (by kernel_rfl) (by kernel_rfl) (by kernel_rfl) (by kernel_rfl) (of_decide_eq_true (by kernel_rfl)) (by kernel_rfl) (by kernel_rfl) ?_
  intro w7 H7; clear H6
  refine s_val (some 5) (.int .i64 6) (fun w => by kernel_rfl) (by kernel_rfl) ?_
  refine s_nil ?_
  refine g_ret (by kernel_rfl) ?_
  show ∃ vs, Res _ _ _ _ vs ∧ _
  refine ⟨[.agg #[.int .u64 0, .int .u64 0, .int .u64 0, .int .u64 0], .int .i64 6], (.agg (b := b2) #[.int .u64 0, .int .u64 0, .int .u64 0, .int .u64 0] 24 (0, 0) (by kernel_rfl) (H7.get 1 (by kernel_rfl)) (by kernel_rfl) (.tmp (.int .i64 6) (by kernel_rfl) .nil)), ?_, H7.below⟩
  rfl

set_option maxRecDepth 100000 in
theorem inv1_fn (A : Nat) (hA : A < big) (hz : rs A 0 NR ≠ 0) : Fn Try.prog 50 #[uv A, .int .i64 1] (.tuple #[uv (finv A NR), .int .i64 0]) := by
  refine Fn.intro (c := codeOf Try.f50) [.cell 4 24, .tmp 5] 38 Try.func50 (by kernel_rfl) (by kernel_rfl) (by kernel_rfl) fun w => ?_
  have H0 := St.start w
  refine g_sreg [0, 1, 2] (by kernel_rfl) (by kernel_rfl) ?_
  refine s_box H0 (some 2) 24 (.tmp 0) (uv A) (by kernel_rfl) (by kernel_rfl) (by kernel_rfl) ?_
  intro b1 w1 H1; clear H0
  refine s_alloc H1 (some 4) 24 (.agg #[.int .u64 0, .int .u64 0, .int .u64 0, .int .u64 0]) (by kernel_rfl) (by kernel_rfl) (by kernel_rfl) ?_
  intro b2 w2 H2; clear H1
  refine s_val (some 5) (.int .i64 0) (fun w => by kernel_rfl) (by kernel_rfl) ?_
  refine s_nil ?_
  refine g_sreg [0, 1, 2, 3, 4, 5, 6, 7] (by kernel_rfl) (by kernel_rfl) ?_
  refine s_val (some 11) (.int .i64 1) (fun w => by kernel_rfl) (by kernel_rfl) ?_
  refine s_call H2 (some 12) 38 #[.int .i64 1] (.tuple #[uv NR, .int .i64 0]) prime1_fn (fun w => by kernel_rfl) (by kernel_rfl) ?_
  intro w3 H3; clear H2
  refine s_val (some 10) (.tuple #[uv NR, .int .i64 0]) (fun w => by kernel_rfl) (by kernel_rfl) ?_
  refine s_val (some 13) (uv NR) (fun w => by kernel_rfl) (by kernel_rfl) ?_
  refine s_val (some 14) (.int .i64 0) (fun w => by kernel_rfl) (by kernel_rfl) ?_
  refine s_alloc H3 (some 6) 24 (.agg #[.int .u64 0, .int .u64 0, .int .u64 0, .int .u64 0]) (by kernel_rfl) (by kernel_rfl) (by kernel_rfl) ?_
  intro b3 w4 H4; clear H3
  refine s_store H4 0 [(b3, Obj.cells (Value.cells (uv NR)) 24 (0, 0)), (b2, Obj.cells #[.int .u64 0, .int .u64 0, .int .u64 0, .int .u64 0] 24 (0, 0)), (b1, Obj.cells (Value.cells (uv A)) 24 (0, 0))] 24 (.tmp 6) (.tmp 13) b3 0 #[.int .u64 0, .int .u64 0, .int .u64 0, .int .u64 0] (Value.cells (uv NR)) 24 (uv NR) (by kernel_rfl) (by kernel_rfl) (by kernel_rfl) (by kernel_rfl) (by kernel_rfl) (by kernel_rfl) (of_decide_eq_true (by kernel_rfl)) (by kernel_rfl) (by kernel_rfl) ?_
  intro w5 H5; clear H4
  refine s_val (some 7) (.int .i64 0) (fun w => by kernel_rfl) (by kernel_rfl) ?_
  refine s_nil ?_
  refine g_seq (by kernel_rfl) ?_
  refine g_sreg [0, 1] (by kernel_rfl) (by kernel_rfl) ?_
  refine s_val (some 15) (.int .i64 0) (fun w => by kernel_rfl) (by kernel_rfl) ?_
  refine s_val (some 16) (.bool false) (fun w => by kernel_rfl) (by kernel_rfl) ?_
  refine s_nil ?_
  refine g_cond_f (by kernel_rfl) (by kernel_rfl) ?_
  refine g_skip (by kernel_rfl) ?_
  show WP _ _ _ _ _ _
  refine g_seq (by kernel_rfl) ?_
  refine g_sreg [0, 1, 2, 3, 4, 5] (by kernel_rfl) (by kernel_rfl) ?_
  refine s_load H5 (some 19) 24 (.tmp 2) 2 b1 (Value.cells (uv A)) 24 (0, 0) (by kernel_rfl) (by kernel_rfl) (by kernel_rfl) (by kernel_rfl) (by kernel_rfl) ?_
  refine s_val (some 20) (.agg #[.int .u64 0, .int .u64 0, .int .u64 0, .int .u64 0]) (fun w => by kernel_rfl) (by kernel_rfl) ?_
  refine s_load H5 (some 21) 24 (.tmp 6) 0 b3 (Value.cells (uv NR)) 24 (0, 0) (by kernel_rfl) (by kernel_rfl) (by kernel_rfl) (by kernel_rfl) (by kernel_rfl) ?_
  refine s_call H5 (some 22) 63 #[uv A, .agg #[.int .u64 0, .int .u64 0, .int .u64 0, .int .u64 0], uv NR] (uv (rs A 0 NR)) (rest_fn A 0 NR hA (by unfold big; omega) nr_ok) (fun w => by kernel_rfl) (by kernel_rfl) ?_
  intro w6 H6; clear H5
  refine s_val (some 23) (.agg #[.int .u64 0, .int .u64 0, .int .u64 0, .int .u64 0]) (fun w => by kernel_rfl) (by kernel_rfl) ?_
  refine s_opE (some 24) _ (.bool (decide ((rs A 0 NR) = 0))) (.bool false) (by kernel_rfl) (fun o w ho => eqU_run (x := (.tmp 22)) (y := (.tmp 23)) (rs A 0 NR) 0 (rs_lt nr_ok) (by unfold big; omega) w ho (by kernel_rfl) (by kernel_rfl)) (by rw [decide_eq_false hz] <;> rfl) (by kernel_rfl) ?_
  refine s_nil ?_
  refine g_cond_f (by kernel_rfl) (by kernel_rfl) ?_
  refine g_skip (by kernel_rfl) ?_
  show WP _ _ _ _ _ _
  refine g_sdraw [0, 1, 2, 3, 4, 5, 6, 7, 8] [((some 27), fun _ => uv NR), ((some 28), fun _ => uv 2), ((some 29), fun _ => .tuple #[uv (df NR 2), .bool (lo NR 2)]), ((some 26), fun _ => .tuple #[uv (df NR 2), .bool (lo NR 2)]), ((some 30), fun _ => uv (df NR 2)), ((some 31), fun _ => .bool (lo NR 2)), ((some 8), fun b => .pointer (some ⟨b, 0, none⟩)), (none, fun _ => undef), ((some 9), fun _ => .bool (lo NR 2))] (fun L g x => St w.heap.size w x ([(b3, Obj.cells (Value.cells (uv NR)) 24 (0, 0)), (b2, Obj.cells #[.int .u64 0, .int .u64 0, .int .u64 0, .int .u64 0] 24 (0, 0)), (b1, Obj.cells (Value.cells (uv A)) 24 (0, 0))] ++ (bif L 6 then [(g 6, (bif L 7 then Obj.cells (Value.cells (uv (df NR 2))) 24 (0, 0) else Obj.cells #[.int .u64 0, .int .u64 0, .int .u64 0, .int .u64 0] 24 (0, 0)))] else []))) (by kernel_rfl) (by kernel_rfl) (by kernel_rfl) (by kernel_rfl) (H6.drew) ⟨?_, ?_, ?_, ?_, ?_, ?_, ?_, ?_, ?_, trivial⟩ ?_
  · exact gv_load 24 (.tmp 6) (fun _ => 0) (fun g => b3) (Value.cells (uv NR)) 24 (0, 0) (fun _ _ _ h => h) (fun g => by kernel_rfl) (fun g => by kernel_rfl) (fun L g _ => by kernel_rfl) (by kernel_rfl)
  · exact gv_call 36 #[.int .u64 2] (fun _ _ _ h => h) (small_fn 2 (by omega)) (fun g w => by kernel_rfl)
  · exact gv_call 17 #[uv NR, uv 2] (fun _ _ _ h => h) (sub_fn NR 2 nr_ok.1 (by unfold big; omega)) (fun g w => by kernel_rfl)
  · exact gv_val (fun _ _ _ h => h) (fun g w => by kernel_rfl)
  · exact gv_val (fun _ _ _ h => h) (fun g w => by kernel_rfl)
  · exact gv_val (fun _ _ _ h => h) (fun g w => by kernel_rfl)
  · exact gv_alloc 24 (.agg #[.int .u64 0, .int .u64 0, .int .u64 0, .int .u64 0]) (fun L g => [(b3, Obj.cells (Value.cells (uv NR)) 24 (0, 0)), (b2, Obj.cells #[.int .u64 0, .int .u64 0, .int .u64 0, .int .u64 0] 24 (0, 0)), (b1, Obj.cells (Value.cells (uv A)) 24 (0, 0))]) (fun L g => ([] : List (Nat × Obj))) (fun g => by kernel_rfl) (by kernel_rfl) (fun L g hN => by (have hn : L 6 = false := hN.1; show ([(b3, Obj.cells (Value.cells (uv NR)) 24 (0, 0)), (b2, Obj.cells #[.int .u64 0, .int .u64 0, .int .u64 0, .int .u64 0] 24 (0, 0)), (b1, Obj.cells (Value.cells (uv A)) 24 (0, 0))] ++ (bif L 6 then [(g 6, (bif L 7 then Obj.cells (Value.cells (uv (df NR 2))) 24 (0, 0) else Obj.cells #[.int .u64 0, .int .u64 0, .int .u64 0, .int .u64 0] 24 (0, 0)))] else [])) = ([(b3, Obj.cells (Value.cells (uv NR)) 24 (0, 0)), (b2, Obj.cells #[.int .u64 0, .int .u64 0, .int .u64 0, .int .u64 0] 24 (0, 0)), (b1, Obj.cells (Value.cells (uv A)) 24 (0, 0))]) ++ (([] : List (Nat × Obj))); rw [hn]; rfl)) (fun L g b hN => by (have hz : L 7 = false := hN.2.2.no 6 7 (by kernel_rfl) hN.1; show ([(b3, Obj.cells (Value.cells (uv NR)) 24 (0, 0)), (b2, Obj.cells #[.int .u64 0, .int .u64 0, .int .u64 0, .int .u64 0] 24 (0, 0)), (b1, Obj.cells (Value.cells (uv A)) 24 (0, 0))]) ++ (b, Obj.cells #[.int .u64 0, .int .u64 0, .int .u64 0, .int .u64 0] 24 (0, 0)) :: (([] : List (Nat × Obj))) = ([(b3, Obj.cells (Value.cells (uv NR)) 24 (0, 0)), (b2, Obj.cells #[.int .u64 0, .int .u64 0, .int .u64 0, .int .u64 0] 24 (0, 0)), (b1, Obj.cells (Value.cells (uv A)) 24 (0, 0))] ++ ([(b, (bif L 7 then Obj.cells (Value.cells (uv (df NR 2))) 24 (0, 0) else Obj.cells #[.int .u64 0, .int .u64 0, .int .u64 0, .int .u64 0] 24 (0, 0)))])); rw [hz]; rfl))
  · exact gv_store (fun _ => 3) 24 (.tmp 8) (.tmp 30) (fun g => g 6) 0 #[.int .u64 0, .int .u64 0, .int .u64 0, .int .u64 0] (Value.cells (uv (df NR 2))) 24 (uv (df NR 2)) (fun g => by kernel_rfl) (fun g => by kernel_rfl) (fun g => by kernel_rfl) (by kernel_rfl) (by kernel_rfl) (of_decide_eq_true (by kernel_rfl)) (by kernel_rfl) (fun L g hN => by (have hs7 : L 7 = false := hN.1; have hs6 : L 6 = true := before_yes hN.2.1 6 (by kernel_rfl); show ([(b3, Obj.cells (Value.cells (uv NR)) 24 (0, 0)), (b2, Obj.cells #[.int .u64 0, .int .u64 0, .int .u64 0, .int .u64 0] 24 (0, 0)), (b1, Obj.cells (Value.cells (uv A)) 24 (0, 0))] ++ (bif L 6 then [(g 6, (bif L 7 then Obj.cells (Value.cells (uv (df NR 2))) 24 (0, 0) else Obj.cells #[.int .u64 0, .int .u64 0, .int .u64 0, .int .u64 0] 24 (0, 0)))] else []))[(fun _ => 3) L]? = some (g 6, Obj.cells #[.int .u64 0, .int .u64 0, .int .u64 0, .int .u64 0] 24 (0, 0)) ∧ ([(b3, Obj.cells (Value.cells (uv NR)) 24 (0, 0)), (b2, Obj.cells #[.int .u64 0, .int .u64 0, .int .u64 0, .int .u64 0] 24 (0, 0)), (b1, Obj.cells (Value.cells (uv A)) 24 (0, 0))] ++ (bif L 6 then [(g 6, (bif L 7 then Obj.cells (Value.cells (uv (df NR 2))) 24 (0, 0) else Obj.cells #[.int .u64 0, .int .u64 0, .int .u64 0, .int .u64 0] 24 (0, 0)))] else [])).set ((fun _ => 3) L) (g 6, Obj.cells (Value.cells (uv (df NR 2))) 24 (0, 0)) = ([(b3, Obj.cells (Value.cells (uv NR)) 24 (0, 0)), (b2, Obj.cells #[.int .u64 0, .int .u64 0, .int .u64 0, .int .u64 0] 24 (0, 0)), (b1, Obj.cells (Value.cells (uv A)) 24 (0, 0))] ++ (bif L 6 then [(g 6, (bif true then Obj.cells (Value.cells (uv (df NR 2))) 24 (0, 0) else Obj.cells #[.int .u64 0, .int .u64 0, .int .u64 0, .int .u64 0] 24 (0, 0)))] else [])); rw [hs7, hs6]; exact ⟨rfl, rfl⟩))
  · exact gv_val (fun _ _ _ h => h) (fun g w => by kernel_rfl)
  intro L0 g7 w7 hall HL; clear H6
  have H7 : St w.heap.size w w7 [(b3, Obj.cells (Value.cells (uv NR)) 24 (0, 0)), (b2, Obj.cells #[.int .u64 0, .int .u64 0, .int .u64 0, .int .u64 0] 24 (0, 0)), (b1, Obj.cells (Value.cells (uv A)) 24 (0, 0)), ((g7 6), Obj.cells (Value.cells (uv (df NR 2))) 24 (0, 0))] := by have e7 := hall 7 (Nat.le_of_ble_eq_true (by kernel_rfl)); have e6 := hall 6 (Nat.le_of_ble_eq_true (by kernel_rfl)); simp only [e7, e6, cond_true] at HL; exact HL
  clear HL hall
  refine g_sreg [0, 1, 2, 3, 4, 5, 6, 7] (by kernel_rfl) (by kernel_rfl) ?_
  refine s_load H7 (some 32) 24 (.tmp 2) 2 b1 (Value.cells (uv A)) 24 (0, 0) (by kernel_rfl) (by kernel_rfl) (by kernel_rfl) (by kernel_rfl) (by kernel_rfl) ?_
  refine s_load H7 (some 33) 24 (.tmp 8) 3 (g7 6) (Value.cells (uv (df NR 2))) 24 (0, 0) (by kernel_rfl) (by kernel_rfl) (by kernel_rfl) (by kernel_rfl) (by kernel_rfl) ?_
  refine s_val (some 34) (.int .i64 1) (fun w => by kernel_rfl) (by kernel_rfl) ?_
  refine s_call H7 (some 35) 49 #[uv A, uv (df NR 2), .int .i64 1] (.tuple #[uv (fpw A (df NR 2) NR), .int .i64 0]) (pow1_fn A (df NR 2) hA (df_lt _ _)) (fun w => by kernel_rfl) (by kernel_rfl) ?_
  intro w8 H8; clear H7
  refine s_val (some 36) (uv (fpw A (df NR 2) NR)) (fun w => by kernel_rfl) (by kernel_rfl) ?_
  refine s_val (some 37) (.int .i64 0) (fun w => by kernel_rfl) (by kernel_rfl) ?_
  refine s_store H8 1 [(b3, Obj.cells (Value.cells (uv NR)) 24 (0, 0)), (b2, Obj.cells (Value.cells (uv (fpw A (df NR 2) NR))) 24 (0, 0)), (b1, Obj.cells (Value.cells (uv A)) 24 (0, 0)), ((g7 6), Obj.cells (Value.cells (uv (df NR 2))) 24 (0, 0))] 24 (.tmp 4) (.tmp 36) b2 0 #[.int .u64 0, .int .u64 0, .int .u64 0, .int .u64 0] (Value.cells (uv (fpw A (df NR 2) NR))) 24 (uv (fpw A (df NR 2) NR)) (by kernel_rfl) (by kernel_rfl) (by kernel_rfl) (by kernel_rfl) (by kernel_rfl) (by kernel_rfl) (of_decide_eq_true (by kernel_rfl)) (by kernel_rfl) (by kernel_rfl) ?_
  intro w9 H9; clear H8
  refine s_val (some 5) (.int .i64 0) (fun w => by kernel_rfl) (by kernel_rfl) ?_
  refine s_nil ?_
  refine g_ret (by kernel_rfl) ?_
  show ∃ vs, Res _ _ _ _ vs ∧ _
  refine ⟨[uv (fpw A (df NR 2) NR), .int .i64 0], (.agg (b := b2) (Value.cells (uv (fpw A (df NR 2) NR))) 24 (0, 0) (by kernel_rfl) (H9.get 1 (by kernel_rfl)) (by kernel_rfl) (.tmp (.int .i64 0) (by kernel_rfl) .nil)), ?_, H9.below⟩
  rfl

set_option maxRecDepth 100000 in
theorem invNo_fn (A : Nat) (hA : A < big) (n : Int) (h0 : n ≠ 0) (h1 : n ≠ 1) : Fn Try.prog 50 #[uv A, .int .i64 n] (.tuple #[.agg #[.int .u64 0, .int .u64 0, .int .u64 0, .int .u64 0], .int .i64 1]) := by
  refine Fn.intro (c := codeOf Try.f50) [.cell 4 24, .tmp 5] 38 Try.func50 (by kernel_rfl) (by kernel_rfl) (by kernel_rfl) fun w => ?_
  have H0 := St.start w
  refine g_sreg [0, 1, 2] (by kernel_rfl) (by kernel_rfl) ?_
  refine s_box H0 (some 2) 24 (.tmp 0) (uv A) (by kernel_rfl) (by kernel_rfl) (by kernel_rfl) ?_
  intro b1 w1 H1; clear H0
  refine s_alloc H1 (some 4) 24 (.agg #[.int .u64 0, .int .u64 0, .int .u64 0, .int .u64 0]) (by kernel_rfl) (by kernel_rfl) (by kernel_rfl) ?_
  intro b2 w2 H2; clear H1
  refine s_val (some 5) (.int .i64 0) (fun w => by kernel_rfl) (by kernel_rfl) ?_
  refine s_nil ?_
  refine g_sreg [0, 1, 2, 3, 4, 5, 6, 7] (by kernel_rfl) (by kernel_rfl) ?_
  refine s_val (some 11) (.int .i64 n) (fun w => by kernel_rfl) (by kernel_rfl) ?_
  refine s_call H2 (some 12) 38 #[.int .i64 n] (.tuple #[.agg #[.int .u64 0, .int .u64 0, .int .u64 0, .int .u64 0], .int .i64 1]) (primeNo_fn n h0 h1) (fun w => by kernel_rfl) (by kernel_rfl) ?_
  intro w3 H3; clear H2
  refine s_val (some 10) (.tuple #[.agg #[.int .u64 0, .int .u64 0, .int .u64 0, .int .u64 0], .int .i64 1]) (fun w => by kernel_rfl) (by kernel_rfl) ?_
  refine s_val (some 13) (.agg #[.int .u64 0, .int .u64 0, .int .u64 0, .int .u64 0]) (fun w => by kernel_rfl) (by kernel_rfl) ?_
  refine s_val (some 14) (.int .i64 1) (fun w => by kernel_rfl) (by kernel_rfl) ?_
  refine s_alloc H3 (some 6) 24 (.agg #[.int .u64 0, .int .u64 0, .int .u64 0, .int .u64 0]) (by kernel_rfl) (by kernel_rfl) (by kernel_rfl) ?_
  intro b3 w4 H4; clear H3
  refine s_store H4 0 [(b3, Obj.cells #[.int .u64 0, .int .u64 0, .int .u64 0, .int .u64 0] 24 (0, 0)), (b2, Obj.cells #[.int .u64 0, .int .u64 0, .int .u64 0, .int .u64 0] 24 (0, 0)), (b1, Obj.cells (Value.cells (uv A)) 24 (0, 0))] 24 (.tmp 6) (.tmp 13) b3 0 #[.int .u64 0, .int .u64 0, .int .u64 0, .int .u64 0] #[.int .u64 0, .int .u64 0, .int .u64 0, .int .u64 0] 24 (.agg #[.int .u64 0, .int .u64 0, .int .u64 0, .int .u64 0]) (by kernel_rfl) (by kernel_rfl) (by kernel_rfl) (by kernel_rfl) (by kernel_rfl) (by kernel_rfl) (of_decide_eq_true (by kernel_rfl)) (by kernel_rfl) (by kernel_rfl) ?_
  intro w5 H5; clear H4
  refine s_val (some 7) (.int .i64 1) (fun w => by kernel_rfl) (by kernel_rfl) ?_
  refine s_nil ?_
  refine g_seq (by kernel_rfl) ?_
  refine g_sreg [0, 1] (by kernel_rfl) (by kernel_rfl) ?_
  refine s_val (some 15) (.int .i64 1) (fun w => by kernel_rfl) (by kernel_rfl) ?_
  refine s_val (some 16) (.bool true) (fun w => by kernel_rfl) (by kernel_rfl) ?_
  refine s_nil ?_
  refine g_cond_t (by kernel_rfl) (by kernel_rfl) ?_
  refine g_sreg [0, 1, 2, 3] (by kernel_rfl) (by kernel_rfl) ?_
  refine s_val (some 17) (.agg #[.int .u64 0, .int .u64 0, .int .u64 0, .int .u64 0]) (fun w => by kernel_rfl) (by kernel_rfl) ?_
  refine s_val (some 18) (.int .i64 1) (fun w => by kernel_rfl) (by kernel_rfl) ?_
  refine s_store H5 1 [(b3, Obj.cells #[.int .u64 0, .int .u64 0, .int .u64 0, .int .u64 0] 24 (0, 0)), (b2, Obj.cells #[.int .u64 0, .int .u64 0, .int .u64 0, .int .u64 0] 24 (0, 0)), (b1, Obj.cells (Value.cells (uv A)) 24 (0, 0))] 24 (.tmp 4) (.tmp 17) b2 0 #[.int .u64 0, .int .u64 0, .int .u64 0, .int .u64 0] #[.int .u64 0, .int .u64 0, .int .u64 0, .int .u64 0] 24 (.agg #[.int .u64 0, .int .u64 0, .int .u64 0, .int .u64 0]) (by kernel_rfl) (by kernel_rfl) (by kernel_rfl) (by kernel_rfl) (by kernel_rfl) (by kernel_rfl) (of_decide_eq_true (by kernel_rfl)) (by kernel_rfl) (by kernel_rfl) ?_
  intro w6 H6; clear H5
  refine s_val (some 5) (.int .i64 1) (fun w => by kernel_rfl) (by kernel_rfl) ?_
  refine s_nil ?_
  refine g_ret (by kernel_rfl) ?_
  show ∃ vs, Res _ _ _ _ vs ∧ _
  refine ⟨[.agg #[.int .u64 0, .int .u64 0, .int .u64 0, .int .u64 0], .int .i64 1], (.agg (b := b2) #[.int .u64 0, .int .u64 0, .int .u64 0, .int .u64 0] 24 (0, 0) (by kernel_rfl) (H6.get 1 (by kernel_rfl)) (by kernel_rfl) (.tmp (.int .i64 1) (by kernel_rfl) .nil)), ?_, H6.below⟩
  kernel_rfl

set_option maxRecDepth 100000 in
theorem rootNo_fn (A : Nat) (hA : A < big) (hs : fMul (fpw A QR PR) (fpw A QR PR) PR ≠ rs A 0 PR) : Fn Try.prog 51 #[uv A] (.tuple #[.agg #[.int .u64 0, .int .u64 0, .int .u64 0, .int .u64 0], .int .i64 6]) := by
  refine Fn.intro (c := codeOf Try.f51) [.cell 2 24, .tmp 3] 43 Try.func51 (by kernel_rfl) (by kernel_rfl) (by kernel_rfl) fun w => ?_
  have H0 := St.start w
  refine g_sreg [0, 1, 2] (by kernel_rfl) (by kernel_rfl) ?_
  refine s_box H0 (some 1) 24 (.tmp 0) (uv A) (by kernel_rfl) (by kernel_rfl) (by kernel_rfl) ?_
  intro b1 w1 H1; clear H0
  refine s_alloc H1 (some 2) 24 (.agg #[.int .u64 0, .int .u64 0, .int .u64 0, .int .u64 0]) (by kernel_rfl) (by kernel_rfl) (by kernel_rfl) ?_
  intro b2 w2 H2; clear H1
  refine s_val (some 3) (.int .i64 0) (fun w => by kernel_rfl) (by kernel_rfl) ?_
  refine s_nil ?_
  refine g_sreg [0, 1, 2] (by kernel_rfl) (by kernel_rfl) ?_
  refine s_val (some 11) (uv QR) (fun w => by kernel_rfl) (by kernel_rfl) ?_
  refine s_alloc H2 (some 4) 24 (.agg #[.int .u64 0, .int .u64 0, .int .u64 0, .int .u64 0]) (by kernel_rfl) (by kernel_rfl) (by kernel_rfl) ?_
  intro b3 w3 H3; clear H2
  refine s_store H3 0 [(b3, Obj.cells (Value.cells (uv QR)) 24 (0, 0)), (b2, Obj.cells #[.int .u64 0, .int .u64 0, .int .u64 0, .int .u64 0] 24 (0, 0)), (b1, Obj.cells (Value.cells (uv A)) 24 (0, 0))] 24 (.tmp 4) (.tmp 11) b3 0 #[.int .u64 0, .int .u64 0, .int .u64 0, .int .u64 0] (Value.cells (uv QR)) 24 (uv QR) (by kernel_rfl) (by kernel_rfl) (by kernel_rfl) (by kernel_rfl) (by kernel_rfl) (by kernel_rfl) (of_decide_eq_true (by kernel_rfl)) (by kernel_rfl) (by kernel_rfl) ?_
  intro w4 H4; clear H3
  refine s_nil ?_
  refine g_sreg [0, 1, 2, 3, 4, 5, 6, 7, 8] (by kernel_rfl) (by kernel_rfl) ?_
  refine s_load H4 (some 13) 24 (.tmp 1) 2 b1 (Value.cells (uv A)) 24 (0, 0) (by kernel_rfl) (by kernel_rfl) (by kernel_rfl) (by kernel_rfl) (by kernel_rfl) ?_
  refine s_load H4 (some 14) 24 (.tmp 4) 0 b3 (Value.cells (uv QR)) 24 (0, 0) (by kernel_rfl) (by kernel_rfl) (by kernel_rfl) (by kernel_rfl) (by kernel_rfl) ?_
  refine s_call H4 (some 15) 49 #[uv A, uv QR, .int .i64 0] (.tuple #[uv (fpw A QR PR), .int .i64 0]) (pow0_fn A QR hA qr_lt) (fun w => by kernel_rfl) (by kernel_rfl) ?_
  intro w5 H5; clear H4
  refine s_val (some 12) (.tuple #[uv (fpw A QR PR), .int .i64 0]) (fun w => by kernel_rfl) (by kernel_rfl) ?_
  refine s_val (some 16) (uv (fpw A QR PR)) (fun w => by kernel_rfl) (by kernel_rfl) ?_
  refine s_val (some 17) (.int .i64 0) (fun w => by kernel_rfl) (by kernel_rfl) ?_
  refine s_alloc H5 (some 5) 24 (.agg #[.int .u64 0, .int .u64 0, .int .u64 0, .int .u64 0]) (by kernel_rfl) (by kernel_rfl) (by kernel_rfl) ?_
  intro b4 w6 H6; clear H5
  refine s_store H6 0 [(b4, Obj.cells (Value.cells (uv (fpw A QR PR))) 24 (0, 0)), (b3, Obj.cells (Value.cells (uv QR)) 24 (0, 0)), (b2, Obj.cells #[.int .u64 0, .int .u64 0, .int .u64 0, .int .u64 0] 24 (0, 0)), (b1, Obj.cells (Value.cells (uv A)) 24 (0, 0))] 24 (.tmp 5) (.tmp 16) b4 0 #[.int .u64 0, .int .u64 0, .int .u64 0, .int .u64 0] (Value.cells (uv (fpw A QR PR))) 24 (uv (fpw A QR PR)) (by kernel_rfl) (by kernel_rfl) (by kernel_rfl) (by kernel_rfl) (by kernel_rfl) (by kernel_rfl) (of_decide_eq_true (by kernel_rfl)) (by kernel_rfl) (by kernel_rfl) ?_
  intro w7 H7; clear H6
  refine s_val (some 6) (.int .i64 0) (fun w => by kernel_rfl) (by kernel_rfl) ?_
  refine s_nil ?_
  refine g_sreg [0, 1, 2, 3, 4, 5, 6, 7, 8] (by kernel_rfl) (by kernel_rfl) ?_
  refine s_load H7 (some 19) 24 (.tmp 5) 0 b4 (Value.cells (uv (fpw A QR PR))) 24 (0, 0) (by kernel_rfl) (by kernel_rfl) (by kernel_rfl) (by kernel_rfl) (by kernel_rfl) ?_
  refine s_load H7 (some 20) 24 (.tmp 5) 0 b4 (Value.cells (uv (fpw A QR PR))) 24 (0, 0) (by kernel_rfl) (by kernel_rfl) (by kernel_rfl) (by kernel_rfl) (by kernel_rfl) ?_
  refine s_call H7 (some 21) 41 #[uv (fpw A QR PR), uv (fpw A QR PR), .int .i64 0] (.tuple #[uv (fMul (fpw A QR PR) (fpw A QR PR) PR), .int .i64 0]) (fmul0_fn (fpw A QR PR) (fpw A QR PR) (fpw_lt pr_ok) (fpw_lt pr_ok)) (fun w => by kernel_rfl) (by kernel_rfl) ?_
  intro w8 H8; clear H7
  refine s_val (some 18) (.tuple #[uv (fMul (fpw A QR PR) (fpw A QR PR) PR), .int .i64 0]) (fun w => by kernel_rfl) (by kernel_rfl) ?_
  refine s_val (some 22) (uv (fMul (fpw A QR PR) (fpw A QR PR) PR)) (fun w => by kernel_rfl) (by kernel_rfl) ?_
  refine s_val (some 23) (.int .i64 0) (fun w => by kernel_rfl) (by kernel_rfl) ?_
  refine s_alloc H8 (some 7) 24 (.agg #[.int .u64 0, .int .u64 0, .int .u64 0, .int .u64 0]) (by kernel_rfl) (by kernel_rfl) (by kernel_rfl) ?_
  intro b5 w9 H9; clear H8
  refine s_store H9 0 [(b5, Obj.cells (Value.cells (uv (fMul (fpw A QR PR) (fpw A QR PR) PR))) 24 (0, 0)), (b4, Obj.cells (Value.cells (uv (fpw A QR PR))) 24 (0, 0)), (b3, Obj.cells (Value.cells (uv QR)) 24 (0, 0)), (b2, Obj.cells #[.int .u64 0, .int .u64 0, .int .u64 0, .int .u64 0] 24 (0, 0)), (b1, Obj.cells (Value.cells (uv A)) 24 (0, 0))] 24 (.tmp 7) (.tmp 22) b5 0 #[.int .u64 0, .int .u64 0, .int .u64 0, .int .u64 0] (Value.cells (uv (fMul (fpw A QR PR) (fpw A QR PR) PR))) 24 (uv (fMul (fpw A QR PR) (fpw A QR PR) PR)) (by kernel_rfl) (by kernel_rfl) (by kernel_rfl) (by kernel_rfl) (by kernel_rfl) (by kernel_rfl) (of_decide_eq_true (by kernel_rfl)) (by kernel_rfl) (by kernel_rfl) ?_
  intro w10 H10; clear H9
  refine s_val (some 8) (.int .i64 0) (fun w => by kernel_rfl) (by kernel_rfl) ?_
  refine s_nil ?_
  refine g_sreg [0, 1, 2, 3, 4, 5, 6, 7, 8] (by kernel_rfl) (by kernel_rfl) ?_
  refine s_load H10 (some 25) 24 (.tmp 1) 4 b1 (Value.cells (uv A)) 24 (0, 0) (by kernel_rfl) (by kernel_rfl) (by kernel_rfl) (by kernel_rfl) (by kernel_rfl) ?_
  refine s_val (some 26) (.agg #[.int .u64 0, .int .u64 0, .int .u64 0, .int .u64 0]) (fun w => by kernel_rfl) (by kernel_rfl) ?_
  refine s_call H10 (some 27) 42 #[uv A, .agg #[.int .u64 0, .int .u64 0, .int .u64 0, .int .u64 0], .int .i64 0] (.tuple #[uv (rs A 0 PR), .int .i64 0]) (reduce0_fn A 0 hA (by unfold big; omega)) (fun w => by kernel_rfl) (by kernel_rfl) ?_
  intro w11 H11; clear H10
  refine s_val (some 24) (.tuple #[uv (rs A 0 PR), .int .i64 0]) (fun w => by kernel_rfl) (by kernel_rfl) ?_
  refine s_val (some 28) (uv (rs A 0 PR)) (fun w => by kernel_rfl) (by kernel_rfl) ?_
  refine s_val (some 29) (.int .i64 0) (fun w => by kernel_rfl) (by kernel_rfl) ?_
  refine s_alloc H11 (some 9) 24 (.agg #[.int .u64 0, .int .u64 0, .int .u64 0, .int .u64 0]) (by kernel_rfl) (by kernel_rfl) (by kernel_rfl) ?_
  intro b6 w12 H12; clear H11
  refine s_store H12 0 [(b6, Obj.cells (Value.cells (uv (rs A 0 PR))) 24 (0, 0)), (b5, Obj.cells (Value.cells (uv (fMul (fpw A QR PR) (fpw A QR PR) PR))) 24 (0, 0)), (b4, Obj.cells (Value.cells (uv (fpw A QR PR))) 24 (0, 0)), (b3, Obj.cells (Value.cells (uv QR)) 24 (0, 0)), (b2, Obj.cells #[.int .u64 0, .int .u64 0, .int .u64 0, .int .u64 0] 24 (0, 0)), (b1, Obj.cells (Value.cells (uv A)) 24 (0, 0))] 24 (.tmp 9) (.tmp 28) b6 0 #[.int .u64 0, .int .u64 0, .int .u64 0, .int .u64 0] (Value.cells (uv (rs A 0 PR))) 24 (uv (rs A 0 PR)) (by kernel_rfl) (by kernel_rfl) (by kernel_rfl) (by kernel_rfl) (by kernel_rfl) (by kernel_rfl) (of_decide_eq_true (by kernel_rfl)) (by kernel_rfl) (by kernel_rfl) ?_
  intro w13 H13; clear H12
  refine s_val (some 10) (.int .i64 0) (fun w => by kernel_rfl) (by kernel_rfl) ?_
  refine s_nil ?_
  refine g_seq (by kernel_rfl) ?_
  refine g_sreg [0, 1, 2] (by kernel_rfl) (by kernel_rfl) ?_
  refine s_load H13 (some 30) 24 (.tmp 7) 1 b5 (Value.cells (uv (fMul (fpw A QR PR) (fpw A QR PR) PR))) 24 (0, 0) (by kernel_rfl) (by kernel_rfl) (by kernel_rfl) (by kernel_rfl) (by kernel_rfl) ?_
  refine s_load H13 (some 31) 24 (.tmp 9) 0 b6 (Value.cells (uv (rs A 0 PR))) 24 (0, 0) (by kernel_rfl) (by kernel_rfl) (by kernel_rfl) (by kernel_rfl) (by kernel_rfl) ?_
  refine s_opE (some 32) _ (.bool (!decide ((fMul (fpw A QR PR) (fpw A QR PR) PR) = (rs A 0 PR)))) (.bool true) (by kernel_rfl) (fun o w ho => neU_run (x := (.tmp 30)) (y := (.tmp 31)) (fMul (fpw A QR PR) (fpw A QR PR) PR) (rs A 0 PR) (fMul_lt pr_ok) (rs_lt pr_ok) w ho (by kernel_rfl) (by kernel_rfl)) (by rw [decide_eq_false hs] <;> rfl) (by kernel_rfl) ?_
  refine s_nil ?_
  refine g_cond_t (by kernel_rfl) (by kernel_rfl) ?_
  refine g_sreg [0, 1, 2] (by kernel_rfl) (by kernel_rfl) ?_
  refine s_val (some 33) (.agg #[.int .u64 0, .int .u64 0, .int .u64 0, .int .u64 0]) (fun w => by kernel_rfl) (by kernel_rfl) ?_
  refine s_store H13 4 [(b6, Obj.cells (Value.cells (uv (rs A 0 PR))) 24 (0, 0)), (b5, Obj.cells (Value.cells (uv (fMul (fpw A QR PR) (fpw A QR PR) PR))) 24 (0, 0)), (b4, Obj.cells (Value.cells (uv (fpw A QR PR))) 24 (0, 0)), (b3, Obj.cells (Value.cells (uv QR)) 24 (0, 0)), (b2, Obj.cells #[.int .u64 0, .int .u64 0, .int .u64 0, .int .u64 0] 24 (0, 0)), (b1, Obj.cells (Value.cells (uv A)) 24 (0, 0))] 24 (.tmp 2) (.tmp 33) b2 0 #[.int .u64 0, .int .u64 0, .int .u64 0, .int .u64 0] #[.int .u64 0, .int .u64 0, .int .u64 0, .int .u64 0] 24 (.agg #[.int .u64 0, .int .u64 0, .int .u64 0, .int .u64 0]) (by kernel_rfl) (by kernel_rfl) (by kernel_rfl) (by kernel_rfl) (by kernel_rfl) (by kernel_rfl) (of_decide_eq_true (by kernel_rfl)) (by kernel_rfl) (by kernel_rfl) ?_
  intro w14 H14; clear H13
  refine s_val (some 3) (.int .i64 6) (fun w => by kernel_rfl) (by kernel_rfl) ?_
  refine s_nil ?_
  refine g_ret (by kernel_rfl) ?_
  show ∃ vs, Res _ _ _ _ vs ∧ _
  refine ⟨[.agg #[.int .u64 0, .int .u64 0, .int .u64 0, .int .u64 0], .int .i64 6], (.agg (b := b2) #[.int .u64 0, .int .u64 0, .int .u64 0, .int .u64 0] 24 (0, 0) (by kernel_rfl) (H14.get 4 (by kernel_rfl)) (by kernel_rfl) (.tmp (.int .i64 6) (by kernel_rfl) .nil)), ?_, H14.below⟩
  rfl

set_option maxRecDepth 100000 in
theorem root_fn (A : Nat) (hA : A < big) (hs : fMul (fpw A QR PR) (fpw A QR PR) PR = rs A 0 PR) : Fn Try.prog 51 #[uv A] (.tuple #[uv (rt A), .int .i64 0]) := by
  refine Fn.intro (c := codeOf Try.f51) [.cell 2 24, .tmp 3] 43 Try.func51 (by kernel_rfl) (by kernel_rfl) (by kernel_rfl) fun w => ?_
  have H0 := St.start w
  refine g_sreg [0, 1, 2] (by kernel_rfl) (by kernel_rfl) ?_
  refine s_box H0 (some 1) 24 (.tmp 0) (uv A) (by kernel_rfl) (by kernel_rfl) (by kernel_rfl) ?_
  intro b1 w1 H1; clear H0
  refine s_alloc H1 (some 2) 24 (.agg #[.int .u64 0, .int .u64 0, .int .u64 0, .int .u64 0]) (by kernel_rfl) (by kernel_rfl) (by kernel_rfl) ?_
  intro b2 w2 H2; clear H1
  refine s_val (some 3) (.int .i64 0) (fun w => by kernel_rfl) (by kernel_rfl) ?_
  refine s_nil ?_
  refine g_sreg [0, 1, 2] (by kernel_rfl) (by kernel_rfl) ?_
  refine s_val (some 11) (uv QR) (fun w => by kernel_rfl) (by kernel_rfl) ?_
  refine s_alloc H2 (some 4) 24 (.agg #[.int .u64 0, .int .u64 0, .int .u64 0, .int .u64 0]) (by kernel_rfl) (by kernel_rfl) (by kernel_rfl) ?_
  intro b3 w3 H3; clear H2
  refine s_store H3 0 [(b3, Obj.cells (Value.cells (uv QR)) 24 (0, 0)), (b2, Obj.cells #[.int .u64 0, .int .u64 0, .int .u64 0, .int .u64 0] 24 (0, 0)), (b1, Obj.cells (Value.cells (uv A)) 24 (0, 0))] 24 (.tmp 4) (.tmp 11) b3 0 #[.int .u64 0, .int .u64 0, .int .u64 0, .int .u64 0] (Value.cells (uv QR)) 24 (uv QR) (by kernel_rfl) (by kernel_rfl) (by kernel_rfl) (by kernel_rfl) (by kernel_rfl) (by kernel_rfl) (of_decide_eq_true (by kernel_rfl)) (by kernel_rfl) (by kernel_rfl) ?_
  intro w4 H4; clear H3
  refine s_nil ?_
  refine g_sreg [0, 1, 2, 3, 4, 5, 6, 7, 8] (by kernel_rfl) (by kernel_rfl) ?_
  refine s_load H4 (some 13) 24 (.tmp 1) 2 b1 (Value.cells (uv A)) 24 (0, 0) (by kernel_rfl) (by kernel_rfl) (by kernel_rfl) (by kernel_rfl) (by kernel_rfl) ?_
  refine s_load H4 (some 14) 24 (.tmp 4) 0 b3 (Value.cells (uv QR)) 24 (0, 0) (by kernel_rfl) (by kernel_rfl) (by kernel_rfl) (by kernel_rfl) (by kernel_rfl) ?_
  refine s_call H4 (some 15) 49 #[uv A, uv QR, .int .i64 0] (.tuple #[uv (fpw A QR PR), .int .i64 0]) (pow0_fn A QR hA qr_lt) (fun w => by kernel_rfl) (by kernel_rfl) ?_
  intro w5 H5; clear H4
  refine s_val (some 12) (.tuple #[uv (fpw A QR PR), .int .i64 0]) (fun w => by kernel_rfl) (by kernel_rfl) ?_
  refine s_val (some 16) (uv (fpw A QR PR)) (fun w => by kernel_rfl) (by kernel_rfl) ?_
  refine s_val (some 17) (.int .i64 0) (fun w => by kernel_rfl) (by kernel_rfl) ?_
  refine s_alloc H5 (some 5) 24 (.agg #[.int .u64 0, .int .u64 0, .int .u64 0, .int .u64 0]) (by kernel_rfl) (by kernel_rfl) (by kernel_rfl) ?_
  intro b4 w6 H6; clear H5
  refine s_store H6 0 [(b4, Obj.cells (Value.cells (uv (fpw A QR PR))) 24 (0, 0)), (b3, Obj.cells (Value.cells (uv QR)) 24 (0, 0)), (b2, Obj.cells #[.int .u64 0, .int .u64 0, .int .u64 0, .int .u64 0] 24 (0, 0)), (b1, Obj.cells (Value.cells (uv A)) 24 (0, 0))] 24 (.tmp 5) (.tmp 16) b4 0 #[.int .u64 0, .int .u64 0, .int .u64 0, .int .u64 0] (Value.cells (uv (fpw A QR PR))) 24 (uv (fpw A QR PR)) (by kernel_rfl) (by kernel_rfl) (by kernel_rfl) (by kernel_rfl) (by kernel_rfl) (by kernel_rfl) (of_decide_eq_true (by kernel_rfl)) (by kernel_rfl) (by kernel_rfl) ?_
  intro w7 H7; clear H6
  refine s_val (some 6) (.int .i64 0) (fun w => by kernel_rfl) (by kernel_rfl) ?_
  refine s_nil ?_
  refine g_sreg [0, 1, 2, 3, 4, 5, 6, 7, 8] (by kernel_rfl) (by kernel_rfl) ?_
  refine s_load H7 (some 19) 24 (.tmp 5) 0 b4 (Value.cells (uv (fpw A QR PR))) 24 (0, 0) (by kernel_rfl) (by kernel_rfl) (by kernel_rfl) (by kernel_rfl) (by kernel_rfl) ?_
  refine s_load H7 (some 20) 24 (.tmp 5) 0 b4 (Value.cells (uv (fpw A QR PR))) 24 (0, 0) (by kernel_rfl) (by kernel_rfl) (by kernel_rfl) (by kernel_rfl) (by kernel_rfl) ?_
  refine s_call H7 (some 21) 41 #[uv (fpw A QR PR), uv (fpw A QR PR), .int .i64 0] (.tuple #[uv (fMul (fpw A QR PR) (fpw A QR PR) PR), .int .i64 0]) (fmul0_fn (fpw A QR PR) (fpw A QR PR) (fpw_lt pr_ok) (fpw_lt pr_ok)) (fun w => by kernel_rfl) (by kernel_rfl) ?_
  intro w8 H8; clear H7
  refine s_val (some 18) (.tuple #[uv (fMul (fpw A QR PR) (fpw A QR PR) PR), .int .i64 0]) (fun w => by kernel_rfl) (by kernel_rfl) ?_
  refine s_val (some 22) (uv (fMul (fpw A QR PR) (fpw A QR PR) PR)) (fun w => by kernel_rfl) (by kernel_rfl) ?_
  refine s_val (some 23) (.int .i64 0) (fun w => by kernel_rfl) (by kernel_rfl) ?_
  refine s_alloc H8 (some 7) 24 (.agg #[.int .u64 0, .int .u64 0, .int .u64 0, .int .u64 0]) (by kernel_rfl) (by kernel_rfl) (by kernel_rfl) ?_
  intro b5 w9 H9; clear H8
  refine s_store H9 0 [(b5, Obj.cells (Value.cells (uv (fMul (fpw A QR PR) (fpw A QR PR) PR))) 24 (0, 0)), (b4, Obj.cells (Value.cells (uv (fpw A QR PR))) 24 (0, 0)), (b3, Obj.cells (Value.cells (uv QR)) 24 (0, 0)), (b2, Obj.cells #[.int .u64 0, .int .u64 0, .int .u64 0, .int .u64 0] 24 (0, 0)), (b1, Obj.cells (Value.cells (uv A)) 24 (0, 0))] 24 (.tmp 7) (.tmp 22) b5 0 #[.int .u64 0, .int .u64 0, .int .u64 0, .int .u64 0] (Value.cells (uv (fMul (fpw A QR PR) (fpw A QR PR) PR))) 24 (uv (fMul (fpw A QR PR) (fpw A QR PR) PR)) (by kernel_rfl) (by kernel_rfl) (by kernel_rfl) (by kernel_rfl) (by kernel_rfl) (by kernel_rfl) (of_decide_eq_true (by kernel_rfl)) (by kernel_rfl) (by kernel_rfl) ?_
  intro w10 H10; clear H9
  refine s_val (some 8) (.int .i64 0) (fun w => by kernel_rfl) (by kernel_rfl) ?_
  refine s_nil ?_
  refine g_sreg [0, 1, 2, 3, 4, 5, 6, 7, 8] (by kernel_rfl) (by kernel_rfl) ?_
  refine s_load H10 (some 25) 24 (.tmp 1) 4 b1 (Value.cells (uv A)) 24 (0, 0) (by kernel_rfl) (by kernel_rfl) (by kernel_rfl) (by kernel_rfl) (by kernel_rfl) ?_
  refine s_val (some 26) (.agg #[.int .u64 0, .int .u64 0, .int .u64 0, .int .u64 0]) (fun w => by kernel_rfl) (by kernel_rfl) ?_
  refine s_call H10 (some 27) 42 #[uv A, .agg #[.int .u64 0, .int .u64 0, .int .u64 0, .int .u64 0], .int .i64 0] (.tuple #[uv (rs A 0 PR), .int .i64 0]) (reduce0_fn A 0 hA (by unfold big; omega)) (fun w => by kernel_rfl) (by kernel_rfl) ?_
  intro w11 H11; clear H10
  refine s_val (some 24) (.tuple #[uv (rs A 0 PR), .int .i64 0]) (fun w => by kernel_rfl) (by kernel_rfl) ?_
  refine s_val (some 28) (uv (rs A 0 PR)) (fun w => by kernel_rfl) (by kernel_rfl) ?_
  refine s_val (some 29) (.int .i64 0) (fun w => by kernel_rfl) (by kernel_rfl) ?_
  refine s_alloc H11 (some 9) 24 (.agg #[.int .u64 0, .int .u64 0, .int .u64 0, .int .u64 0]) (by kernel_rfl) (by kernel_rfl) (by kernel_rfl) ?_
  intro b6 w12 H12; clear H11
  refine s_store H12 0 [(b6, Obj.cells (Value.cells (uv (rs A 0 PR))) 24 (0, 0)), (b5, Obj.cells (Value.cells (uv (fMul (fpw A QR PR) (fpw A QR PR) PR))) 24 (0, 0)), (b4, Obj.cells (Value.cells (uv (fpw A QR PR))) 24 (0, 0)), (b3, Obj.cells (Value.cells (uv QR)) 24 (0, 0)), (b2, Obj.cells #[.int .u64 0, .int .u64 0, .int .u64 0, .int .u64 0] 24 (0, 0)), (b1, Obj.cells (Value.cells (uv A)) 24 (0, 0))] 24 (.tmp 9) (.tmp 28) b6 0 #[.int .u64 0, .int .u64 0, .int .u64 0, .int .u64 0] (Value.cells (uv (rs A 0 PR))) 24 (uv (rs A 0 PR)) (by kernel_rfl) (by kernel_rfl) (by kernel_rfl) (by kernel_rfl) (by kernel_rfl) (by kernel_rfl) (of_decide_eq_true (by kernel_rfl)) (by kernel_rfl) (by kernel_rfl) ?_
  intro w13 H13; clear H12
  refine s_val (some 10) (.int .i64 0) (fun w => by kernel_rfl) (by kernel_rfl) ?_
  refine s_nil ?_
  refine g_seq (by kernel_rfl) ?_
  refine g_sreg [0, 1, 2] (by kernel_rfl) (by kernel_rfl) ?_
  refine s_load H13 (some 30) 24 (.tmp 7) 1 b5 (Value.cells (uv (fMul (fpw A QR PR) (fpw A QR PR) PR))) 24 (0, 0) (by kernel_rfl) (by kernel_rfl) (by kernel_rfl) (by kernel_rfl) (by kernel_rfl) ?_
  refine s_load H13 (some 31) 24 (.tmp 9) 0 b6 (Value.cells (uv (rs A 0 PR))) 24 (0, 0) (by kernel_rfl) (by kernel_rfl) (by kernel_rfl) (by kernel_rfl) (by kernel_rfl) ?_
  refine s_opE (some 32) _ (.bool (!decide ((fMul (fpw A QR PR) (fpw A QR PR) PR) = (rs A 0 PR)))) (.bool false) (by kernel_rfl) (fun o w ho => neU_run (x := (.tmp 30)) (y := (.tmp 31)) (fMul (fpw A QR PR) (fpw A QR PR) PR) (rs A 0 PR) (fMul_lt pr_ok) (rs_lt pr_ok) w ho (by kernel_rfl) (by kernel_rfl)) (by rw [decide_eq_true hs] <;> rfl) (by kernel_rfl) ?_
  refine s_nil ?_
  refine g_cond_f (by kernel_rfl) (by kernel_rfl) ?_
  refine g_skip (by kernel_rfl) ?_
  show WP _ _ _ _ _ _
  refine g_seq (by kernel_rfl) ?_
  refine g_sreg [0, 1] (by kernel_rfl) (by kernel_rfl) ?_
  refine s_load H13 (some 34) 24 (.tmp 5) 2 b4 (Value.cells (uv (fpw A QR PR))) 24 (0, 0) (by kernel_rfl) (by kernel_rfl) (by kernel_rfl) (by kernel_rfl) (by kernel_rfl) ?_
  refine s_call H13 (some 35) 35 #[uv (fpw A QR PR), .int .i64 0] (.bool (bt (fpw A QR PR) 0)) (bit_fn (fpw A QR PR) 0) (fun w => by kernel_rfl) (by kernel_rfl) ?_
  intro w14 H14; clear H13
  cases hbt : bt (fpw A QR PR) 0
  · skip
    refine s_nil ?_
    refine g_cond_f (by kernel_rfl) (by kernel_rfl) ?_
    refine g_skip (by kernel_rfl) ?_
    show WP _ _ _ _ _ _
    refine g_sreg [0, 1, 2] (by kernel_rfl) (by kernel_rfl) ?_
    refine s_load H14 (some 42) 24 (.tmp 5) 2 b4 (Value.cells (uv (fpw A QR PR))) 24 (0, 0) (by kernel_rfl) (by kernel_rfl) (by kernel_rfl) (by kernel_rfl) (by kernel_rfl) ?_
    refine s_store H14 4 [(b6, Obj.cells (Value.cells (uv (rs A 0 PR))) 24 (0, 0)), (b5, Obj.cells (Value.cells (uv (fMul (fpw A QR PR) (fpw A QR PR) PR))) 24 (0, 0)), (b4, Obj.cells (Value.cells (uv (fpw A QR PR))) 24 (0, 0)), (b3, Obj.cells (Value.cells (uv QR)) 24 (0, 0)), (b2, Obj.cells (Value.cells (uv (fpw A QR PR))) 24 (0, 0)), (b1, Obj.cells (Value.cells (uv A)) 24 (0, 0))] 24 (.tmp 2) (.tmp 42) b2 0 #[.int .u64 0, .int .u64 0, .int .u64 0, .int .u64 0] (Value.cells (uv (fpw A QR PR))) 24 (uv (fpw A QR PR)) (by kernel_rfl) (by kernel_rfl) (by kernel_rfl) (by kernel_rfl) (by kernel_rfl) (by kernel_rfl) (of_decide_eq_true (by kernel_rfl)) (by kernel_rfl) (by kernel_rfl) ?_
    intro w15 H15; clear H14
    refine s_val (some 3) (.int .i64 0) (fun w => by kernel_rfl) (by kernel_rfl) ?_
    refine s_nil ?_
    refine g_ret (by kernel_rfl) ?_
    show ∃ vs, Res _ _ _ _ vs ∧ _
    refine ⟨[uv (fpw A QR PR), .int .i64 0], (.agg (b := b2) (Value.cells (uv (fpw A QR PR))) 24 (0, 0) (by kernel_rfl) (H15.get 4 (by kernel_rfl)) (by kernel_rfl) (.tmp (.int .i64 0) (by kernel_rfl) .nil)), ?_, H15.below⟩
    have e : rt A = fpw A QR PR := by unfold rt; rw [hbt]; exact if_neg (by decide)
    rw [e]; rfl
  · skip
    refine s_nil ?_
    refine g_cond_t (by kernel_rfl) (by kernel_rfl) ?_
    refine g_reg0 [0, 1, 2, 3, 4, 5, 6] (by kernel_rfl) ?_
    refine s_val (some 37) (.agg #[.int .u64 0, .int .u64 0, .int .u64 0, .int .u64 0]) (fun w => by kernel_rfl) (by kernel_rfl) ?_
    refine s_load H14 (some 38) 24 (.tmp 5) 2 b4 (Value.cells (uv (fpw A QR PR))) 24 (0, 0) (by kernel_rfl) (by kernel_rfl) (by kernel_rfl) (by kernel_rfl) (by kernel_rfl) ?_
    refine s_call H14 (some 39) 40 #[.agg #[.int .u64 0, .int .u64 0, .int .u64 0, .int .u64 0], uv (fpw A QR PR), .int .i64 0] (.tuple #[uv (fSub 0 (fpw A QR PR) PR), .int .i64 0]) (fsub0_fn 0 (fpw A QR PR) (by unfold big; omega) (fpw_lt pr_ok)) (fun w => by kernel_rfl) (by kernel_rfl) ?_
    intro w16 H16; clear H14
    refine s_val (some 36) (.tuple #[uv (fSub 0 (fpw A QR PR) PR), .int .i64 0]) (fun w => by kernel_rfl) (by kernel_rfl) ?_
    refine s_val (some 40) (uv (fSub 0 (fpw A QR PR) PR)) (fun w => by kernel_rfl) (by kernel_rfl) ?_
    refine s_val (some 41) (.int .i64 0) (fun w => by kernel_rfl) (by kernel_rfl) ?_
    refine s_store H16 2 [(b6, Obj.cells (Value.cells (uv (rs A 0 PR))) 24 (0, 0)), (b5, Obj.cells (Value.cells (uv (fMul (fpw A QR PR) (fpw A QR PR) PR))) 24 (0, 0)), (b4, Obj.cells (Value.cells (uv (fSub 0 (fpw A QR PR) PR))) 24 (0, 0)), (b3, Obj.cells (Value.cells (uv QR)) 24 (0, 0)), (b2, Obj.cells #[.int .u64 0, .int .u64 0, .int .u64 0, .int .u64 0] 24 (0, 0)), (b1, Obj.cells (Value.cells (uv A)) 24 (0, 0))] 24 (.tmp 5) (.tmp 40) b4 0 (Value.cells (uv (fpw A QR PR))) (Value.cells (uv (fSub 0 (fpw A QR PR) PR))) 24 (uv (fSub 0 (fpw A QR PR) PR)) (by kernel_rfl) (by kernel_rfl) (by kernel_rfl) (by kernel_rfl) (by kernel_rfl) (by kernel_rfl) (of_decide_eq_true (by kernel_rfl)) (by kernel_rfl) (by kernel_rfl) ?_
    intro w17 H17; clear H16
    refine s_nil ?_
    show WP _ _ _ _ _ _
    refine g_sreg [0, 1, 2] (by kernel_rfl) (by kernel_rfl) ?_
    refine s_load H17 (some 42) 24 (.tmp 5) 2 b4 (Value.cells (uv (fSub 0 (fpw A QR PR) PR))) 24 (0, 0) (by kernel_rfl) (by kernel_rfl) (by kernel_rfl) (by kernel_rfl) (by kernel_rfl) ?_
    refine s_store H17 4 [(b6, Obj.cells (Value.cells (uv (rs A 0 PR))) 24 (0, 0)), (b5, Obj.cells (Value.cells (uv (fMul (fpw A QR PR) (fpw A QR PR) PR))) 24 (0, 0)), (b4, Obj.cells (Value.cells (uv (fSub 0 (fpw A QR PR) PR))) 24 (0, 0)), (b3, Obj.cells (Value.cells (uv QR)) 24 (0, 0)), (b2, Obj.cells (Value.cells (uv (fSub 0 (fpw A QR PR) PR))) 24 (0, 0)), (b1, Obj.cells (Value.cells (uv A)) 24 (0, 0))] 24 (.tmp 2) (.tmp 42) b2 0 #[.int .u64 0, .int .u64 0, .int .u64 0, .int .u64 0] (Value.cells (uv (fSub 0 (fpw A QR PR) PR))) 24 (uv (fSub 0 (fpw A QR PR) PR)) (by kernel_rfl) (by kernel_rfl) (by kernel_rfl) (by kernel_rfl) (by kernel_rfl) (by kernel_rfl) (of_decide_eq_true (by kernel_rfl)) (by kernel_rfl) (by kernel_rfl) ?_
    intro w18 H18; clear H17
    refine s_val (some 3) (.int .i64 0) (fun w => by kernel_rfl) (by kernel_rfl) ?_
    refine s_nil ?_
    refine g_ret (by kernel_rfl) ?_
    show ∃ vs, Res _ _ _ _ vs ∧ _
    refine ⟨[uv (fSub 0 (fpw A QR PR) PR), .int .i64 0], (.agg (b := b2) (Value.cells (uv (fSub 0 (fpw A QR PR) PR))) 24 (0, 0) (by kernel_rfl) (H18.get 4 (by kernel_rfl)) (by kernel_rfl) (.tmp (.int .i64 0) (by kernel_rfl) .nil)), ?_, H18.below⟩
    have e : rt A = fSub 0 (fpw A QR PR) PR := by unfold rt; rw [hbt]; exact if_pos rfl
    rw [e]; rfl

set_option maxRecDepth 100000 in
theorem alive02_fn  : Fn Try.prog 43 #[] (.bool true) := by
  refine Fn.intro (c := codeOf Try.f43) [.tmp 0] 33 Try.func43 (by kernel_rfl) (by kernel_rfl) (by kernel_rfl) fun w => ?_
  have H0 := St.start w
  refine g_sreg [0] (by kernel_rfl) (by kernel_rfl) ?_
  refine s_val (some 0) (.bool false) (fun w => by kernel_rfl) (by kernel_rfl) ?_
  refine s_nil ?_
  refine g_sreg [0, 1, 2, 3, 4, 5, 6, 7, 8] (by kernel_rfl) (by kernel_rfl) ?_
  refine s_val (some 6) (.agg #[.int .u64 2, .int .u64 0, .int .u64 0, .int .u64 0]) (fun w => by kernel_rfl) (by kernel_rfl) ?_
  refine s_val (some 7) (.agg #[.int .u64 2, .int .u64 0, .int .u64 0, .int .u64 0]) (fun w => by kernel_rfl) (by kernel_rfl) ?_
  refine s_call H0 (some 8) 39 #[.agg #[.int .u64 2, .int .u64 0, .int .u64 0, .int .u64 0], .agg #[.int .u64 2, .int .u64 0, .int .u64 0, .int .u64 0], .int .i64 0] (.tuple #[uv (fAdd 2 2 PR), .int .i64 0]) (fadd0_fn 2 2 (by unfold big; omega) (by unfold big; omega)) (fun w => by kernel_rfl) (by kernel_rfl) ?_
  intro w1 H1; clear H0
  refine s_val (some 5) (.tuple #[uv (fAdd 2 2 PR), .int .i64 0]) (fun w => by kernel_rfl) (by kernel_rfl) ?_
  refine s_val (some 9) (uv (fAdd 2 2 PR)) (fun w => by kernel_rfl) (by kernel_rfl) ?_
  refine s_val (some 10) (.int .i64 0) (fun w => by kernel_rfl) (by kernel_rfl) ?_
  refine s_alloc H1 (some 1) 24 (.agg #[.int .u64 0, .int .u64 0, .int .u64 0, .int .u64 0]) (by kernel_rfl) (by kernel_rfl) (by kernel_rfl) ?_
  intro b1 w2 H2; clear H1
  refine s_store H2 0 [(b1, Obj.cells (Value.cells (uv (fAdd 2 2 PR))) 24 (0, 0))] 24 (.tmp 1) (.tmp 9) b1 0 #[.int .u64 0, .int .u64 0, .int .u64 0, .int .u64 0] (Value.cells (uv (fAdd 2 2 PR))) 24 (uv (fAdd 2 2 PR)) (by kernel_rfl) (by kernel_rfl) (by kernel_rfl) (by kernel_rfl) (by kernel_rfl) (by kernel_rfl) (of_decide_eq_true (by kernel_rfl)) (by kernel_rfl) (by kernel_rfl) ?_
  intro w3 H3; clear H2
  refine s_val (some 2) (.int .i64 0) (fun w => by kernel_rfl) (by kernel_rfl) ?_
  refine s_nil ?_
  refine g_sreg [0, 1, 2, 3, 4, 5, 6, 7, 8] (by kernel_rfl) (by kernel_rfl) ?_
  refine s_val (some 12) (.agg #[.int .u64 2, .int .u64 0, .int .u64 0, .int .u64 0]) (fun w => by kernel_rfl) (by kernel_rfl) ?_
  refine s_val (some 13) (.agg #[.int .u64 2, .int .u64 0, .int .u64 0, .int .u64 0]) (fun w => by kernel_rfl) (by kernel_rfl) ?_
  refine s_call H3 (some 14) 41 #[.agg #[.int .u64 2, .int .u64 0, .int .u64 0, .int .u64 0], .agg #[.int .u64 2, .int .u64 0, .int .u64 0, .int .u64 0], .int .i64 1] (.tuple #[uv (fMul 2 2 NR), .int .i64 0]) (fmul1_fn 2 2 (by unfold big; omega) (by unfold big; omega)) (fun w => by kernel_rfl) (by kernel_rfl) ?_
  intro w4 H4; clear H3
  refine s_val (some 11) (.tuple #[uv (fMul 2 2 NR), .int .i64 0]) (fun w => by kernel_rfl) (by kernel_rfl) ?_
  refine s_val (some 15) (uv (fMul 2 2 NR)) (fun w => by kernel_rfl) (by kernel_rfl) ?_
  refine s_val (some 16) (.int .i64 0) (fun w => by kernel_rfl) (by kernel_rfl) ?_
  refine s_alloc H4 (some 3) 24 (.agg #[.int .u64 0, .int .u64 0, .int .u64 0, .int .u64 0]) (by kernel_rfl) (by kernel_rfl) (by kernel_rfl) ?_
  intro b2 w5 H5; clear H4
  refine s_store H5 0 [(b2, Obj.cells (Value.cells (uv (fMul 2 2 NR))) 24 (0, 0)), (b1, Obj.cells (Value.cells (uv (fAdd 2 2 PR))) 24 (0, 0))] 24 (.tmp 3) (.tmp 15) b2 0 #[.int .u64 0, .int .u64 0, .int .u64 0, .int .u64 0] (Value.cells (uv (fMul 2 2 NR))) 24 (uv (fMul 2 2 NR)) (by kernel_rfl) (by kernel_rfl) (by kernel_rfl) (by kernel_rfl) (by kernel_rfl) (by kernel_rfl) (of_decide_eq_true (by kernel_rfl)) (by kernel_rfl) (by kernel_rfl) ?_
  intro w6 H6; clear H5
  refine s_val (some 4) (.int .i64 0) (fun w => by kernel_rfl) (by kernel_rfl) ?_
  refine s_nil ?_
  refine g_sreg [0, 1, 2, 3, 4, 5, 6, 7, 8, 9, 10, 11, 12, 13, 14, 15, 16] (by kernel_rfl) (by kernel_rfl) ?_
  refine s_val (some 17) (.int .i64 0) (fun w => by kernel_rfl) (by kernel_rfl) ?_
  refine s_val (some 18) (.bool true) (fun w => by kernel_rfl) (by kernel_rfl) ?_
  refine s_val (some 19) (.bool true) (fun w => by kernel_rfl) (by kernel_rfl) ?_
  refine s_val (some 20) (.int .i64 0) (fun w => by kernel_rfl) (by kernel_rfl) ?_
  refine s_val (some 21) (.bool true) (fun w => by kernel_rfl) (by kernel_rfl) ?_
  refine s_val (some 22) (.bool true) (fun w => by kernel_rfl) (by kernel_rfl) ?_
  refine s_val (some 23) (.bool true) (fun w => by kernel_rfl) (by kernel_rfl) ?_
  refine s_load H6 (some 24) 24 (.tmp 1) 1 b1 (Value.cells (uv (fAdd 2 2 PR))) 24 (0, 0) (by kernel_rfl) (by kernel_rfl) (by kernel_rfl) (by kernel_rfl) (by kernel_rfl) ?_
  refine s_val (some 25) (.agg #[.int .u64 4, .int .u64 0, .int .u64 0, .int .u64 0]) (fun w => by kernel_rfl) (by kernel_rfl) ?_
  refine s_opE (some 26) _ (.bool (decide ((fAdd 2 2 PR) = 4))) (.bool true) (by kernel_rfl) (fun o w ho => eqU_run (x := (.tmp 24)) (y := (.tmp 25)) (fAdd 2 2 PR) 4 (fAdd_lt pr_ok) (by unfold big; omega) w ho (by kernel_rfl) (by kernel_rfl)) (by rw [decide_eq_true (by decide +kernel)] <;> rfl) (by kernel_rfl) ?_
  refine s_val (some 27) (.bool true) (fun w => by kernel_rfl) (by kernel_rfl) ?_
  refine s_val (some 28) (.bool true) (fun w => by kernel_rfl) (by kernel_rfl) ?_
  refine s_load H6 (some 29) 24 (.tmp 1) 1 b1 (Value.cells (uv (fAdd 2 2 PR))) 24 (0, 0) (by kernel_rfl) (by kernel_rfl) (by kernel_rfl) (by kernel_rfl) (by kernel_rfl) ?_
  refine s_load H6 (some 30) 24 (.tmp 3) 0 b2 (Value.cells (uv (fMul 2 2 NR))) 24 (0, 0) (by kernel_rfl) (by kernel_rfl) (by kernel_rfl) (by kernel_rfl) (by kernel_rfl) ?_
  refine s_opE (some 31) _ (.bool (decide ((fAdd 2 2 PR) = (fMul 2 2 NR)))) (.bool true) (by kernel_rfl) (fun o w ho => eqU_run (x := (.tmp 29)) (y := (.tmp 30)) (fAdd 2 2 PR) (fMul 2 2 NR) (fAdd_lt pr_ok) (fMul_lt nr_ok) w ho (by kernel_rfl) (by kernel_rfl)) (by rw [decide_eq_true (by decide +kernel)] <;> rfl) (by kernel_rfl) ?_
  refine s_val (some 32) (.bool true) (fun w => by kernel_rfl) (by kernel_rfl) ?_
  refine s_val (some 0) (.bool true) (fun w => by kernel_rfl) (by kernel_rfl) ?_
  refine s_nil ?_
  refine g_ret (by kernel_rfl) ?_
  show ∃ vs, Res _ _ _ _ vs ∧ _
  refine ⟨[.bool true], (.tmp (.bool true) (by kernel_rfl) .nil), ?_, H6.below⟩
  rfl
end Go.Proofs.Ytiiichlmmngbbaa
