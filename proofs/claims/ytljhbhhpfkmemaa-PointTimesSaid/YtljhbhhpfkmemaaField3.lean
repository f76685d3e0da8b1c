/-
  More calls of package field: what turns a number, roots; the statements' own first call.
-/
import Derived.Test.YtljhbhhpfkmemaaField2
namespace Go.Proofs.Ytljhbhhpfkmemaa
open Go Go.RowKit
set_option linter.unusedVariables false
/-- The power that turns a number. -/
def finv (A M : Nat) : Nat := fpw A (df M 2) M
def QR : Nat := 28948022309329048855892746252171976963317496166410141009864396001977208667916
/-- The root, if there is one. -/
def rt (A : Nat) : Nat := if bt (fpw A QR PR) 0 then fSub 0 (fpw A QR PR) PR else fpw A QR PR
theorem rt_lt (A : Nat) : rt A < big := by unfold rt; split; exact fSub_lt pr_ok; exact fpw_lt pr_ok
theorem qr_lt : QR < big := by unfold QR big; omega

set_option maxRecDepth 100000 in
theorem inv0_fn (A : Nat) (hA : A < big) (hz : rs A 0 PR ≠ 0) : Fn Try.prog 57 #[uv A, .int .i64 0] (.tuple #[uv (finv A PR), .int .i64 0]) := by
  refine Fn.intro (c := codeOf Try.f57) [.cell 4 24, .tmp 5] 38 Try.func57 kr kr kr fun w => ?_
  have H0 := St.start w
  refine g_sreg [0, 1, 2] kr kr ?_
  refine s_box H0 (some 2) 24 (.tmp 0) (uv A) kr kr kr ?_
  intro b1 w1 H1; clear H0
  refine s_alloc H1 (some 4) 24 (.agg Z4) kr kr kr ?_
  intro b2 w2 H2; clear H1
  refine s_val (some 5) (.int .i64 0) (fun w => kr) kr ?_
  refine s_nil ?_
  refine g_sreg [0, 1, 2, 3, 4, 5, 6, 7] kr kr ?_
  refine s_val (some 11) (.int .i64 0) (fun w => kr) kr ?_
  refine s_call H2 (some 12) 20 #[.int .i64 0] (.tuple #[uv PR, .int .i64 0]) prime0_fn (fun w => kr) kr ?_
  intro w3 H3; clear H2
  refine s_val (some 10) (.tuple #[uv PR, .int .i64 0]) (fun w => kr) kr ?_
  refine s_val (some 13) (uv PR) (fun w => kr) kr ?_
  refine s_val (some 14) (.int .i64 0) (fun w => kr) kr ?_
  refine s_alloc H3 (some 6) 24 (.agg Z4) kr kr kr ?_
  intro b3 w4 H4; clear H3
  refine s_store H4 0 [(b3, Oc (uv PR) 24), (b2, Od Z4 24), (b1, Oc (uv A) 24)] 24 (.tmp 6) (.tmp 13) b3 0 Z4 (Value.cells (uv PR)) 24 (uv PR) kr kr kr kr kr kr (of_decide_eq_true kr) kr kr ?_
  intro w5 H5; clear H4
  refine s_val (some 7) (.int .i64 0) (fun w => kr) kr ?_
  refine s_nil ?_
  refine g_seq kr ?_
  refine g_sreg [0, 1] kr kr ?_
  refine s_val (some 15) (.int .i64 0) (fun w => kr) kr ?_
  refine s_val (some 16) (.bool false) (fun w => kr) kr ?_
  refine s_nil ?_
  refine g_cond_f kr kr ?_
  refine g_skip kr ?_
  show WP _ _ _ _ _ _
  refine g_seq kr ?_
  refine g_sreg [0, 1, 2, 3, 4, 5] kr kr ?_
  refine s_load H5 (some 19) 24 (.tmp 2) 2 b1 (Value.cells (uv A)) 24 (0, 0) kr kr kr kr kr ?_
  refine s_val (some 20) (.agg Z4) (fun w => kr) kr ?_
  refine s_load H5 (some 21) 24 (.tmp 6) 0 b3 (Value.cells (uv PR)) 24 (0, 0) kr kr kr kr kr ?_
  refine s_call H5 (some 22) 49 #[uv A, .agg Z4, uv PR] (uv (rs A 0 PR)) (rest_fn A 0 PR hA (by unfold big; omega) pr_ok) (fun w => kr) kr ?_
  intro w6 H6; clear H5
  refine s_val (some 23) (.agg Z4) (fun w => kr) kr ?_
  refine s_opE (some 24) _ (.bool (decide ((rs A 0 PR) = 0))) (.bool false) kr (fun o w ho => eqU_run (x := (.tmp 22)) (y := (.tmp 23)) (rs A 0 PR) 0 (rs_lt pr_ok) (by unfold big; omega) w ho kr kr) (by rw [decide_eq_false hz] <;> rfl) kr ?_
  refine s_nil ?_
  refine g_cond_f kr kr ?_
  refine g_skip kr ?_
  show WP _ _ _ _ _ _
  refine g_sdraw [0, 1, 2, 3, 4, 5, 6, 7, 8] [((some 27), fun _ => uv PR), ((some 28), fun _ => uv 2), ((some 29), fun _ => .tuple #[uv (df PR 2), .bool (lo PR 2)]), ((some 26), fun _ => .tuple #[uv (df PR 2), .bool (lo PR 2)]), ((some 30), fun _ => uv (df PR 2)), ((some 31), fun _ => .bool (lo PR 2)), ((some 8), fun b => .pointer (some ⟨b, 0, none⟩)), (none, fun _ => undef), ((some 9), fun _ => .bool (lo PR 2))] (fun L g x => St w.heap.size w x ([(b3, Oc (uv PR) 24), (b2, Od Z4 24), (b1, Oc (uv A) 24)] ++ (bif L 6 then [(g 6, (bif L 7 then Oc (uv (df PR 2)) 24 else Od Z4 24))] else []))) kr kr kr kr (H6.drew) ⟨?_, ?_, ?_, ?_, ?_, ?_, ?_, ?_, ?_, trivial⟩ ?_
  · exact gv_load 24 (.tmp 6) (fun _ => 0) (fun g => b3) (Value.cells (uv PR)) 24 (0, 0) (fun _ _ _ h => h) (fun g => kr) (fun g => kr) (fun L g _ => kr) kr
  · exact gv_call 44 #[.int .u64 2] (fun _ _ _ h => h) (small_fn 2 (by omega)) (fun g w => kr)
  · exact gv_call 50 #[uv PR, uv 2] (fun _ _ _ h => h) (sub_fn PR 2 pr_ok.1 (by unfold big; omega)) (fun g w => kr)
  · exact gv_val (fun _ _ _ h => h) (fun g w => kr)
  · exact gv_val (fun _ _ _ h => h) (fun g w => kr)
  · exact gv_val (fun _ _ _ h => h) (fun g w => kr)
  · exact gv_alloc 24 (.agg Z4) (fun L g => [(b3, Oc (uv PR) 24), (b2, Od Z4 24), (b1, Oc (uv A) 24)]) (fun L g => ([] : List (Nat × Obj))) (fun g => kr) kr (fun L g hN => by (have hn : L 6 = false := hN.1; show ([(b3, Oc (uv PR) 24), (b2, Od Z4 24), (b1, Oc (uv A) 24)] ++ (bif L 6 then [(g 6, (bif L 7 then Oc (uv (df PR 2)) 24 else Od Z4 24))] else [])) = ([(b3, Oc (uv PR) 24), (b2, Od Z4 24), (b1, Oc (uv A) 24)]) ++ (([] : List (Nat × Obj))); rw [hn]; rfl)) (fun L g b hN => by (have hz : L 7 = false := hN.2.2.no 6 7 kr hN.1; show ([(b3, Oc (uv PR) 24), (b2, Od Z4 24), (b1, Oc (uv A) 24)]) ++ (b, Od Z4 24) :: (([] : List (Nat × Obj))) = ([(b3, Oc (uv PR) 24), (b2, Od Z4 24), (b1, Oc (uv A) 24)] ++ ([(b, (bif L 7 then Oc (uv (df PR 2)) 24 else Od Z4 24))])); rw [hz]; rfl))
  · exact gv_store (fun _ => 3) 24 (.tmp 8) (.tmp 30) (fun g => g 6) 0 Z4 (Value.cells (uv (df PR 2))) 24 (uv (df PR 2)) (fun g => kr) (fun g => kr) (fun g => kr) kr kr (of_decide_eq_true kr) kr (fun L g hN => by (have hs7 : L 7 = false := hN.1; have hs6 : L 6 = true := before_yes hN.2.1 6 kr; show ([(b3, Oc (uv PR) 24), (b2, Od Z4 24), (b1, Oc (uv A) 24)] ++ (bif L 6 then [(g 6, (bif L 7 then Oc (uv (df PR 2)) 24 else Od Z4 24))] else []))[(fun _ => 3) L]? = some (g 6, Od Z4 24) ∧ ([(b3, Oc (uv PR) 24), (b2, Od Z4 24), (b1, Oc (uv A) 24)] ++ (bif L 6 then [(g 6, (bif L 7 then Oc (uv (df PR 2)) 24 else Od Z4 24))] else [])).set ((fun _ => 3) L) (g 6, Oc (uv (df PR 2)) 24) = ([(b3, Oc (uv PR) 24), (b2, Od Z4 24), (b1, Oc (uv A) 24)] ++ (bif L 6 then [(g 6, (bif true then Oc (uv (df PR 2)) 24 else Od Z4 24))] else [])); rw [hs7, hs6]; exact ⟨rfl, rfl⟩))
  · exact gv_val (fun _ _ _ h => h) (fun g w => kr)
  intro L0 g7 w7 hall HL; clear H6
  have H7 : St w.heap.size w w7 [(b3, Oc (uv PR) 24), (b2, Od Z4 24), (b1, Oc (uv A) 24), ((g7 6), Oc (uv (df PR 2)) 24)] := by have e7 := hall 7 (Nat.le_of_ble_eq_true kr); have e6 := hall 6 (Nat.le_of_ble_eq_true kr); simp only [e7, e6, cond_true] at HL; exact HL
  clear HL hall
  refine g_sreg [0, 1, 2, 3, 4, 5, 6, 7] kr kr ?_
  refine s_load H7 (some 32) 24 (.tmp 2) 2 b1 (Value.cells (uv A)) 24 (0, 0) kr kr kr kr kr ?_
  refine s_load H7 (some 33) 24 (.tmp 8) 3 (g7 6) (Value.cells (uv (df PR 2))) 24 (0, 0) kr kr kr kr kr ?_
  refine s_val (some 34) (.int .i64 0) (fun w => kr) kr ?_
  refine s_call H7 (some 35) 61 #[uv A, uv (df PR 2), .int .i64 0] (.tuple #[uv (fpw A (df PR 2) PR), .int .i64 0]) (pow0_fn A (df PR 2) hA (df_lt _ _)) (fun w => kr) kr ?_
  intro w8 H8; clear H7
  refine s_val (some 36) (uv (fpw A (df PR 2) PR)) (fun w => kr) kr ?_
  refine s_val (some 37) (.int .i64 0) (fun w => kr) kr ?_
  refine s_store H8 1 [(b3, Oc (uv PR) 24), (b2, Oc (uv (fpw A (df PR 2) PR)) 24), (b1, Oc (uv A) 24), ((g7 6), Oc (uv (df PR 2)) 24)] 24 (.tmp 4) (.tmp 36) b2 0 Z4 (Value.cells (uv (fpw A (df PR 2) PR))) 24 (uv (fpw A (df PR 2) PR)) kr kr kr kr kr kr (of_decide_eq_true kr) kr kr ?_
  intro w9 H9; clear H8
  refine s_val (some 5) (.int .i64 0) (fun w => kr) kr ?_
  refine s_nil ?_
  refine g_ret kr ?_
  show ∃ vs, Res _ _ _ _ vs ∧ _
  refine ⟨[uv (fpw A (df PR 2) PR), .int .i64 0], (.agg (b := b2) (Value.cells (uv (fpw A (df PR 2) PR))) 24 (0, 0) kr (H9.get 1 kr) kr (.tmp (.int .i64 0) kr .nil)), ?_, H9.below⟩
  rfl

set_option maxRecDepth 100000 in
theorem rootNo_fn (A : Nat) (hA : A < big) (hs : fMul (fpw A QR PR) (fpw A QR PR) PR ≠ rs A 0 PR) : Fn Try.prog 45 #[uv A] (.tuple #[.agg Z4, .int .i64 6]) := by
  refine Fn.intro (c := codeOf Try.f45) [.cell 2 24, .tmp 3] 43 Try.func45 kr kr kr fun w => ?_
  have H0 := St.start w
  refine g_sreg [0, 1, 2] kr kr ?_
  refine s_box H0 (some 1) 24 (.tmp 0) (uv A) kr kr kr ?_
  intro b1 w1 H1; clear H0
  refine s_alloc H1 (some 2) 24 (.agg Z4) kr kr kr ?_
  intro b2 w2 H2; clear H1
  refine s_val (some 3) (.int .i64 0) (fun w => kr) kr ?_
  refine s_nil ?_
  refine g_sreg [0, 1, 2] kr kr ?_
  refine s_val (some 11) (uv QR) (fun w => kr) kr ?_
  refine s_alloc H2 (some 4) 24 (.agg Z4) kr kr kr ?_
  intro b3 w3 H3; clear H2
  refine s_store H3 0 [(b3, Oc (uv QR) 24), (b2, Od Z4 24), (b1, Oc (uv A) 24)] 24 (.tmp 4) (.tmp 11) b3 0 Z4 (Value.cells (uv QR)) 24 (uv QR) kr kr kr kr kr kr (of_decide_eq_true kr) kr kr ?_
  intro w4 H4; clear H3
  refine s_nil ?_
  refine g_sreg [0, 1, 2, 3, 4, 5, 6, 7, 8] kr kr ?_
  refine s_load H4 (some 13) 24 (.tmp 1) 2 b1 (Value.cells (uv A)) 24 (0, 0) kr kr kr kr kr ?_
  refine s_load H4 (some 14) 24 (.tmp 4) 0 b3 (Value.cells (uv QR)) 24 (0, 0) kr kr kr kr kr ?_
  refine s_call H4 (some 15) 61 #[uv A, uv QR, .int .i64 0] (.tuple #[uv (fpw A QR PR), .int .i64 0]) (pow0_fn A QR hA qr_lt) (fun w => kr) kr ?_
  intro w5 H5; clear H4
  refine s_val (some 12) (.tuple #[uv (fpw A QR PR), .int .i64 0]) (fun w => kr) kr ?_
  refine s_val (some 16) (uv (fpw A QR PR)) (fun w => kr) kr ?_
  refine s_val (some 17) (.int .i64 0) (fun w => kr) kr ?_
  refine s_alloc H5 (some 5) 24 (.agg Z4) kr kr kr ?_
  intro b4 w6 H6; clear H5
  refine s_store H6 0 [(b4, Oc (uv (fpw A QR PR)) 24), (b3, Oc (uv QR) 24), (b2, Od Z4 24), (b1, Oc (uv A) 24)] 24 (.tmp 5) (.tmp 16) b4 0 Z4 (Value.cells (uv (fpw A QR PR))) 24 (uv (fpw A QR PR)) kr kr kr kr kr kr (of_decide_eq_true kr) kr kr ?_
  intro w7 H7; clear H6
  refine s_val (some 6) (.int .i64 0) (fun w => kr) kr ?_
  refine s_nil ?_
  refine g_sreg [0, 1, 2, 3, 4, 5, 6, 7, 8] kr kr ?_
  refine s_load H7 (some 19) 24 (.tmp 5) 0 b4 (Value.cells (uv (fpw A QR PR))) 24 (0, 0) kr kr kr kr kr ?_
  refine s_load H7 (some 20) 24 (.tmp 5) 0 b4 (Value.cells (uv (fpw A QR PR))) 24 (0, 0) kr kr kr kr kr ?_
  refine s_call H7 (some 21) 23 #[uv (fpw A QR PR), uv (fpw A QR PR), .int .i64 0] (.tuple #[uv (fMul (fpw A QR PR) (fpw A QR PR) PR), .int .i64 0]) (fmul0_fn (fpw A QR PR) (fpw A QR PR) (fpw_lt pr_ok) (fpw_lt pr_ok)) (fun w => kr) kr ?_
  intro w8 H8; clear H7
  refine s_val (some 18) (.tuple #[uv (fMul (fpw A QR PR) (fpw A QR PR) PR), .int .i64 0]) (fun w => kr) kr ?_
  refine s_val (some 22) (uv (fMul (fpw A QR PR) (fpw A QR PR) PR)) (fun w => kr) kr ?_
  refine s_val (some 23) (.int .i64 0) (fun w => kr) kr ?_
  refine s_alloc H8 (some 7) 24 (.agg Z4) kr kr kr ?_
  intro b5 w9 H9; clear H8
  refine s_store H9 0 [(b5, Oc (uv (fMul (fpw A QR PR) (fpw A QR PR) PR)) 24), (b4, Oc (uv (fpw A QR PR)) 24), (b3, Oc (uv QR) 24), (b2, Od Z4 24), (b1, Oc (uv A) 24)] 24 (.tmp 7) (.tmp 22) b5 0 Z4 (Value.cells (uv (fMul (fpw A QR PR) (fpw A QR PR) PR))) 24 (uv (fMul (fpw A QR PR) (fpw A QR PR) PR)) kr kr kr kr kr kr (of_decide_eq_true kr) kr kr ?_
  intro w10 H10; clear H9
  refine s_val (some 8) (.int .i64 0) (fun w => kr) kr ?_
  refine s_nil ?_
  refine g_sreg [0, 1, 2, 3, 4, 5, 6, 7, 8] kr kr ?_
  refine s_load H10 (some 25) 24 (.tmp 1) 4 b1 (Value.cells (uv A)) 24 (0, 0) kr kr kr kr kr ?_
  refine s_val (some 26) (.agg Z4) (fun w => kr) kr ?_
  refine s_call H10 (some 27) 27 #[uv A, .agg Z4, .int .i64 0] (.tuple #[uv (rs A 0 PR), .int .i64 0]) (reduce0_fn A 0 hA (by unfold big; omega)) (fun w => kr) kr ?_
  intro w11 H11; clear H10
  refine s_val (some 24) (.tuple #[uv (rs A 0 PR), .int .i64 0]) (fun w => kr) kr ?_
  refine s_val (some 28) (uv (rs A 0 PR)) (fun w => kr) kr ?_
  refine s_val (some 29) (.int .i64 0) (fun w => kr) kr ?_
  refine s_alloc H11 (some 9) 24 (.agg Z4) kr kr kr ?_
  intro b6 w12 H12; clear H11
  refine s_store H12 0 [(b6, Oc (uv (rs A 0 PR)) 24), (b5, Oc (uv (fMul (fpw A QR PR) (fpw A QR PR) PR)) 24), (b4, Oc (uv (fpw A QR PR)) 24), (b3, Oc (uv QR) 24), (b2, Od Z4 24), (b1, Oc (uv A) 24)] 24 (.tmp 9) (.tmp 28) b6 0 Z4 (Value.cells (uv (rs A 0 PR))) 24 (uv (rs A 0 PR)) kr kr kr kr kr kr (of_decide_eq_true kr) kr kr ?_
  intro w13 H13; clear H12
  refine s_val (some 10) (.int .i64 0) (fun w => kr) kr ?_
  refine s_nil ?_
  refine g_seq kr ?_
  refine g_sreg [0, 1, 2] kr kr ?_
  refine s_load H13 (some 30) 24 (.tmp 7) 1 b5 (Value.cells (uv (fMul (fpw A QR PR) (fpw A QR PR) PR))) 24 (0, 0) kr kr kr kr kr ?_
  refine s_load H13 (some 31) 24 (.tmp 9) 0 b6 (Value.cells (uv (rs A 0 PR))) 24 (0, 0) kr kr kr kr kr ?_
  refine s_opE (some 32) _ (.bool (!decide ((fMul (fpw A QR PR) (fpw A QR PR) PR) = (rs A 0 PR)))) (.bool true) kr (fun o w ho => neU_run (x := (.tmp 30)) (y := (.tmp 31)) (fMul (fpw A QR PR) (fpw A QR PR) PR) (rs A 0 PR) (fMul_lt pr_ok) (rs_lt pr_ok) w ho kr kr) (by rw [decide_eq_false hs] <;> rfl) kr ?_
  refine s_nil ?_
  refine g_cond_t kr kr ?_
  refine g_sreg [0, 1, 2] kr kr ?_
  refine s_val (some 33) (.agg Z4) (fun w => kr) kr ?_
  refine s_store H13 4 [(b6, Oc (uv (rs A 0 PR)) 24), (b5, Oc (uv (fMul (fpw A QR PR) (fpw A QR PR) PR)) 24), (b4, Oc (uv (fpw A QR PR)) 24), (b3, Oc (uv QR) 24), (b2, Od Z4 24), (b1, Oc (uv A) 24)] 24 (.tmp 2) (.tmp 33) b2 0 Z4 Z4 24 (.agg Z4) kr kr kr kr kr kr (of_decide_eq_true kr) kr kr ?_
  intro w14 H14; clear H13
  refine s_val (some 3) (.int .i64 6) (fun w => kr) kr ?_
  refine s_nil ?_
  refine g_ret kr ?_
  show ∃ vs, Res _ _ _ _ vs ∧ _
  refine ⟨[.agg Z4, .int .i64 6], (.agg (b := b2) Z4 24 (0, 0) kr (H14.get 4 kr) kr (.tmp (.int .i64 6) kr .nil)), ?_, H14.below⟩
  rfl

set_option maxRecDepth 100000 in
theorem root_fn (A : Nat) (hA : A < big) (hs : fMul (fpw A QR PR) (fpw A QR PR) PR = rs A 0 PR) : Fn Try.prog 45 #[uv A] (.tuple #[uv (rt A), .int .i64 0]) := by
  refine Fn.intro (c := codeOf Try.f45) [.cell 2 24, .tmp 3] 43 Try.func45 kr kr kr fun w => ?_
  have H0 := St.start w
  refine g_sreg [0, 1, 2] kr kr ?_
  refine s_box H0 (some 1) 24 (.tmp 0) (uv A) kr kr kr ?_
  intro b1 w1 H1; clear H0
  refine s_alloc H1 (some 2) 24 (.agg Z4) kr kr kr ?_
  intro b2 w2 H2; clear H1
  refine s_val (some 3) (.int .i64 0) (fun w => kr) kr ?_
  refine s_nil ?_
  refine g_sreg [0, 1, 2] kr kr ?_
  refine s_val (some 11) (uv QR) (fun w => kr) kr ?_
  refine s_alloc H2 (some 4) 24 (.agg Z4) kr kr kr ?_
  intro b3 w3 H3; clear H2
  refine s_store H3 0 [(b3, Oc (uv QR) 24), (b2, Od Z4 24), (b1, Oc (uv A) 24)] 24 (.tmp 4) (.tmp 11) b3 0 Z4 (Value.cells (uv QR)) 24 (uv QR) kr kr kr kr kr kr (of_decide_eq_true kr) kr kr ?_
  intro w4 H4; clear H3
  refine s_nil ?_
  refine g_sreg [0, 1, 2, 3, 4, 5, 6, 7, 8] kr kr ?_
  refine s_load H4 (some 13) 24 (.tmp 1) 2 b1 (Value.cells (uv A)) 24 (0, 0) kr kr kr kr kr ?_
  refine s_load H4 (some 14) 24 (.tmp 4) 0 b3 (Value.cells (uv QR)) 24 (0, 0) kr kr kr kr kr ?_
  refine s_call H4 (some 15) 61 #[uv A, uv QR, .int .i64 0] (.tuple #[uv (fpw A QR PR), .int .i64 0]) (pow0_fn A QR hA qr_lt) (fun w => kr) kr ?_
  intro w5 H5; clear H4
  refine s_val (some 12) (.tuple #[uv (fpw A QR PR), .int .i64 0]) (fun w => kr) kr ?_
  refine s_val (some 16) (uv (fpw A QR PR)) (fun w => kr) kr ?_
  refine s_val (some 17) (.int .i64 0) (fun w => kr) kr ?_
  refine s_alloc H5 (some 5) 24 (.agg Z4) kr kr kr ?_
  intro b4 w6 H6; clear H5
  refine s_store H6 0 [(b4, Oc (uv (fpw A QR PR)) 24), (b3, Oc (uv QR) 24), (b2, Od Z4 24), (b1, Oc (uv A) 24)] 24 (.tmp 5) (.tmp 16) b4 0 Z4 (Value.cells (uv (fpw A QR PR))) 24 (uv (fpw A QR PR)) kr kr kr kr kr kr (of_decide_eq_true kr) kr kr ?_
  intro w7 H7; clear H6
  refine s_val (some 6) (.int .i64 0) (fun w => kr) kr ?_
  refine s_nil ?_
  refine g_sreg [0, 1, 2, 3, 4, 5, 6, 7, 8] kr kr ?_
  refine s_load H7 (some 19) 24 (.tmp 5) 0 b4 (Value.cells (uv (fpw A QR PR))) 24 (0, 0) kr kr kr kr kr ?_
  refine s_load H7 (some 20) 24 (.tmp 5) 0 b4 (Value.cells (uv (fpw A QR PR))) 24 (0, 0) kr kr kr kr kr ?_
  refine s_call H7 (some 21) 23 #[uv (fpw A QR PR), uv (fpw A QR PR), .int .i64 0] (.tuple #[uv (fMul (fpw A QR PR) (fpw A QR PR) PR), .int .i64 0]) (fmul0_fn (fpw A QR PR) (fpw A QR PR) (fpw_lt pr_ok) (fpw_lt pr_ok)) (fun w => kr) kr ?_
  intro w8 H8; clear H7
  refine s_val (some 18) (.tuple #[uv (fMul (fpw A QR PR) (fpw A QR PR) PR), .int .i64 0]) (fun w => kr) kr ?_
  refine s_val (some 22) (uv (fMul (fpw A QR PR) (fpw A QR PR) PR)) (fun w => kr) kr ?_
  refine s_val (some 23) (.int .i64 0) (fun w => kr) kr ?_
  refine s_alloc H8 (some 7) 24 (.agg Z4) kr kr kr ?_
  intro b5 w9 H9; clear H8
  refine s_store H9 0 [(b5, Oc (uv (fMul (fpw A QR PR) (fpw A QR PR) PR)) 24), (b4, Oc (uv (fpw A QR PR)) 24), (b3, Oc (uv QR) 24), (b2, Od Z4 24), (b1, Oc (uv A) 24)] 24 (.tmp 7) (.tmp 22) b5 0 Z4 (Value.cells (uv (fMul (fpw A QR PR) (fpw A QR PR) PR))) 24 (uv (fMul (fpw A QR PR) (fpw A QR PR) PR)) kr kr kr kr kr kr (of_decide_eq_true kr) kr kr ?_
  intro w10 H10; clear H9
  refine s_val (some 8) (.int .i64 0) (fun w => kr) kr ?_
  refine s_nil ?_
  refine g_sreg [0, 1, 2, 3, 4, 5, 6, 7, 8] kr kr ?_
  refine s_load H10 (some 25) 24 (.tmp 1) 4 b1 (Value.cells (uv A)) 24 (0, 0) kr kr kr kr kr ?_
  refine s_val (some 26) (.agg Z4) (fun w => kr) kr ?_
  refine s_call H10 (some 27) 27 #[uv A, .agg Z4, .int .i64 0] (.tuple #[uv (rs A 0 PR), .int .i64 0]) (reduce0_fn A 0 hA (by unfold big; omega)) (fun w => kr) kr ?_
  intro w11 H11; clear H10
  refine s_val (some 24) (.tuple #[uv (rs A 0 PR), .int .i64 0]) (fun w => kr) kr ?_
  refine s_val (some 28) (uv (rs A 0 PR)) (fun w => kr) kr ?_
  refine s_val (some 29) (.int .i64 0) (fun w => kr) kr ?_
  refine s_alloc H11 (some 9) 24 (.agg Z4) kr kr kr ?_
  intro b6 w12 H12; clear H11
  refine s_store H12 0 [(b6, Oc (uv (rs A 0 PR)) 24), (b5, Oc (uv (fMul (fpw A QR PR) (fpw A QR PR) PR)) 24), (b4, Oc (uv (fpw A QR PR)) 24), (b3, Oc (uv QR) 24), (b2, Od Z4 24), (b1, Oc (uv A) 24)] 24 (.tmp 9) (.tmp 28) b6 0 Z4 (Value.cells (uv (rs A 0 PR))) 24 (uv (rs A 0 PR)) kr kr kr kr kr kr (of_decide_eq_true kr) kr kr ?_
  intro w13 H13; clear H12
  refine s_val (some 10) (.int .i64 0) (fun w => kr) kr ?_
  refine s_nil ?_
  refine g_seq kr ?_
  refine g_sreg [0, 1, 2] kr kr ?_
  refine s_load H13 (some 30) 24 (.tmp 7) 1 b5 (Value.cells (uv (fMul (fpw A QR PR) (fpw A QR PR) PR))) 24 (0, 0) kr kr kr kr kr ?_
  refine s_load H13 (some 31) 24 (.tmp 9) 0 b6 (Value.cells (uv (rs A 0 PR))) 24 (0, 0) kr kr kr kr kr ?_
  refine s_opE (some 32) _ (.bool (!decide ((fMul (fpw A QR PR) (fpw A QR PR) PR) = (rs A 0 PR)))) (.bool false) kr (fun o w ho => neU_run (x := (.tmp 30)) (y := (.tmp 31)) (fMul (fpw A QR PR) (fpw A QR PR) PR) (rs A 0 PR) (fMul_lt pr_ok) (rs_lt pr_ok) w ho kr kr) (by rw [decide_eq_true hs] <;> rfl) kr ?_
  refine s_nil ?_
  refine g_cond_f kr kr ?_
  refine g_skip kr ?_
  show WP _ _ _ _ _ _
  refine g_seq kr ?_
  refine g_sreg [0, 1] kr kr ?_
  refine s_load H13 (some 34) 24 (.tmp 5) 2 b4 (Value.cells (uv (fpw A QR PR))) 24 (0, 0) kr kr kr kr kr ?_
  refine s_call H13 (some 35) 62 #[uv (fpw A QR PR), .int .i64 0] (.bool (bt (fpw A QR PR) 0)) (bit_fn (fpw A QR PR) 0) (fun w => kr) kr ?_
  intro w14 H14; clear H13
  cases hbt : bt (fpw A QR PR) 0
  · skip
    refine s_nil ?_
    refine g_cond_f kr kr ?_
    refine g_skip kr ?_
    show WP _ _ _ _ _ _
    refine g_sreg [0, 1, 2] kr kr ?_
    refine s_load H14 (some 42) 24 (.tmp 5) 2 b4 (Value.cells (uv (fpw A QR PR))) 24 (0, 0) kr kr kr kr kr ?_
    refine s_store H14 4 [(b6, Oc (uv (rs A 0 PR)) 24), (b5, Oc (uv (fMul (fpw A QR PR) (fpw A QR PR) PR)) 24), (b4, Oc (uv (fpw A QR PR)) 24), (b3, Oc (uv QR) 24), (b2, Oc (uv (fpw A QR PR)) 24), (b1, Oc (uv A) 24)] 24 (.tmp 2) (.tmp 42) b2 0 Z4 (Value.cells (uv (fpw A QR PR))) 24 (uv (fpw A QR PR)) kr kr kr kr kr kr (of_decide_eq_true kr) kr kr ?_
    intro w15 H15; clear H14
    refine s_val (some 3) (.int .i64 0) (fun w => kr) kr ?_
    refine s_nil ?_
    refine g_ret kr ?_
    show ∃ vs, Res _ _ _ _ vs ∧ _
    refine ⟨[uv (fpw A QR PR), .int .i64 0], (.agg (b := b2) (Value.cells (uv (fpw A QR PR))) 24 (0, 0) kr (H15.get 4 kr) kr (.tmp (.int .i64 0) kr .nil)), ?_, H15.below⟩
    have e : rt A = fpw A QR PR := by unfold rt; rw [hbt]; exact if_neg (by decide)
    rw [e]; rfl
  · skip
    refine s_nil ?_
    refine g_cond_t kr kr ?_
    refine g_reg0 [0, 1, 2, 3, 4, 5, 6] kr ?_
    refine s_val (some 37) (.agg Z4) (fun w => kr) kr ?_
    refine s_load H14 (some 38) 24 (.tmp 5) 2 b4 (Value.cells (uv (fpw A QR PR))) 24 (0, 0) kr kr kr kr kr ?_
    refine s_call H14 (some 39) 28 #[.agg Z4, uv (fpw A QR PR), .int .i64 0] (.tuple #[uv (fSub 0 (fpw A QR PR) PR), .int .i64 0]) (fsub0_fn 0 (fpw A QR PR) (by unfold big; omega) (fpw_lt pr_ok)) (fun w => kr) kr ?_
    intro w16 H16; clear H14
    refine s_val (some 36) (.tuple #[uv (fSub 0 (fpw A QR PR) PR), .int .i64 0]) (fun w => kr) kr ?_
    refine s_val (some 40) (uv (fSub 0 (fpw A QR PR) PR)) (fun w => kr) kr ?_
    refine s_val (some 41) (.int .i64 0) (fun w => kr) kr ?_
    refine s_store H16 2 [(b6, Oc (uv (rs A 0 PR)) 24), (b5, Oc (uv (fMul (fpw A QR PR) (fpw A QR PR) PR)) 24), (b4, Oc (uv (fSub 0 (fpw A QR PR) PR)) 24), (b3, Oc (uv QR) 24), (b2, Od Z4 24), (b1, Oc (uv A) 24)] 24 (.tmp 5) (.tmp 40) b4 0 (Value.cells (uv (fpw A QR PR))) (Value.cells (uv (fSub 0 (fpw A QR PR) PR))) 24 (uv (fSub 0 (fpw A QR PR) PR)) kr kr kr kr kr kr (of_decide_eq_true kr) kr kr ?_
    intro w17 H17; clear H16
    refine s_nil ?_
    show WP _ _ _ _ _ _
    refine g_sreg [0, 1, 2] kr kr ?_
    refine s_load H17 (some 42) 24 (.tmp 5) 2 b4 (Value.cells (uv (fSub 0 (fpw A QR PR) PR))) 24 (0, 0) kr kr kr kr kr ?_
    refine s_store H17 4 [(b6, Oc (uv (rs A 0 PR)) 24), (b5, Oc (uv (fMul (fpw A QR PR) (fpw A QR PR) PR)) 24), (b4, Oc (uv (fSub 0 (fpw A QR PR) PR)) 24), (b3, Oc (uv QR) 24), (b2, Oc (uv (fSub 0 (fpw A QR PR) PR)) 24), (b1, Oc (uv A) 24)] 24 (.tmp 2) (.tmp 42) b2 0 Z4 (Value.cells (uv (fSub 0 (fpw A QR PR) PR))) 24 (uv (fSub 0 (fpw A QR PR) PR)) kr kr kr kr kr kr (of_decide_eq_true kr) kr kr ?_
    intro w18 H18; clear H17
    refine s_val (some 3) (.int .i64 0) (fun w => kr) kr ?_
    refine s_nil ?_
    refine g_ret kr ?_
    show ∃ vs, Res _ _ _ _ vs ∧ _
    refine ⟨[uv (fSub 0 (fpw A QR PR) PR), .int .i64 0], (.agg (b := b2) (Value.cells (uv (fSub 0 (fpw A QR PR) PR))) 24 (0, 0) kr (H18.get 4 kr) kr (.tmp (.int .i64 0) kr .nil)), ?_, H18.below⟩
    have e : rt A = fSub 0 (fpw A QR PR) PR := by unfold rt; rw [hbt]; exact if_pos rfl
    rw [e]; rfl
end Go.Proofs.Ytljhbhhpfkmemaa
