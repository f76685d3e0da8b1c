/-
  What the laws ask: turned twice.
-/
import Derived.Test.YtljhbhhpfkmemaaPtV
import Derived.Test.YtljhbhhpfkmemaaPtLb
namespace Go.Proofs.Ytljhbhhpfkmemaa
open Go Go.RowKit
set_option linter.unusedVariables false
set_option maxRecDepth 100000 in
set_option maxHeartbeats 2000000 in
theorem pointTurned_fn (n : Nat) (hn : n < big) (m : Nat) (hm : m < big) : Fn Try.prog 8 #[uv n, uv m] (.bool true) := by
  refine Fn.intro (c := codeOf Try.f8) [.tmp 4] 101 Try.func8 kr kr kr fun w => ?_
  have H0 := St.start w
  refine g_sreg [0, 1, 2] kr kr ?_
  refine s_box H0 (some 2) 24 (.tmp 0) (uv n) kr kr kr ?_
  intro b1 w1 H1; clear H0
  refine s_box H1 (some 3) 24 (.tmp 1) (uv m) kr kr kr ?_
  intro b2 w2 H2; clear H1
  refine s_val (some 4) (.bool false) (fun w => kr) kr ?_
  refine s_nil ?_
  refine g_sreg [0, 1, 2, 3, 4, 5, 6, 7] kr kr ?_
  refine s_load H2 (some 20) 24 (.tmp 3) 0 b2 (Value.cells (uv m)) 24 (0, 0) kr kr kr kr kr ?_
  refine s_call H2 (some 21) 9 #[uv m] (.tuple #[pv (Ec.ofPt (Ec.mulP Ec.G m)), .bool true]) (at6_fn m hm) (fun w => kr) kr ?_
  intro w3 H3; clear H2
  refine s_val (some 19) (.tuple #[pv (Ec.ofPt (Ec.mulP Ec.G m)), .bool true]) (fun w => kr) kr ?_
  refine s_val (some 22) (pv (Ec.ofPt (Ec.mulP Ec.G m))) (fun w => kr) kr ?_
  refine s_val (some 23) (.bool true) (fun w => kr) kr ?_
  refine s_alloc H3 (some 5) 26 (.agg Z9) kr kr kr ?_
  intro b3 w4 H4; clear H3
  refine s_store H4 0 [(b3, Oc (pv (Ec.ofPt (Ec.mulP Ec.G m))) 26), (b2, Oc (uv m) 24), (b1, Oc (uv n) 24)] 26 (.tmp 5) (.tmp 22) b3 (0) Z9 (Value.cells (pv (Ec.ofPt (Ec.mulP Ec.G m)))) 26 (pv (Ec.ofPt (Ec.mulP Ec.G m))) kr kr kr kr kr kr (of_decide_eq_true kr) kr kr ?_
  intro w5 H5; clear H4
  refine s_val (some 6) (.bool true) (fun w => kr) kr ?_
  refine s_nil ?_
  refine g_sreg [0, 1, 2, 3, 4, 5, 6, 7, 8] kr kr ?_
  refine s_load H5 (some 25) 24 (.tmp 2) 2 b1 (Value.cells (uv n)) 24 (0, 0) kr kr kr kr kr ?_
  refine s_val (some 26) (.agg Z4) (fun w => kr) kr ?_
  refine s_call H5 (some 27) 27 #[uv n, .agg Z4, .int .i64 1] (.tuple #[uv (rs n 0 NR), .int .i64 0]) (reduce1_fn n 0 hn (by unfold big; omega)) (fun w => kr) kr ?_
  intro w6 H6; clear H5
  refine s_val (some 24) (.tuple #[uv (rs n 0 NR), .int .i64 0]) (fun w => kr) kr ?_
  refine s_val (some 28) (uv (rs n 0 NR)) (fun w => kr) kr ?_
  refine s_val (some 29) (.int .i64 0) (fun w => kr) kr ?_
  refine s_alloc H6 (some 7) 24 (.agg Z4) kr kr kr ?_
  intro b4 w7 H7; clear H6
  refine s_store H7 0 [(b4, Oc (uv (rs n 0 NR)) 24), (b3, Oc (pv (Ec.ofPt (Ec.mulP Ec.G m))) 26), (b2, Oc (uv m) 24), (b1, Oc (uv n) 24)] 24 (.tmp 7) (.tmp 28) b4 (0) Z4 (Value.cells (uv (rs n 0 NR))) 24 (uv (rs n 0 NR)) kr kr kr kr kr kr (of_decide_eq_true kr) kr kr ?_
  intro w8 H8; clear H7
  refine s_val (some 8) (.int .i64 0) (fun w => kr) kr ?_
  refine s_nil ?_
  refine g_sreg [0, 1, 2, 3, 4, 5, 6, 7, 8] kr kr ?_
  refine s_val (some 31) (.agg Z4) (fun w => kr) kr ?_
  refine s_load H8 (some 32) 24 (.tmp 7) 0 b4 (Value.cells (uv (rs n 0 NR))) 24 (0, 0) kr kr kr kr kr ?_
  refine s_call H8 (some 33) 28 #[.agg Z4, uv (rs n 0 NR), .int .i64 1] (.tuple #[uv (fSub 0 (rs n 0 NR) NR), .int .i64 0]) (fsub1_fn 0 (rs n 0 NR) (by unfold big; omega) (rs_lt nr_ok)) (fun w => kr) kr ?_
  intro w9 H9; clear H8
  refine s_val (some 30) (.tuple #[uv (fSub 0 (rs n 0 NR) NR), .int .i64 0]) (fun w => kr) kr ?_
  refine s_val (some 34) (uv (fSub 0 (rs n 0 NR) NR)) (fun w => kr) kr ?_
  refine s_val (some 35) (.int .i64 0) (fun w => kr) kr ?_
  refine s_alloc H9 (some 9) 24 (.agg Z4) kr kr kr ?_
  intro b5 w10 H10; clear H9
  refine s_store H10 0 [(b5, Oc (uv (fSub 0 (rs n 0 NR) NR)) 24), (b4, Oc (uv (rs n 0 NR)) 24), (b3, Oc (pv (Ec.ofPt (Ec.mulP Ec.G m))) 26), (b2, Oc (uv m) 24), (b1, Oc (uv n) 24)] 24 (.tmp 9) (.tmp 34) b5 (0) Z4 (Value.cells (uv (fSub 0 (rs n 0 NR) NR))) 24 (uv (fSub 0 (rs n 0 NR) NR)) kr kr kr kr kr kr (of_decide_eq_true kr) kr kr ?_
  intro w11 H11; clear H10
  refine s_val (some 10) (.int .i64 0) (fun w => kr) kr ?_
  refine s_nil ?_
  refine g_sreg [0, 1, 2, 3, 4, 5, 6, 7, 8] kr kr ?_
  refine s_load H11 (some 37) 26 (.tmp 5) 2 b3 (Value.cells (pv (Ec.ofPt (Ec.mulP Ec.G m)))) 26 (0, 0) kr kr kr kr kr ?_
  refine s_load H11 (some 38) 24 (.tmp 7) 1 b4 (Value.cells (uv (rs n 0 NR))) 24 (0, 0) kr kr kr kr kr ?_
  refine s_call H11 (some 39) 17 #[pv (Ec.ofPt (Ec.mulP Ec.G m)), uv (rs n 0 NR)] (.tuple #[pv (Ec.ofPt (Ec.mulP (Ec.mulP Ec.G m) (rs n 0 NR))), .int .i64 0]) (times_pt_fn (Ec.mulP Ec.G m) (Ec.mulP_on Ec.good Ec.G_on m) (rs n 0 NR) (rs_lt nr_ok)) (fun w => kr) kr ?_
  intro w12 H12; clear H11
  refine s_val (some 36) (.tuple #[pv (Ec.ofPt (Ec.mulP (Ec.mulP Ec.G m) (rs n 0 NR))), .int .i64 0]) (fun w => kr) kr ?_
  refine s_val (some 40) (pv (Ec.ofPt (Ec.mulP (Ec.mulP Ec.G m) (rs n 0 NR)))) (fun w => kr) kr ?_
  refine s_val (some 41) (.int .i64 0) (fun w => kr) kr ?_
  refine s_alloc H12 (some 11) 26 (.agg Z9) kr kr kr ?_
  intro b6 w13 H13; clear H12
  refine s_store H13 0 [(b6, Oc (pv (Ec.ofPt (Ec.mulP (Ec.mulP Ec.G m) (rs n 0 NR)))) 26), (b5, Oc (uv (fSub 0 (rs n 0 NR) NR)) 24), (b4, Oc (uv (rs n 0 NR)) 24), (b3, Oc (pv (Ec.ofPt (Ec.mulP Ec.G m))) 26), (b2, Oc (uv m) 24), (b1, Oc (uv n) 24)] 26 (.tmp 11) (.tmp 40) b6 (0) Z9 (Value.cells (pv (Ec.ofPt (Ec.mulP (Ec.mulP Ec.G m) (rs n 0 NR))))) 26 (pv (Ec.ofPt (Ec.mulP (Ec.mulP Ec.G m) (rs n 0 NR)))) kr kr kr kr kr kr (of_decide_eq_true kr) kr kr ?_
  intro w14 H14; clear H13
  refine s_val (some 12) (.int .i64 0) (fun w => kr) kr ?_
  refine s_nil ?_
  refine g_sreg [0, 1, 2, 3, 4, 5, 6, 7, 8] kr kr ?_
  refine s_load H14 (some 43) 26 (.tmp 5) 3 b3 (Value.cells (pv (Ec.ofPt (Ec.mulP Ec.G m)))) 26 (0, 0) kr kr kr kr kr ?_
  refine s_load H14 (some 44) 24 (.tmp 9) 1 b5 (Value.cells (uv (fSub 0 (rs n 0 NR) NR))) 24 (0, 0) kr kr kr kr kr ?_
  refine s_call H14 (some 45) 17 #[pv (Ec.ofPt (Ec.mulP Ec.G m)), uv (fSub 0 (rs n 0 NR) NR)] (.tuple #[pv (Ec.ofPt (Ec.mulP (Ec.mulP Ec.G m) (fSub 0 (rs n 0 NR) NR))), .int .i64 0]) (times_pt_fn (Ec.mulP Ec.G m) (Ec.mulP_on Ec.good Ec.G_on m) (fSub 0 (rs n 0 NR) NR) (fSub_lt nr_ok)) (fun w => kr) kr ?_
  intro w15 H15; clear H14
  refine s_val (some 42) (.tuple #[pv (Ec.ofPt (Ec.mulP (Ec.mulP Ec.G m) (fSub 0 (rs n 0 NR) NR))), .int .i64 0]) (fun w => kr) kr ?_
  refine s_val (some 46) (pv (Ec.ofPt (Ec.mulP (Ec.mulP Ec.G m) (fSub 0 (rs n 0 NR) NR)))) (fun w => kr) kr ?_
  refine s_val (some 47) (.int .i64 0) (fun w => kr) kr ?_
  refine s_alloc H15 (some 13) 26 (.agg Z9) kr kr kr ?_
  intro b7 w16 H16; clear H15
  refine s_store H16 0 [(b7, Oc (pv (Ec.ofPt (Ec.mulP (Ec.mulP Ec.G m) (fSub 0 (rs n 0 NR) NR)))) 26), (b6, Oc (pv (Ec.ofPt (Ec.mulP (Ec.mulP Ec.G m) (rs n 0 NR)))) 26), (b5, Oc (uv (fSub 0 (rs n 0 NR) NR)) 24), (b4, Oc (uv (rs n 0 NR)) 24), (b3, Oc (pv (Ec.ofPt (Ec.mulP Ec.G m))) 26), (b2, Oc (uv m) 24), (b1, Oc (uv n) 24)] 26 (.tmp 13) (.tmp 46) b7 (0) Z9 (Value.cells (pv (Ec.ofPt (Ec.mulP (Ec.mulP Ec.G m) (fSub 0 (rs n 0 NR) NR))))) 26 (pv (Ec.ofPt (Ec.mulP (Ec.mulP Ec.G m) (fSub 0 (rs n 0 NR) NR)))) kr kr kr kr kr kr (of_decide_eq_true kr) kr kr ?_
  intro w17 H17; clear H16
  refine s_val (some 14) (.int .i64 0) (fun w => kr) kr ?_
  refine s_nil ?_
  refine g_sreg [0, 1, 2, 3, 4, 5, 6, 7] kr kr ?_
  refine s_load H17 (some 49) 26 (.tmp 11) 1 b6 (Value.cells (pv (Ec.ofPt (Ec.mulP (Ec.mulP Ec.G m) (rs n 0 NR))))) 26 (0, 0) kr kr kr kr kr ?_
  refine s_call H17 (some 50) 14 #[pv (Ec.ofPt (Ec.mulP (Ec.mulP Ec.G m) (rs n 0 NR)))] (.tuple #[pv (Ec.ofPt (Ec.Pt.neg (Ec.mulP (Ec.mulP Ec.G m) (rs n 0 NR)))), .int .i64 0]) (turn_fn (Ec.mulP (Ec.mulP Ec.G m) (rs n 0 NR)) (Ec.mulP_on Ec.good (Ec.mulP_on Ec.good Ec.G_on m) (rs n 0 NR))) (fun w => kr) kr ?_
  intro w18 H18; clear H17
  refine s_val (some 48) (.tuple #[pv (Ec.ofPt (Ec.Pt.neg (Ec.mulP (Ec.mulP Ec.G m) (rs n 0 NR)))), .int .i64 0]) (fun w => kr) kr ?_
  refine s_val (some 51) (pv (Ec.ofPt (Ec.Pt.neg (Ec.mulP (Ec.mulP Ec.G m) (rs n 0 NR))))) (fun w => kr) kr ?_
  refine s_val (some 52) (.int .i64 0) (fun w => kr) kr ?_
  refine s_alloc H18 (some 15) 26 (.agg Z9) kr kr kr ?_
  intro b8 w19 H19; clear H18
  refine s_store H19 0 [(b8, Oc (pv (Ec.ofPt (Ec.Pt.neg (Ec.mulP (Ec.mulP Ec.G m) (rs n 0 NR))))) 26), (b7, Oc (pv (Ec.ofPt (Ec.mulP (Ec.mulP Ec.G m) (fSub 0 (rs n 0 NR) NR)))) 26), (b6, Oc (pv (Ec.ofPt (Ec.mulP (Ec.mulP Ec.G m) (rs n 0 NR)))) 26), (b5, Oc (uv (fSub 0 (rs n 0 NR) NR)) 24), (b4, Oc (uv (rs n 0 NR)) 24), (b3, Oc (pv (Ec.ofPt (Ec.mulP Ec.G m))) 26), (b2, Oc (uv m) 24), (b1, Oc (uv n) 24)] 26 (.tmp 15) (.tmp 51) b8 (0) Z9 (Value.cells (pv (Ec.ofPt (Ec.Pt.neg (Ec.mulP (Ec.mulP Ec.G m) (rs n 0 NR)))))) 26 (pv (Ec.ofPt (Ec.Pt.neg (Ec.mulP (Ec.mulP Ec.G m) (rs n 0 NR))))) kr kr kr kr kr kr (of_decide_eq_true kr) kr kr ?_
  intro w20 H20; clear H19
  refine s_val (some 16) (.int .i64 0) (fun w => kr) kr ?_
  refine s_nil ?_
  refine g_sreg [0, 1, 2, 3, 4, 5, 6, 7] kr kr ?_
  refine s_load H20 (some 54) 26 (.tmp 15) 0 b8 (Value.cells (pv (Ec.ofPt (Ec.Pt.neg (Ec.mulP (Ec.mulP Ec.G m) (rs n 0 NR)))))) 26 (0, 0) kr kr kr kr kr ?_
  refine s_call H20 (some 55) 14 #[pv (Ec.ofPt (Ec.Pt.neg (Ec.mulP (Ec.mulP Ec.G m) (rs n 0 NR))))] (.tuple #[pv (Ec.ofPt (Ec.Pt.neg (Ec.Pt.neg (Ec.mulP (Ec.mulP Ec.G m) (rs n 0 NR))))), .int .i64 0]) (turn_fn (Ec.Pt.neg (Ec.mulP (Ec.mulP Ec.G m) (rs n 0 NR))) (Ec.Pt.neg_on (Ec.mulP_on Ec.good (Ec.mulP_on Ec.good Ec.G_on m) (rs n 0 NR)))) (fun w => kr) kr ?_
  intro w21 H21; clear H20
  refine s_val (some 53) (.tuple #[pv (Ec.ofPt (Ec.Pt.neg (Ec.Pt.neg (Ec.mulP (Ec.mulP Ec.G m) (rs n 0 NR))))), .int .i64 0]) (fun w => kr) kr ?_
  refine s_val (some 56) (pv (Ec.ofPt (Ec.Pt.neg (Ec.Pt.neg (Ec.mulP (Ec.mulP Ec.G m) (rs n 0 NR)))))) (fun w => kr) kr ?_
  refine s_val (some 57) (.int .i64 0) (fun w => kr) kr ?_
  refine s_alloc H21 (some 17) 26 (.agg Z9) kr kr kr ?_
  intro b9 w22 H22; clear H21
  refine s_store H22 0 [(b9, Oc (pv (Ec.ofPt (Ec.Pt.neg (Ec.Pt.neg (Ec.mulP (Ec.mulP Ec.G m) (rs n 0 NR)))))) 26), (b8, Oc (pv (Ec.ofPt (Ec.Pt.neg (Ec.mulP (Ec.mulP Ec.G m) (rs n 0 NR))))) 26), (b7, Oc (pv (Ec.ofPt (Ec.mulP (Ec.mulP Ec.G m) (fSub 0 (rs n 0 NR) NR)))) 26), (b6, Oc (pv (Ec.ofPt (Ec.mulP (Ec.mulP Ec.G m) (rs n 0 NR)))) 26), (b5, Oc (uv (fSub 0 (rs n 0 NR) NR)) 24), (b4, Oc (uv (rs n 0 NR)) 24), (b3, Oc (pv (Ec.ofPt (Ec.mulP Ec.G m))) 26), (b2, Oc (uv m) 24), (b1, Oc (uv n) 24)] 26 (.tmp 17) (.tmp 56) b9 (0) Z9 (Value.cells (pv (Ec.ofPt (Ec.Pt.neg (Ec.Pt.neg (Ec.mulP (Ec.mulP Ec.G m) (rs n 0 NR))))))) 26 (pv (Ec.ofPt (Ec.Pt.neg (Ec.Pt.neg (Ec.mulP (Ec.mulP Ec.G m) (rs n 0 NR)))))) kr kr kr kr kr kr (of_decide_eq_true kr) kr kr ?_
  intro w23 H23; clear H22
  refine s_val (some 18) (.int .i64 0) (fun w => kr) kr ?_
  refine s_nil ?_
  refine g_sreg [0, 1, 2, 3, 4, 5, 6, 7, 8, 9, 10, 11, 12, 13, 14, 15, 16, 17, 18, 19, 20, 21, 22, 23, 24, 25, 26, 27, 28, 29, 30, 31, 32, 33, 34, 35, 36, 37, 38, 39, 40, 41, 42, 43] kr kr ?_
  refine s_call H23 (some 58) 12 #[] (.bool true) alive06_fn (fun w => kr) kr ?_
  intro w24 H24; clear H23
  refine s_val (some 59) (.bool true) (fun w => kr) kr ?_
  refine s_val (some 60) (.bool true) (fun w => kr) kr ?_
  refine s_val (some 61) (.bool true) (fun w => kr) kr ?_
  refine s_val (some 62) (.bool true) (fun w => kr) kr ?_
  refine s_val (some 63) (.int .i64 0) (fun w => kr) kr ?_
  refine s_val (some 64) (.bool true) (fun w => kr) kr ?_
  refine s_val (some 65) (.bool true) (fun w => kr) kr ?_
  refine s_val (some 66) (.bool true) (fun w => kr) kr ?_
  refine s_val (some 67) (.int .i64 0) (fun w => kr) kr ?_
  refine s_val (some 68) (.int .i64 0) (fun w => kr) kr ?_
  refine s_val (some 69) (.bool true) (fun w => kr) kr ?_
  refine s_val (some 70) (.bool true) (fun w => kr) kr ?_
  refine s_val (some 71) (.bool true) (fun w => kr) kr ?_
  refine s_val (some 72) (.int .i64 0) (fun w => kr) kr ?_
  refine s_val (some 73) (.int .i64 0) (fun w => kr) kr ?_
  refine s_val (some 74) (.bool true) (fun w => kr) kr ?_
  refine s_val (some 75) (.bool true) (fun w => kr) kr ?_
  refine s_val (some 76) (.bool true) (fun w => kr) kr ?_
  refine s_val (some 77) (.int .i64 0) (fun w => kr) kr ?_
  refine s_val (some 78) (.int .i64 0) (fun w => kr) kr ?_
  refine s_val (some 79) (.bool true) (fun w => kr) kr ?_
  refine s_val (some 80) (.bool true) (fun w => kr) kr ?_
  refine s_val (some 81) (.bool true) (fun w => kr) kr ?_
  refine s_val (some 82) (.int .i64 0) (fun w => kr) kr ?_
  refine s_val (some 83) (.int .i64 0) (fun w => kr) kr ?_
  refine s_val (some 84) (.bool true) (fun w => kr) kr ?_
  refine s_val (some 85) (.bool true) (fun w => kr) kr ?_
  refine s_val (some 86) (.bool true) (fun w => kr) kr ?_
  refine s_val (some 87) (.int .i64 0) (fun w => kr) kr ?_
  refine s_val (some 88) (.int .i64 0) (fun w => kr) kr ?_
  refine s_val (some 89) (.bool true) (fun w => kr) kr ?_
  refine s_val (some 90) (.bool true) (fun w => kr) kr ?_
  refine s_val (some 91) (.bool true) (fun w => kr) kr ?_
  refine s_load H24 (some 92) 26 (.tmp 13) 2 b7 (Value.cells (pv (Ec.ofPt (Ec.mulP (Ec.mulP Ec.G m) (fSub 0 (rs n 0 NR) NR))))) 26 (0, 0) kr kr kr kr kr ?_
  refine s_load H24 (some 93) 26 (.tmp 15) 1 b8 (Value.cells (pv (Ec.ofPt (Ec.Pt.neg (Ec.mulP (Ec.mulP Ec.G m) (rs n 0 NR)))))) 26 (0, 0) kr kr kr kr kr ?_
  refine s_opE (some 94) _ (.bool (decide ((Ec.ofPt (Ec.mulP (Ec.mulP Ec.G m) (fSub 0 (rs n 0 NR) NR))) = (Ec.ofPt (Ec.Pt.neg (Ec.mulP (Ec.mulP Ec.G m) (rs n 0 NR))))))) (.bool true) kr (fun o w ho => eqP_run (x := (.tmp 92)) (y := (.tmp 93)) (Ec.ofPt (Ec.mulP (Ec.mulP Ec.G m) (fSub 0 (rs n 0 NR) NR))) (Ec.ofPt (Ec.Pt.neg (Ec.mulP (Ec.mulP Ec.G m) (rs n 0 NR)))) (Ec.ofPt_ok _) (Ec.ofPt_ok _) w ho kr kr) (by rw [decide_eq_true (p := (Ec.ofPt (Ec.mulP (Ec.mulP Ec.G m) (fSub 0 (rs n 0 NR) NR))) = (Ec.ofPt (Ec.Pt.neg (Ec.mulP (Ec.mulP Ec.G m) (rs n 0 NR))))) (by rw [neg_at])] <;> rfl) kr ?_
  refine s_val (some 95) (.bool true) (fun w => kr) kr ?_
  refine s_val (some 96) (.bool true) (fun w => kr) kr ?_
  refine s_load H24 (some 97) 26 (.tmp 17) 0 b9 (Value.cells (pv (Ec.ofPt (Ec.Pt.neg (Ec.Pt.neg (Ec.mulP (Ec.mulP Ec.G m) (rs n 0 NR))))))) 26 (0, 0) kr kr kr kr kr ?_
  refine s_load H24 (some 98) 26 (.tmp 11) 3 b6 (Value.cells (pv (Ec.ofPt (Ec.mulP (Ec.mulP Ec.G m) (rs n 0 NR))))) 26 (0, 0) kr kr kr kr kr ?_
  refine s_opE (some 99) _ (.bool (decide ((Ec.ofPt (Ec.Pt.neg (Ec.Pt.neg (Ec.mulP (Ec.mulP Ec.G m) (rs n 0 NR))))) = (Ec.ofPt (Ec.mulP (Ec.mulP Ec.G m) (rs n 0 NR)))))) (.bool true) kr (fun o w ho => eqP_run (x := (.tmp 97)) (y := (.tmp 98)) (Ec.ofPt (Ec.Pt.neg (Ec.Pt.neg (Ec.mulP (Ec.mulP Ec.G m) (rs n 0 NR))))) (Ec.ofPt (Ec.mulP (Ec.mulP Ec.G m) (rs n 0 NR))) (Ec.ofPt_ok _) (Ec.ofPt_ok _) w ho kr kr) (by rw [decide_eq_true (p := (Ec.ofPt (Ec.Pt.neg (Ec.Pt.neg (Ec.mulP (Ec.mulP Ec.G m) (rs n 0 NR))))) = (Ec.ofPt (Ec.mulP (Ec.mulP Ec.G m) (rs n 0 NR)))) (by rw [Ec.Pt.neg_neg])] <;> rfl) kr ?_
  refine s_val (some 100) (.bool true) (fun w => kr) kr ?_
  refine s_val (some 4) (.bool true) (fun w => kr) kr ?_
  refine s_nil ?_
  refine g_ret kr ?_
  show ∃ vs, Res _ _ _ _ vs ∧ _
  refine ⟨[.bool true], (.tmp (.bool true) kr .nil), ?_, H24.below⟩
  rfl
end Go.Proofs.Ytljhbhhpfkmemaa
