/-
  What the laws ask: order and grouping.
-/
import Derived.Test.YtljhbhhpfkmemaaPtV
import Derived.Test.YtljhbhhpfkmemaaPtLb
namespace Go.Proofs.Ytljhbhhpfkmemaa
open Go Go.RowKit
set_option linter.unusedVariables false
set_option maxRecDepth 100000 in
set_option maxHeartbeats 2000000 in
theorem pointGroup_fn (n : Nat) (hn : n < big) (m : Nat) (hm : m < big) (k : Nat) (hk : k < big) : Fn Try.prog 5 #[uv n, uv m, uv k] (.bool true) := by
  refine Fn.intro (c := codeOf Try.f5) [.tmp 6] 174 Try.func5 kr kr kr fun w => ?_
  have H0 := St.start w
  refine g_sreg [0, 1, 2, 3] kr kr ?_
  refine s_box H0 (some 3) 24 (.tmp 0) (uv n) kr kr kr ?_
  intro b1 w1 H1; clear H0
  refine s_box H1 (some 4) 24 (.tmp 1) (uv m) kr kr kr ?_
  intro b2 w2 H2; clear H1
  refine s_box H2 (some 5) 24 (.tmp 2) (uv k) kr kr kr ?_
  intro b3 w3 H3; clear H2
  refine s_val (some 6) (.bool false) (fun w => kr) kr ?_
  refine s_nil ?_
  refine g_sreg [0, 1, 2, 3, 4, 5, 6, 7] kr kr ?_
  refine s_load H3 (some 33) 24 (.tmp 3) 2 b1 (Value.cells (uv n)) 24 (0, 0) kr kr kr kr kr ?_
  refine s_call H3 (some 34) 9 #[uv n] (.tuple #[pv (Ec.ofPt (Ec.mulP Ec.G n)), .bool true]) (at6_fn n hn) (fun w => kr) kr ?_
  intro w4 H4; clear H3
  refine s_val (some 32) (.tuple #[pv (Ec.ofPt (Ec.mulP Ec.G n)), .bool true]) (fun w => kr) kr ?_
  refine s_val (some 35) (pv (Ec.ofPt (Ec.mulP Ec.G n))) (fun w => kr) kr ?_
  refine s_val (some 36) (.bool true) (fun w => kr) kr ?_
  refine s_alloc H4 (some 7) 26 (.agg Z9) kr kr kr ?_
  intro b4 w5 H5; clear H4
  refine s_store H5 0 [(b4, Oc (pv (Ec.ofPt (Ec.mulP Ec.G n))) 26), (b3, Oc (uv k) 24), (b2, Oc (uv m) 24), (b1, Oc (uv n) 24)] 26 (.tmp 7) (.tmp 35) b4 (0) Z9 (Value.cells (pv (Ec.ofPt (Ec.mulP Ec.G n)))) 26 (pv (Ec.ofPt (Ec.mulP Ec.G n))) kr kr kr kr kr kr (of_decide_eq_true kr) kr kr ?_
  intro w6 H6; clear H5
  refine s_val (some 8) (.bool true) (fun w => kr) kr ?_
  refine s_nil ?_
  refine g_sreg [0, 1, 2, 3, 4, 5, 6, 7] kr kr ?_
  refine s_load H6 (some 38) 24 (.tmp 4) 2 b2 (Value.cells (uv m)) 24 (0, 0) kr kr kr kr kr ?_
  refine s_call H6 (some 39) 9 #[uv m] (.tuple #[pv (Ec.ofPt (Ec.mulP Ec.G m)), .bool true]) (at6_fn m hm) (fun w => kr) kr ?_
  intro w7 H7; clear H6
  refine s_val (some 37) (.tuple #[pv (Ec.ofPt (Ec.mulP Ec.G m)), .bool true]) (fun w => kr) kr ?_
  refine s_val (some 40) (pv (Ec.ofPt (Ec.mulP Ec.G m))) (fun w => kr) kr ?_
  refine s_val (some 41) (.bool true) (fun w => kr) kr ?_
  refine s_alloc H7 (some 9) 26 (.agg Z9) kr kr kr ?_
  intro b5 w8 H8; clear H7
  refine s_store H8 0 [(b5, Oc (pv (Ec.ofPt (Ec.mulP Ec.G m))) 26), (b4, Oc (pv (Ec.ofPt (Ec.mulP Ec.G n))) 26), (b3, Oc (uv k) 24), (b2, Oc (uv m) 24), (b1, Oc (uv n) 24)] 26 (.tmp 9) (.tmp 40) b5 (0) Z9 (Value.cells (pv (Ec.ofPt (Ec.mulP Ec.G m)))) 26 (pv (Ec.ofPt (Ec.mulP Ec.G m))) kr kr kr kr kr kr (of_decide_eq_true kr) kr kr ?_
  intro w9 H9; clear H8
  refine s_val (some 10) (.bool true) (fun w => kr) kr ?_
  refine s_nil ?_
  refine g_sreg [0, 1, 2, 3, 4, 5, 6, 7] kr kr ?_
  refine s_load H9 (some 43) 24 (.tmp 5) 2 b3 (Value.cells (uv k)) 24 (0, 0) kr kr kr kr kr ?_
  refine s_call H9 (some 44) 9 #[uv k] (.tuple #[pv (Ec.ofPt (Ec.mulP Ec.G k)), .bool true]) (at6_fn k hk) (fun w => kr) kr ?_
  intro w10 H10; clear H9
  refine s_val (some 42) (.tuple #[pv (Ec.ofPt (Ec.mulP Ec.G k)), .bool true]) (fun w => kr) kr ?_
  refine s_val (some 45) (pv (Ec.ofPt (Ec.mulP Ec.G k))) (fun w => kr) kr ?_
  refine s_val (some 46) (.bool true) (fun w => kr) kr ?_
  refine s_alloc H10 (some 11) 26 (.agg Z9) kr kr kr ?_
  intro b6 w11 H11; clear H10
  refine s_store H11 0 [(b6, Oc (pv (Ec.ofPt (Ec.mulP Ec.G k))) 26), (b5, Oc (pv (Ec.ofPt (Ec.mulP Ec.G m))) 26), (b4, Oc (pv (Ec.ofPt (Ec.mulP Ec.G n))) 26), (b3, Oc (uv k) 24), (b2, Oc (uv m) 24), (b1, Oc (uv n) 24)] 26 (.tmp 11) (.tmp 45) b6 (0) Z9 (Value.cells (pv (Ec.ofPt (Ec.mulP Ec.G k)))) 26 (pv (Ec.ofPt (Ec.mulP Ec.G k))) kr kr kr kr kr kr (of_decide_eq_true kr) kr kr ?_
  intro w12 H12; clear H11
  refine s_val (some 12) (.bool true) (fun w => kr) kr ?_
  refine s_nil ?_
  refine g_seq kr ?_
  refine g_sreg [0, 1, 2, 3, 4, 5, 6, 7, 8, 9] kr kr ?_
  refine s_val (some 47) (.bool true) (fun w => kr) kr ?_
  refine s_val (some 48) (.bool false) (fun w => kr) kr ?_
  refine s_val (some 49) (.bool false) (fun w => kr) kr ?_
  refine s_val (some 50) (.bool true) (fun w => kr) kr ?_
  refine s_val (some 51) (.bool false) (fun w => kr) kr ?_
  refine s_val (some 52) (.bool false) (fun w => kr) kr ?_
  refine s_val (some 53) (.bool false) (fun w => kr) kr ?_
  refine s_val (some 54) (.bool true) (fun w => kr) kr ?_
  refine s_val (some 55) (.bool false) (fun w => kr) kr ?_
  refine s_val (some 56) (.bool false) (fun w => kr) kr ?_
  refine s_nil ?_
  refine g_cond_f kr kr ?_
  refine g_skip kr ?_
  show WP _ _ _ _ _ _
  refine g_sreg [0, 1, 2, 3, 4, 5, 6, 7, 8] kr kr ?_
  refine s_load H12 (some 58) 26 (.tmp 7) 2 b4 (Value.cells (pv (Ec.ofPt (Ec.mulP Ec.G n)))) 26 (0, 0) kr kr kr kr kr ?_
  refine s_load H12 (some 59) 26 (.tmp 9) 1 b5 (Value.cells (pv (Ec.ofPt (Ec.mulP Ec.G m)))) 26 (0, 0) kr kr kr kr kr ?_
  refine s_call H12 (some 60) 13 #[pv (Ec.ofPt (Ec.mulP Ec.G n)), pv (Ec.ofPt (Ec.mulP Ec.G m))] (.tuple #[pv (Ec.ofPt (Ec.Pt.add (Ec.mulP Ec.G n) (Ec.mulP Ec.G m))), .int .i64 0]) (add_pt_fn (Ec.mulP Ec.G n) (Ec.mulP_on Ec.good Ec.G_on n) (Ec.mulP Ec.G m) (Ec.mulP_on Ec.good Ec.G_on m)) (fun w => kr) kr ?_
  intro w13 H13; clear H12
  refine s_val (some 57) (.tuple #[pv (Ec.ofPt (Ec.Pt.add (Ec.mulP Ec.G n) (Ec.mulP Ec.G m))), .int .i64 0]) (fun w => kr) kr ?_
  refine s_val (some 61) (pv (Ec.ofPt (Ec.Pt.add (Ec.mulP Ec.G n) (Ec.mulP Ec.G m)))) (fun w => kr) kr ?_
  refine s_val (some 62) (.int .i64 0) (fun w => kr) kr ?_
  refine s_alloc H13 (some 13) 26 (.agg Z9) kr kr kr ?_
  intro b7 w14 H14; clear H13
  refine s_store H14 0 [(b7, Oc (pv (Ec.ofPt (Ec.Pt.add (Ec.mulP Ec.G n) (Ec.mulP Ec.G m)))) 26), (b6, Oc (pv (Ec.ofPt (Ec.mulP Ec.G k))) 26), (b5, Oc (pv (Ec.ofPt (Ec.mulP Ec.G m))) 26), (b4, Oc (pv (Ec.ofPt (Ec.mulP Ec.G n))) 26), (b3, Oc (uv k) 24), (b2, Oc (uv m) 24), (b1, Oc (uv n) 24)] 26 (.tmp 13) (.tmp 61) b7 (0) Z9 (Value.cells (pv (Ec.ofPt (Ec.Pt.add (Ec.mulP Ec.G n) (Ec.mulP Ec.G m))))) 26 (pv (Ec.ofPt (Ec.Pt.add (Ec.mulP Ec.G n) (Ec.mulP Ec.G m)))) kr kr kr kr kr kr (of_decide_eq_true kr) kr kr ?_
  intro w15 H15; clear H14
  refine s_val (some 14) (.int .i64 0) (fun w => kr) kr ?_
  refine s_nil ?_
  refine g_sreg [0, 1, 2, 3, 4, 5, 6, 7, 8] kr kr ?_
  refine s_load H15 (some 64) 26 (.tmp 9) 2 b5 (Value.cells (pv (Ec.ofPt (Ec.mulP Ec.G m)))) 26 (0, 0) kr kr kr kr kr ?_
  refine s_load H15 (some 65) 26 (.tmp 7) 3 b4 (Value.cells (pv (Ec.ofPt (Ec.mulP Ec.G n)))) 26 (0, 0) kr kr kr kr kr ?_
  refine s_call H15 (some 66) 13 #[pv (Ec.ofPt (Ec.mulP Ec.G m)), pv (Ec.ofPt (Ec.mulP Ec.G n))] (.tuple #[pv (Ec.ofPt (Ec.Pt.add (Ec.mulP Ec.G m) (Ec.mulP Ec.G n))), .int .i64 0]) (add_pt_fn (Ec.mulP Ec.G m) (Ec.mulP_on Ec.good Ec.G_on m) (Ec.mulP Ec.G n) (Ec.mulP_on Ec.good Ec.G_on n)) (fun w => kr) kr ?_
  intro w16 H16; clear H15
  refine s_val (some 63) (.tuple #[pv (Ec.ofPt (Ec.Pt.add (Ec.mulP Ec.G m) (Ec.mulP Ec.G n))), .int .i64 0]) (fun w => kr) kr ?_
  refine s_val (some 67) (pv (Ec.ofPt (Ec.Pt.add (Ec.mulP Ec.G m) (Ec.mulP Ec.G n)))) (fun w => kr) kr ?_
  refine s_val (some 68) (.int .i64 0) (fun w => kr) kr ?_
  refine s_alloc H16 (some 15) 26 (.agg Z9) kr kr kr ?_
  intro b8 w17 H17; clear H16
  refine s_store H17 0 [(b8, Oc (pv (Ec.ofPt (Ec.Pt.add (Ec.mulP Ec.G m) (Ec.mulP Ec.G n)))) 26), (b7, Oc (pv (Ec.ofPt (Ec.Pt.add (Ec.mulP Ec.G n) (Ec.mulP Ec.G m)))) 26), (b6, Oc (pv (Ec.ofPt (Ec.mulP Ec.G k))) 26), (b5, Oc (pv (Ec.ofPt (Ec.mulP Ec.G m))) 26), (b4, Oc (pv (Ec.ofPt (Ec.mulP Ec.G n))) 26), (b3, Oc (uv k) 24), (b2, Oc (uv m) 24), (b1, Oc (uv n) 24)] 26 (.tmp 15) (.tmp 67) b8 (0) Z9 (Value.cells (pv (Ec.ofPt (Ec.Pt.add (Ec.mulP Ec.G m) (Ec.mulP Ec.G n))))) 26 (pv (Ec.ofPt (Ec.Pt.add (Ec.mulP Ec.G m) (Ec.mulP Ec.G n)))) kr kr kr kr kr kr (of_decide_eq_true kr) kr kr ?_
  intro w18 H18; clear H17
  refine s_val (some 16) (.int .i64 0) (fun w => kr) kr ?_
  refine s_nil ?_
  refine g_sreg [0, 1, 2, 3, 4, 5, 6, 7, 8] kr kr ?_
  refine s_load H18 (some 70) 26 (.tmp 13) 1 b7 (Value.cells (pv (Ec.ofPt (Ec.Pt.add (Ec.mulP Ec.G n) (Ec.mulP Ec.G m))))) 26 (0, 0) kr kr kr kr kr ?_
  refine s_load H18 (some 71) 26 (.tmp 11) 2 b6 (Value.cells (pv (Ec.ofPt (Ec.mulP Ec.G k)))) 26 (0, 0) kr kr kr kr kr ?_
  refine s_call H18 (some 72) 13 #[pv (Ec.ofPt (Ec.Pt.add (Ec.mulP Ec.G n) (Ec.mulP Ec.G m))), pv (Ec.ofPt (Ec.mulP Ec.G k))] (.tuple #[pv (Ec.ofPt (Ec.Pt.add (Ec.Pt.add (Ec.mulP Ec.G n) (Ec.mulP Ec.G m)) (Ec.mulP Ec.G k))), .int .i64 0]) (add_pt_fn (Ec.Pt.add (Ec.mulP Ec.G n) (Ec.mulP Ec.G m)) (Ec.add_on Ec.good.two (Ec.mulP_on Ec.good Ec.G_on n) (Ec.mulP_on Ec.good Ec.G_on m)) (Ec.mulP Ec.G k) (Ec.mulP_on Ec.good Ec.G_on k)) (fun w => kr) kr ?_
  intro w19 H19; clear H18
  refine s_val (some 69) (.tuple #[pv (Ec.ofPt (Ec.Pt.add (Ec.Pt.add (Ec.mulP Ec.G n) (Ec.mulP Ec.G m)) (Ec.mulP Ec.G k))), .int .i64 0]) (fun w => kr) kr ?_
  refine s_val (some 73) (pv (Ec.ofPt (Ec.Pt.add (Ec.Pt.add (Ec.mulP Ec.G n) (Ec.mulP Ec.G m)) (Ec.mulP Ec.G k)))) (fun w => kr) kr ?_
  refine s_val (some 74) (.int .i64 0) (fun w => kr) kr ?_
  refine s_alloc H19 (some 17) 26 (.agg Z9) kr kr kr ?_
  intro b9 w20 H20; clear H19
  refine s_store H20 0 [(b9, Oc (pv (Ec.ofPt (Ec.Pt.add (Ec.Pt.add (Ec.mulP Ec.G n) (Ec.mulP Ec.G m)) (Ec.mulP Ec.G k)))) 26), (b8, Oc (pv (Ec.ofPt (Ec.Pt.add (Ec.mulP Ec.G m) (Ec.mulP Ec.G n)))) 26), (b7, Oc (pv (Ec.ofPt (Ec.Pt.add (Ec.mulP Ec.G n) (Ec.mulP Ec.G m)))) 26), (b6, Oc (pv (Ec.ofPt (Ec.mulP Ec.G k))) 26), (b5, Oc (pv (Ec.ofPt (Ec.mulP Ec.G m))) 26), (b4, Oc (pv (Ec.ofPt (Ec.mulP Ec.G n))) 26), (b3, Oc (uv k) 24), (b2, Oc (uv m) 24), (b1, Oc (uv n) 24)] 26 (.tmp 17) (.tmp 73) b9 (0) Z9 (Value.cells (pv (Ec.ofPt (Ec.Pt.add (Ec.Pt.add (Ec.mulP Ec.G n) (Ec.mulP Ec.G m)) (Ec.mulP Ec.G k))))) 26 (pv (Ec.ofPt (Ec.Pt.add (Ec.Pt.add (Ec.mulP Ec.G n) (Ec.mulP Ec.G m)) (Ec.mulP Ec.G k)))) kr kr kr kr kr kr (of_decide_eq_true kr) kr kr ?_
  intro w21 H21; clear H20
  refine s_val (some 18) (.int .i64 0) (fun w => kr) kr ?_
  refine s_nil ?_
  refine g_sreg [0, 1, 2, 3, 4, 5, 6, 7, 8] kr kr ?_
  refine s_load H21 (some 76) 26 (.tmp 9) 4 b5 (Value.cells (pv (Ec.ofPt (Ec.mulP Ec.G m)))) 26 (0, 0) kr kr kr kr kr ?_
  refine s_load H21 (some 77) 26 (.tmp 11) 3 b6 (Value.cells (pv (Ec.ofPt (Ec.mulP Ec.G k)))) 26 (0, 0) kr kr kr kr kr ?_
  refine s_call H21 (some 78) 13 #[pv (Ec.ofPt (Ec.mulP Ec.G m)), pv (Ec.ofPt (Ec.mulP Ec.G k))] (.tuple #[pv (Ec.ofPt (Ec.Pt.add (Ec.mulP Ec.G m) (Ec.mulP Ec.G k))), .int .i64 0]) (add_pt_fn (Ec.mulP Ec.G m) (Ec.mulP_on Ec.good Ec.G_on m) (Ec.mulP Ec.G k) (Ec.mulP_on Ec.good Ec.G_on k)) (fun w => kr) kr ?_
  intro w22 H22; clear H21
  refine s_val (some 75) (.tuple #[pv (Ec.ofPt (Ec.Pt.add (Ec.mulP Ec.G m) (Ec.mulP Ec.G k))), .int .i64 0]) (fun w => kr) kr ?_
  refine s_val (some 79) (pv (Ec.ofPt (Ec.Pt.add (Ec.mulP Ec.G m) (Ec.mulP Ec.G k)))) (fun w => kr) kr ?_
  refine s_val (some 80) (.int .i64 0) (fun w => kr) kr ?_
  refine s_alloc H22 (some 19) 26 (.agg Z9) kr kr kr ?_
  intro b10 w23 H23; clear H22
  refine s_store H23 0 [(b10, Oc (pv (Ec.ofPt (Ec.Pt.add (Ec.mulP Ec.G m) (Ec.mulP Ec.G k)))) 26), (b9, Oc (pv (Ec.ofPt (Ec.Pt.add (Ec.Pt.add (Ec.mulP Ec.G n) (Ec.mulP Ec.G m)) (Ec.mulP Ec.G k)))) 26), (b8, Oc (pv (Ec.ofPt (Ec.Pt.add (Ec.mulP Ec.G m) (Ec.mulP Ec.G n)))) 26), (b7, Oc (pv (Ec.ofPt (Ec.Pt.add (Ec.mulP Ec.G n) (Ec.mulP Ec.G m)))) 26), (b6, Oc (pv (Ec.ofPt (Ec.mulP Ec.G k))) 26), (b5, Oc (pv (Ec.ofPt (Ec.mulP Ec.G m))) 26), (b4, Oc (pv (Ec.ofPt (Ec.mulP Ec.G n))) 26), (b3, Oc (uv k) 24), (b2, Oc (uv m) 24), (b1, Oc (uv n) 24)] 26 (.tmp 19) (.tmp 79) b10 (0) Z9 (Value.cells (pv (Ec.ofPt (Ec.Pt.add (Ec.mulP Ec.G m) (Ec.mulP Ec.G k))))) 26 (pv (Ec.ofPt (Ec.Pt.add (Ec.mulP Ec.G m) (Ec.mulP Ec.G k)))) kr kr kr kr kr kr (of_decide_eq_true kr) kr kr ?_
  intro w24 H24; clear H23
  refine s_val (some 20) (.int .i64 0) (fun w => kr) kr ?_
  refine s_nil ?_
  refine g_sreg [0, 1, 2, 3, 4, 5, 6, 7, 8] kr kr ?_
  refine s_load H24 (some 82) 26 (.tmp 7) 6 b4 (Value.cells (pv (Ec.ofPt (Ec.mulP Ec.G n)))) 26 (0, 0) kr kr kr kr kr ?_
  refine s_load H24 (some 83) 26 (.tmp 19) 0 b10 (Value.cells (pv (Ec.ofPt (Ec.Pt.add (Ec.mulP Ec.G m) (Ec.mulP Ec.G k))))) 26 (0, 0) kr kr kr kr kr ?_
  refine s_call H24 (some 84) 13 #[pv (Ec.ofPt (Ec.mulP Ec.G n)), pv (Ec.ofPt (Ec.Pt.add (Ec.mulP Ec.G m) (Ec.mulP Ec.G k)))] (.tuple #[pv (Ec.ofPt (Ec.Pt.add (Ec.mulP Ec.G n) (Ec.Pt.add (Ec.mulP Ec.G m) (Ec.mulP Ec.G k)))), .int .i64 0]) (add_pt_fn (Ec.mulP Ec.G n) (Ec.mulP_on Ec.good Ec.G_on n) (Ec.Pt.add (Ec.mulP Ec.G m) (Ec.mulP Ec.G k)) (Ec.add_on Ec.good.two (Ec.mulP_on Ec.good Ec.G_on m) (Ec.mulP_on Ec.good Ec.G_on k))) (fun w => kr) kr ?_
  intro w25 H25; clear H24
  refine s_val (some 81) (.tuple #[pv (Ec.ofPt (Ec.Pt.add (Ec.mulP Ec.G n) (Ec.Pt.add (Ec.mulP Ec.G m) (Ec.mulP Ec.G k)))), .int .i64 0]) (fun w => kr) kr ?_
  refine s_val (some 85) (pv (Ec.ofPt (Ec.Pt.add (Ec.mulP Ec.G n) (Ec.Pt.add (Ec.mulP Ec.G m) (Ec.mulP Ec.G k))))) (fun w => kr) kr ?_
  refine s_val (some 86) (.int .i64 0) (fun w => kr) kr ?_
  refine s_alloc H25 (some 21) 26 (.agg Z9) kr kr kr ?_
  intro b11 w26 H26; clear H25
  refine s_store H26 0 [(b11, Oc (pv (Ec.ofPt (Ec.Pt.add (Ec.mulP Ec.G n) (Ec.Pt.add (Ec.mulP Ec.G m) (Ec.mulP Ec.G k))))) 26), (b10, Oc (pv (Ec.ofPt (Ec.Pt.add (Ec.mulP Ec.G m) (Ec.mulP Ec.G k)))) 26), (b9, Oc (pv (Ec.ofPt (Ec.Pt.add (Ec.Pt.add (Ec.mulP Ec.G n) (Ec.mulP Ec.G m)) (Ec.mulP Ec.G k)))) 26), (b8, Oc (pv (Ec.ofPt (Ec.Pt.add (Ec.mulP Ec.G m) (Ec.mulP Ec.G n)))) 26), (b7, Oc (pv (Ec.ofPt (Ec.Pt.add (Ec.mulP Ec.G n) (Ec.mulP Ec.G m)))) 26), (b6, Oc (pv (Ec.ofPt (Ec.mulP Ec.G k))) 26), (b5, Oc (pv (Ec.ofPt (Ec.mulP Ec.G m))) 26), (b4, Oc (pv (Ec.ofPt (Ec.mulP Ec.G n))) 26), (b3, Oc (uv k) 24), (b2, Oc (uv m) 24), (b1, Oc (uv n) 24)] 26 (.tmp 21) (.tmp 85) b11 (0) Z9 (Value.cells (pv (Ec.ofPt (Ec.Pt.add (Ec.mulP Ec.G n) (Ec.Pt.add (Ec.mulP Ec.G m) (Ec.mulP Ec.G k)))))) 26 (pv (Ec.ofPt (Ec.Pt.add (Ec.mulP Ec.G n) (Ec.Pt.add (Ec.mulP Ec.G m) (Ec.mulP Ec.G k))))) kr kr kr kr kr kr (of_decide_eq_true kr) kr kr ?_
  intro w27 H27; clear H26
  refine s_val (some 22) (.int .i64 0) (fun w => kr) kr ?_
  refine s_nil ?_
  refine g_sreg [0, 1, 2, 3, 4, 5, 6, 7] kr kr ?_
  refine s_load H27 (some 88) 26 (.tmp 7) 7 b4 (Value.cells (pv (Ec.ofPt (Ec.mulP Ec.G n)))) 26 (0, 0) kr kr kr kr kr ?_
  refine s_call H27 (some 89) 14 #[pv (Ec.ofPt (Ec.mulP Ec.G n))] (.tuple #[pv (Ec.ofPt (Ec.Pt.neg (Ec.mulP Ec.G n))), .int .i64 0]) (turn_fn (Ec.mulP Ec.G n) (Ec.mulP_on Ec.good Ec.G_on n)) (fun w => kr) kr ?_
  intro w28 H28; clear H27
  refine s_val (some 87) (.tuple #[pv (Ec.ofPt (Ec.Pt.neg (Ec.mulP Ec.G n))), .int .i64 0]) (fun w => kr) kr ?_
  refine s_val (some 90) (pv (Ec.ofPt (Ec.Pt.neg (Ec.mulP Ec.G n)))) (fun w => kr) kr ?_
  refine s_val (some 91) (.int .i64 0) (fun w => kr) kr ?_
  refine s_alloc H28 (some 23) 26 (.agg Z9) kr kr kr ?_
  intro b12 w29 H29; clear H28
  refine s_store H29 0 [(b12, Oc (pv (Ec.ofPt (Ec.Pt.neg (Ec.mulP Ec.G n)))) 26), (b11, Oc (pv (Ec.ofPt (Ec.Pt.add (Ec.mulP Ec.G n) (Ec.Pt.add (Ec.mulP Ec.G m) (Ec.mulP Ec.G k))))) 26), (b10, Oc (pv (Ec.ofPt (Ec.Pt.add (Ec.mulP Ec.G m) (Ec.mulP Ec.G k)))) 26), (b9, Oc (pv (Ec.ofPt (Ec.Pt.add (Ec.Pt.add (Ec.mulP Ec.G n) (Ec.mulP Ec.G m)) (Ec.mulP Ec.G k)))) 26), (b8, Oc (pv (Ec.ofPt (Ec.Pt.add (Ec.mulP Ec.G m) (Ec.mulP Ec.G n)))) 26), (b7, Oc (pv (Ec.ofPt (Ec.Pt.add (Ec.mulP Ec.G n) (Ec.mulP Ec.G m)))) 26), (b6, Oc (pv (Ec.ofPt (Ec.mulP Ec.G k))) 26), (b5, Oc (pv (Ec.ofPt (Ec.mulP Ec.G m))) 26), (b4, Oc (pv (Ec.ofPt (Ec.mulP Ec.G n))) 26), (b3, Oc (uv k) 24), (b2, Oc (uv m) 24), (b1, Oc (uv n) 24)] 26 (.tmp 23) (.tmp 90) b12 (0) Z9 (Value.cells (pv (Ec.ofPt (Ec.Pt.neg (Ec.mulP Ec.G n))))) 26 (pv (Ec.ofPt (Ec.Pt.neg (Ec.mulP Ec.G n)))) kr kr kr kr kr kr (of_decide_eq_true kr) kr kr ?_
  intro w30 H30; clear H29
  refine s_val (some 24) (.int .i64 0) (fun w => kr) kr ?_
  refine s_nil ?_
  refine g_sreg [0, 1, 2, 3, 4, 5, 6, 7, 8] kr kr ?_
  refine s_load H30 (some 93) 26 (.tmp 7) 8 b4 (Value.cells (pv (Ec.ofPt (Ec.mulP Ec.G n)))) 26 (0, 0) kr kr kr kr kr ?_
  refine s_load H30 (some 94) 26 (.tmp 23) 0 b12 (Value.cells (pv (Ec.ofPt (Ec.Pt.neg (Ec.mulP Ec.G n))))) 26 (0, 0) kr kr kr kr kr ?_
  refine s_call H30 (some 95) 13 #[pv (Ec.ofPt (Ec.mulP Ec.G n)), pv (Ec.ofPt (Ec.Pt.neg (Ec.mulP Ec.G n)))] (.tuple #[pv (Ec.ofPt (Ec.Pt.add (Ec.mulP Ec.G n) (Ec.Pt.neg (Ec.mulP Ec.G n)))), .int .i64 0]) (add_pt_fn (Ec.mulP Ec.G n) (Ec.mulP_on Ec.good Ec.G_on n) (Ec.Pt.neg (Ec.mulP Ec.G n)) (Ec.Pt.neg_on (Ec.mulP_on Ec.good Ec.G_on n))) (fun w => kr) kr ?_
  intro w31 H31; clear H30
  refine s_val (some 92) (.tuple #[pv (Ec.ofPt (Ec.Pt.add (Ec.mulP Ec.G n) (Ec.Pt.neg (Ec.mulP Ec.G n)))), .int .i64 0]) (fun w => kr) kr ?_
  refine s_val (some 96) (pv (Ec.ofPt (Ec.Pt.add (Ec.mulP Ec.G n) (Ec.Pt.neg (Ec.mulP Ec.G n))))) (fun w => kr) kr ?_
  refine s_val (some 97) (.int .i64 0) (fun w => kr) kr ?_
  refine s_alloc H31 (some 25) 26 (.agg Z9) kr kr kr ?_
  intro b13 w32 H32; clear H31
  refine s_store H32 0 [(b13, Oc (pv (Ec.ofPt (Ec.Pt.add (Ec.mulP Ec.G n) (Ec.Pt.neg (Ec.mulP Ec.G n))))) 26), (b12, Oc (pv (Ec.ofPt (Ec.Pt.neg (Ec.mulP Ec.G n)))) 26), (b11, Oc (pv (Ec.ofPt (Ec.Pt.add (Ec.mulP Ec.G n) (Ec.Pt.add (Ec.mulP Ec.G m) (Ec.mulP Ec.G k))))) 26), (b10, Oc (pv (Ec.ofPt (Ec.Pt.add (Ec.mulP Ec.G m) (Ec.mulP Ec.G k)))) 26), (b9, Oc (pv (Ec.ofPt (Ec.Pt.add (Ec.Pt.add (Ec.mulP Ec.G n) (Ec.mulP Ec.G m)) (Ec.mulP Ec.G k)))) 26), (b8, Oc (pv (Ec.ofPt (Ec.Pt.add (Ec.mulP Ec.G m) (Ec.mulP Ec.G n)))) 26), (b7, Oc (pv (Ec.ofPt (Ec.Pt.add (Ec.mulP Ec.G n) (Ec.mulP Ec.G m)))) 26), (b6, Oc (pv (Ec.ofPt (Ec.mulP Ec.G k))) 26), (b5, Oc (pv (Ec.ofPt (Ec.mulP Ec.G m))) 26), (b4, Oc (pv (Ec.ofPt (Ec.mulP Ec.G n))) 26), (b3, Oc (uv k) 24), (b2, Oc (uv m) 24), (b1, Oc (uv n) 24)] 26 (.tmp 25) (.tmp 96) b13 (0) Z9 (Value.cells (pv (Ec.ofPt (Ec.Pt.add (Ec.mulP Ec.G n) (Ec.Pt.neg (Ec.mulP Ec.G n)))))) 26 (pv (Ec.ofPt (Ec.Pt.add (Ec.mulP Ec.G n) (Ec.Pt.neg (Ec.mulP Ec.G n))))) kr kr kr kr kr kr (of_decide_eq_true kr) kr kr ?_
  intro w33 H33; clear H32
  refine s_val (some 26) (.int .i64 0) (fun w => kr) kr ?_
  refine s_nil ?_
  refine g_sreg [0, 1, 2, 3, 4, 5, 6] kr kr ?_
  refine s_call H33 (some 99) 20 #[.int .i64 1] (.tuple #[uv NR, .int .i64 0]) prime1_fn (fun w => kr) kr ?_
  intro w34 H34; clear H33
  refine s_val (some 98) (.tuple #[uv NR, .int .i64 0]) (fun w => kr) kr ?_
  refine s_val (some 100) (uv NR) (fun w => kr) kr ?_
  refine s_val (some 101) (.int .i64 0) (fun w => kr) kr ?_
  refine s_alloc H34 (some 27) 24 (.agg Z4) kr kr kr ?_
  intro b14 w35 H35; clear H34
  refine s_store H35 0 [(b14, Oc (uv NR) 24), (b13, Oc (pv (Ec.ofPt (Ec.Pt.add (Ec.mulP Ec.G n) (Ec.Pt.neg (Ec.mulP Ec.G n))))) 26), (b12, Oc (pv (Ec.ofPt (Ec.Pt.neg (Ec.mulP Ec.G n)))) 26), (b11, Oc (pv (Ec.ofPt (Ec.Pt.add (Ec.mulP Ec.G n) (Ec.Pt.add (Ec.mulP Ec.G m) (Ec.mulP Ec.G k))))) 26), (b10, Oc (pv (Ec.ofPt (Ec.Pt.add (Ec.mulP Ec.G m) (Ec.mulP Ec.G k)))) 26), (b9, Oc (pv (Ec.ofPt (Ec.Pt.add (Ec.Pt.add (Ec.mulP Ec.G n) (Ec.mulP Ec.G m)) (Ec.mulP Ec.G k)))) 26), (b8, Oc (pv (Ec.ofPt (Ec.Pt.add (Ec.mulP Ec.G m) (Ec.mulP Ec.G n)))) 26), (b7, Oc (pv (Ec.ofPt (Ec.Pt.add (Ec.mulP Ec.G n) (Ec.mulP Ec.G m)))) 26), (b6, Oc (pv (Ec.ofPt (Ec.mulP Ec.G k))) 26), (b5, Oc (pv (Ec.ofPt (Ec.mulP Ec.G m))) 26), (b4, Oc (pv (Ec.ofPt (Ec.mulP Ec.G n))) 26), (b3, Oc (uv k) 24), (b2, Oc (uv m) 24), (b1, Oc (uv n) 24)] 24 (.tmp 27) (.tmp 100) b14 (0) Z4 (Value.cells (uv NR)) 24 (uv NR) kr kr kr kr kr kr (of_decide_eq_true kr) kr kr ?_
  intro w36 H36; clear H35
  refine s_val (some 28) (.int .i64 0) (fun w => kr) kr ?_
  refine s_nil ?_
  refine g_sreg [0, 1, 2, 3, 4, 5, 6, 7, 8] kr kr ?_
  refine s_load H36 (some 103) 26 (.tmp 7) 10 b4 (Value.cells (pv (Ec.ofPt (Ec.mulP Ec.G n)))) 26 (0, 0) kr kr kr kr kr ?_
  refine s_load H36 (some 104) 24 (.tmp 27) 0 b14 (Value.cells (uv NR)) 24 (0, 0) kr kr kr kr kr ?_
  refine s_call H36 (some 105) 17 #[pv (Ec.ofPt (Ec.mulP Ec.G n)), uv NR] (.tuple #[pv (Ec.ofPt (Ec.mulP (Ec.mulP Ec.G n) NR)), .int .i64 0]) (times_pt_fn (Ec.mulP Ec.G n) (Ec.mulP_on Ec.good Ec.G_on n) NR nr_ok.1) (fun w => kr) kr ?_
  intro w37 H37; clear H36
  refine s_val (some 102) (.tuple #[pv (Ec.ofPt (Ec.mulP (Ec.mulP Ec.G n) NR)), .int .i64 0]) (fun w => kr) kr ?_
  refine s_val (some 106) (pv (Ec.ofPt (Ec.mulP (Ec.mulP Ec.G n) NR))) (fun w => kr) kr ?_
  refine s_val (some 107) (.int .i64 0) (fun w => kr) kr ?_
  refine s_alloc H37 (some 29) 26 (.agg Z9) kr kr kr ?_
  intro b15 w38 H38; clear H37
  refine s_store H38 0 [(b15, Oc (pv (Ec.ofPt (Ec.mulP (Ec.mulP Ec.G n) NR))) 26), (b14, Oc (uv NR) 24), (b13, Oc (pv (Ec.ofPt (Ec.Pt.add (Ec.mulP Ec.G n) (Ec.Pt.neg (Ec.mulP Ec.G n))))) 26), (b12, Oc (pv (Ec.ofPt (Ec.Pt.neg (Ec.mulP Ec.G n)))) 26), (b11, Oc (pv (Ec.ofPt (Ec.Pt.add (Ec.mulP Ec.G n) (Ec.Pt.add (Ec.mulP Ec.G m) (Ec.mulP Ec.G k))))) 26), (b10, Oc (pv (Ec.ofPt (Ec.Pt.add (Ec.mulP Ec.G m) (Ec.mulP Ec.G k)))) 26), (b9, Oc (pv (Ec.ofPt (Ec.Pt.add (Ec.Pt.add (Ec.mulP Ec.G n) (Ec.mulP Ec.G m)) (Ec.mulP Ec.G k)))) 26), (b8, Oc (pv (Ec.ofPt (Ec.Pt.add (Ec.mulP Ec.G m) (Ec.mulP Ec.G n)))) 26), (b7, Oc (pv (Ec.ofPt (Ec.Pt.add (Ec.mulP Ec.G n) (Ec.mulP Ec.G m)))) 26), (b6, Oc (pv (Ec.ofPt (Ec.mulP Ec.G k))) 26), (b5, Oc (pv (Ec.ofPt (Ec.mulP Ec.G m))) 26), (b4, Oc (pv (Ec.ofPt (Ec.mulP Ec.G n))) 26), (b3, Oc (uv k) 24), (b2, Oc (uv m) 24), (b1, Oc (uv n) 24)] 26 (.tmp 29) (.tmp 106) b15 (0) Z9 (Value.cells (pv (Ec.ofPt (Ec.mulP (Ec.mulP Ec.G n) NR)))) 26 (pv (Ec.ofPt (Ec.mulP (Ec.mulP Ec.G n) NR))) kr kr kr kr kr kr (of_decide_eq_true kr) kr kr ?_
  intro w39 H39; clear H38
  refine s_val (some 30) (.int .i64 0) (fun w => kr) kr ?_
  refine s_nil ?_
  refine g_sreg [0, 1, 2, 3, 4, 5, 6, 7, 8, 9, 10, 11, 12, 13, 14, 15, 16, 17, 18, 19, 20, 21, 22, 23, 24, 25, 26, 27, 28, 29, 30, 31, 32, 33, 34, 35, 36, 37, 38, 39, 40, 41, 42] kr kr ?_
  refine s_val (some 108) (.int .i64 0) (fun w => kr) kr ?_
  refine s_val (some 109) (.bool true) (fun w => kr) kr ?_
  refine s_val (some 110) (.bool true) (fun w => kr) kr ?_
  refine s_val (some 111) (.int .i64 0) (fun w => kr) kr ?_
  refine s_val (some 112) (.int .i64 0) (fun w => kr) kr ?_
  refine s_val (some 113) (.bool true) (fun w => kr) kr ?_
  refine s_val (some 114) (.bool true) (fun w => kr) kr ?_
  refine s_val (some 115) (.bool true) (fun w => kr) kr ?_
  refine s_val (some 116) (.int .i64 0) (fun w => kr) kr ?_
  refine s_val (some 117) (.int .i64 0) (fun w => kr) kr ?_
  refine s_val (some 118) (.bool true) (fun w => kr) kr ?_
  refine s_val (some 119) (.bool true) (fun w => kr) kr ?_
  refine s_val (some 120) (.bool true) (fun w => kr) kr ?_
  refine s_val (some 121) (.int .i64 0) (fun w => kr) kr ?_
  refine s_val (some 122) (.int .i64 0) (fun w => kr) kr ?_
  refine s_val (some 123) (.bool true) (fun w => kr) kr ?_
  refine s_val (some 124) (.bool true) (fun w => kr) kr ?_
  refine s_val (some 125) (.bool true) (fun w => kr) kr ?_
  refine s_val (some 126) (.int .i64 0) (fun w => kr) kr ?_
  refine s_val (some 127) (.int .i64 0) (fun w => kr) kr ?_
  refine s_val (some 128) (.bool true) (fun w => kr) kr ?_
  refine s_val (some 129) (.bool true) (fun w => kr) kr ?_
  refine s_val (some 130) (.bool true) (fun w => kr) kr ?_
  refine s_val (some 131) (.int .i64 0) (fun w => kr) kr ?_
  refine s_val (some 132) (.int .i64 0) (fun w => kr) kr ?_
  refine s_val (some 133) (.bool true) (fun w => kr) kr ?_
  refine s_val (some 134) (.bool true) (fun w => kr) kr ?_
  refine s_val (some 135) (.bool true) (fun w => kr) kr ?_
  refine s_val (some 136) (.int .i64 0) (fun w => kr) kr ?_
  refine s_val (some 137) (.int .i64 0) (fun w => kr) kr ?_
  refine s_val (some 138) (.bool true) (fun w => kr) kr ?_
  refine s_val (some 139) (.bool true) (fun w => kr) kr ?_
  refine s_val (some 140) (.bool true) (fun w => kr) kr ?_
  refine s_val (some 141) (.int .i64 0) (fun w => kr) kr ?_
  refine s_val (some 142) (.int .i64 0) (fun w => kr) kr ?_
  refine s_val (some 143) (.bool true) (fun w => kr) kr ?_
  refine s_val (some 144) (.bool true) (fun w => kr) kr ?_
  refine s_val (some 145) (.bool true) (fun w => kr) kr ?_
  refine s_val (some 146) (.int .i64 0) (fun w => kr) kr ?_
  refine s_val (some 147) (.int .i64 0) (fun w => kr) kr ?_
  refine s_val (some 148) (.bool true) (fun w => kr) kr ?_
  refine s_val (some 149) (.bool true) (fun w => kr) kr ?_
  refine s_val (some 31) (.bool true) (fun w => kr) kr ?_
  refine s_nil ?_
  refine D2.g_sdraw [0, 1, 2, 3, 4, 5, 6, 7, 8, 9, 10, 11, 12, 13, 14, 15, 16, 17, 18, 19, 20, 21, 22, 23, 24] [((some 150), fun _ => .bool true), ((some 151), fun _ => .bool true), ((some 152), fun _ => .bool true), ((some 153), fun _ => .bool true), ((some 154), fun _ => .bool true), ((some 155), fun _ => pv (Ec.ofPt (Ec.Pt.add (Ec.mulP Ec.G n) (Ec.mulP Ec.G m)))), ((some 156), fun _ => pv (Ec.ofPt (Ec.Pt.add (Ec.mulP Ec.G m) (Ec.mulP Ec.G n)))), ((some 157), fun _ => .bool true), ((some 158), fun _ => .bool true), ((some 159), fun _ => .bool true), ((some 160), fun _ => pv (Ec.ofPt (Ec.Pt.add (Ec.Pt.add (Ec.mulP Ec.G n) (Ec.mulP Ec.G m)) (Ec.mulP Ec.G k)))), ((some 161), fun _ => pv (Ec.ofPt (Ec.Pt.add (Ec.mulP Ec.G n) (Ec.Pt.add (Ec.mulP Ec.G m) (Ec.mulP Ec.G k))))), ((some 162), fun _ => .bool true), ((some 163), fun _ => .bool true), ((some 164), fun _ => .bool true), ((some 165), fun _ => pv (Ec.ofPt (Ec.Pt.add (Ec.mulP Ec.G n) (Ec.Pt.neg (Ec.mulP Ec.G n))))), ((some 166), fun _ => pv (Ec.Pd.mk 0 0 true)), ((some 167), fun _ => .bool true), ((some 168), fun _ => .bool true), ((some 169), fun _ => .bool true), ((some 170), fun _ => pv (Ec.ofPt (Ec.mulP (Ec.mulP Ec.G n) NR))), ((some 171), fun _ => pv (Ec.Pd.mk 0 0 true)), ((some 172), fun _ => .bool true), ((some 173), fun _ => .bool true), ((some 6), fun _ => .bool true)] (D2.Pre w.heap.size w (fun L g => [(true, (b15, Oc (pv (Ec.ofPt (Ec.mulP (Ec.mulP Ec.G n) NR))) 26)), (true, (b14, Oc (uv NR) 24)), (true, (b13, Oc (pv (Ec.ofPt (Ec.Pt.add (Ec.mulP Ec.G n) (Ec.Pt.neg (Ec.mulP Ec.G n))))) 26)), (true, (b12, Oc (pv (Ec.ofPt (Ec.Pt.neg (Ec.mulP Ec.G n)))) 26)), (true, (b11, Oc (pv (Ec.ofPt (Ec.Pt.add (Ec.mulP Ec.G n) (Ec.Pt.add (Ec.mulP Ec.G m) (Ec.mulP Ec.G k))))) 26)), (true, (b10, Oc (pv (Ec.ofPt (Ec.Pt.add (Ec.mulP Ec.G m) (Ec.mulP Ec.G k)))) 26)), (true, (b9, Oc (pv (Ec.ofPt (Ec.Pt.add (Ec.Pt.add (Ec.mulP Ec.G n) (Ec.mulP Ec.G m)) (Ec.mulP Ec.G k)))) 26)), (true, (b8, Oc (pv (Ec.ofPt (Ec.Pt.add (Ec.mulP Ec.G m) (Ec.mulP Ec.G n)))) 26)), (true, (b7, Oc (pv (Ec.ofPt (Ec.Pt.add (Ec.mulP Ec.G n) (Ec.mulP Ec.G m)))) 26)), (true, (b6, Oc (pv (Ec.ofPt (Ec.mulP Ec.G k))) 26)), (true, (b5, Oc (pv (Ec.ofPt (Ec.mulP Ec.G m))) 26)), (true, (b4, Oc (pv (Ec.ofPt (Ec.mulP Ec.G n))) 26)), (true, (b3, Oc (uv k) 24)), (true, (b2, Oc (uv m) 24)), (true, (b1, Oc (uv n) 24))]) (fun L g => True)) kr kr kr kr ⟨D2.StE.of H39.drew _ kr, trivial⟩ ⟨?_, ?_, ?_, ?_, ?_, ?_, ?_, ?_, ?_, ?_, ?_, ?_, ?_, ?_, ?_, ?_, ?_, ?_, ?_, ?_, ?_, ?_, ?_, ?_, ?_, trivial⟩ ?_
  · exact D2.gv_call 12 #[] (fun _ _ _ h => h) alive06_fn (fun g w => kr)
  · exact D2.gv_val (fun _ _ _ h => h) (fun g w => kr)
  · exact D2.gv_val (fun _ _ _ h => h) (fun g w => kr)
  · exact D2.gv_val (fun _ _ _ h => h) (fun g w => kr)
  · exact D2.gv_val (fun _ _ _ h => h) (fun g w => kr)
  · exact D2.gv_load 26 (.tmp 13) 8 (fun g => b7) (Value.cells (pv (Ec.ofPt (Ec.Pt.add (Ec.mulP Ec.G n) (Ec.mulP Ec.G m))))) 26 (0, 0) (fun _ _ _ h => h) (fun g => kr) (fun g => kr) (fun L g hN => kr) kr
  · exact D2.gv_load 26 (.tmp 15) 7 (fun g => b8) (Value.cells (pv (Ec.ofPt (Ec.Pt.add (Ec.mulP Ec.G m) (Ec.mulP Ec.G n))))) 26 (0, 0) (fun _ _ _ h => h) (fun g => kr) (fun g => kr) (fun L g hN => kr) kr
  · exact D2.gv_opE (fun _ _ _ h => h) _ (V' := .bool (decide ((Ec.ofPt (Ec.Pt.add (Ec.mulP Ec.G n) (Ec.mulP Ec.G m))) = (Ec.ofPt (Ec.Pt.add (Ec.mulP Ec.G m) (Ec.mulP Ec.G n)))))) (fun g => kr) (fun g o w ho => eqP_run (x := (.tmp 155)) (y := (.tmp 156)) (Ec.ofPt (Ec.Pt.add (Ec.mulP Ec.G n) (Ec.mulP Ec.G m))) (Ec.ofPt (Ec.Pt.add (Ec.mulP Ec.G m) (Ec.mulP Ec.G n))) (Ec.ofPt_ok _) (Ec.ofPt_ok _) w ho kr kr) (by rw [decide_eq_true (p := (Ec.ofPt (Ec.Pt.add (Ec.mulP Ec.G n) (Ec.mulP Ec.G m))) = (Ec.ofPt (Ec.Pt.add (Ec.mulP Ec.G m) (Ec.mulP Ec.G n)))) (by rw [add_c (Ec.mulP_on Ec.good Ec.G_on n) (Ec.mulP_on Ec.good Ec.G_on m)])] <;> rfl)
  · exact D2.gv_val (fun _ _ _ h => h) (fun g w => kr)
  · exact D2.gv_val (fun _ _ _ h => h) (fun g w => kr)
  · exact D2.gv_load 26 (.tmp 17) 6 (fun g => b9) (Value.cells (pv (Ec.ofPt (Ec.Pt.add (Ec.Pt.add (Ec.mulP Ec.G n) (Ec.mulP Ec.G m)) (Ec.mulP Ec.G k))))) 26 (0, 0) (fun _ _ _ h => h) (fun g => kr) (fun g => kr) (fun L g hN => kr) kr
  · exact D2.gv_load 26 (.tmp 21) 4 (fun g => b11) (Value.cells (pv (Ec.ofPt (Ec.Pt.add (Ec.mulP Ec.G n) (Ec.Pt.add (Ec.mulP Ec.G m) (Ec.mulP Ec.G k)))))) 26 (0, 0) (fun _ _ _ h => h) (fun g => kr) (fun g => kr) (fun L g hN => kr) kr
  · exact D2.gv_opE (fun _ _ _ h => h) _ (V' := .bool (decide ((Ec.ofPt (Ec.Pt.add (Ec.Pt.add (Ec.mulP Ec.G n) (Ec.mulP Ec.G m)) (Ec.mulP Ec.G k))) = (Ec.ofPt (Ec.Pt.add (Ec.mulP Ec.G n) (Ec.Pt.add (Ec.mulP Ec.G m) (Ec.mulP Ec.G k))))))) (fun g => kr) (fun g o w ho => eqP_run (x := (.tmp 160)) (y := (.tmp 161)) (Ec.ofPt (Ec.Pt.add (Ec.Pt.add (Ec.mulP Ec.G n) (Ec.mulP Ec.G m)) (Ec.mulP Ec.G k))) (Ec.ofPt (Ec.Pt.add (Ec.mulP Ec.G n) (Ec.Pt.add (Ec.mulP Ec.G m) (Ec.mulP Ec.G k)))) (Ec.ofPt_ok _) (Ec.ofPt_ok _) w ho kr kr) (by rw [decide_eq_true (p := (Ec.ofPt (Ec.Pt.add (Ec.Pt.add (Ec.mulP Ec.G n) (Ec.mulP Ec.G m)) (Ec.mulP Ec.G k))) = (Ec.ofPt (Ec.Pt.add (Ec.mulP Ec.G n) (Ec.Pt.add (Ec.mulP Ec.G m) (Ec.mulP Ec.G k))))) (by rw [add_a (Ec.mulP_on Ec.good Ec.G_on n) (Ec.mulP_on Ec.good Ec.G_on m) (Ec.mulP_on Ec.good Ec.G_on k)])] <;> rfl)
  · exact D2.gv_val (fun _ _ _ h => h) (fun g w => kr)
  · exact D2.gv_val (fun _ _ _ h => h) (fun g w => kr)
  · exact D2.gv_load 26 (.tmp 25) 2 (fun g => b13) (Value.cells (pv (Ec.ofPt (Ec.Pt.add (Ec.mulP Ec.G n) (Ec.Pt.neg (Ec.mulP Ec.G n)))))) 26 (0, 0) (fun _ _ _ h => h) (fun g => kr) (fun g => kr) (fun L g hN => kr) kr
  · exact D2.gv_call 19 #[] (fun _ _ _ h => h) lzero_fn (fun g w => kr)
  · exact D2.gv_opE (fun _ _ _ h => h) _ (V' := .bool (decide ((Ec.ofPt (Ec.Pt.add (Ec.mulP Ec.G n) (Ec.Pt.neg (Ec.mulP Ec.G n)))) = (Ec.Pd.mk 0 0 true)))) (fun g => kr) (fun g o w ho => eqP_run (x := (.tmp 165)) (y := (.tmp 166)) (Ec.ofPt (Ec.Pt.add (Ec.mulP Ec.G n) (Ec.Pt.neg (Ec.mulP Ec.G n)))) (Ec.Pd.mk 0 0 true) (Ec.ofPt_ok _) (Ec.Pd.Ok.mk (p := Ec.Pd.mk 0 0 true) Ec.big_0 Ec.big_0) w ho kr kr) (by rw [decide_eq_true (p := (Ec.ofPt (Ec.Pt.add (Ec.mulP Ec.G n) (Ec.Pt.neg (Ec.mulP Ec.G n)))) = (Ec.Pd.mk 0 0 true)) (by rw [Ec.add_neg]; rfl)] <;> rfl)
  · exact D2.gv_val (fun _ _ _ h => h) (fun g w => kr)
  · exact D2.gv_val (fun _ _ _ h => h) (fun g w => kr)
  · exact D2.gv_load 26 (.tmp 29) 0 (fun g => b15) (Value.cells (pv (Ec.ofPt (Ec.mulP (Ec.mulP Ec.G n) NR)))) 26 (0, 0) (fun _ _ _ h => h) (fun g => kr) (fun g => kr) (fun L g hN => kr) kr
  · exact D2.gv_call 19 #[] (fun _ _ _ h => h) lzero_fn (fun g w => kr)
  · exact D2.gv_opE (fun _ _ _ h => h) _ (V' := .bool (decide ((Ec.ofPt (Ec.mulP (Ec.mulP Ec.G n) NR)) = (Ec.Pd.mk 0 0 true)))) (fun g => kr) (fun g o w ho => eqP_run (x := (.tmp 170)) (y := (.tmp 171)) (Ec.ofPt (Ec.mulP (Ec.mulP Ec.G n) NR)) (Ec.Pd.mk 0 0 true) (Ec.ofPt_ok _) (Ec.Pd.Ok.mk (p := Ec.Pd.mk 0 0 true) Ec.big_0 Ec.big_0) w ho kr kr) (by rw [decide_eq_true (p := (Ec.ofPt (Ec.mulP (Ec.mulP Ec.G n) NR)) = (Ec.Pd.mk 0 0 true)) (by rw [order_at]; rfl)] <;> rfl)
  · exact D2.gv_val (fun _ _ _ h => h) (fun g w => kr)
  · exact D2.gv_val (fun _ _ _ h => h) (fun g w => kr)
  intro L0 G40 w40 hall HL; clear H39
  have H40 : St w.heap.size w w40 [(b15, Oc (pv (Ec.ofPt (Ec.mulP (Ec.mulP Ec.G n) NR))) 26), (b14, Oc (uv NR) 24), (b13, Oc (pv (Ec.ofPt (Ec.Pt.add (Ec.mulP Ec.G n) (Ec.Pt.neg (Ec.mulP Ec.G n))))) 26), (b12, Oc (pv (Ec.ofPt (Ec.Pt.neg (Ec.mulP Ec.G n)))) 26), (b11, Oc (pv (Ec.ofPt (Ec.Pt.add (Ec.mulP Ec.G n) (Ec.Pt.add (Ec.mulP Ec.G m) (Ec.mulP Ec.G k))))) 26), (b10, Oc (pv (Ec.ofPt (Ec.Pt.add (Ec.mulP Ec.G m) (Ec.mulP Ec.G k)))) 26), (b9, Oc (pv (Ec.ofPt (Ec.Pt.add (Ec.Pt.add (Ec.mulP Ec.G n) (Ec.mulP Ec.G m)) (Ec.mulP Ec.G k)))) 26), (b8, Oc (pv (Ec.ofPt (Ec.Pt.add (Ec.mulP Ec.G m) (Ec.mulP Ec.G n)))) 26), (b7, Oc (pv (Ec.ofPt (Ec.Pt.add (Ec.mulP Ec.G n) (Ec.mulP Ec.G m)))) 26), (b6, Oc (pv (Ec.ofPt (Ec.mulP Ec.G k))) 26), (b5, Oc (pv (Ec.ofPt (Ec.mulP Ec.G m))) 26), (b4, Oc (pv (Ec.ofPt (Ec.mulP Ec.G n))) 26), (b3, Oc (uv k) 24), (b2, Oc (uv m) 24), (b1, Oc (uv n) 24)] := D2.StE.st HL.1
  clear HL hall
  refine g_ret kr ?_
  show ∃ vs, Res _ _ _ _ vs ∧ _
  refine ⟨[.bool true], (.tmp (.bool true) kr .nil), ?_, H40.below⟩
  rfl
end Go.Proofs.Ytljhbhhpfkmemaa
