/-
  What the laws ask: multiples.
-/
import Derived.Test.YtljhbhhpfkmemaaPtV
import Derived.Test.YtljhbhhpfkmemaaPtLb
import Derived.Test.YtljhbhhpfkmemaaPtA
namespace Go.Proofs.Ytljhbhhpfkmemaa
open Go Go.RowKit
set_option linter.unusedVariables false
set_option maxRecDepth 100000 in
set_option maxHeartbeats 2000000 in
theorem pointTimes_fn (n : Nat) (hn : n < big) (m : Nat) (hm : m < big) : Fn Try.prog 4 #[uv n, uv m] (.bool true) := by
  refine Fn.intro (c := codeOf Try.f4) [.tmp 4] 115 Try.func4 kr kr kr fun w => ?_
  have H0 := St.start w
  refine g_sreg [0, 1, 2] kr kr ?_
  refine s_box H0 (some 2) 24 (.tmp 0) (uv n) kr kr kr ?_
  intro b1 w1 H1; clear H0
  refine s_box H1 (some 3) 24 (.tmp 1) (uv m) kr kr kr ?_
  intro b2 w2 H2; clear H1
  refine s_val (some 4) (.bool false) (fun w => kr) kr ?_
  refine s_nil ?_
  refine g_sreg [0, 1, 2, 3, 4, 5, 6, 7] kr kr ?_
  refine s_load H2 (some 22) 24 (.tmp 3) 0 b2 (Value.cells (uv m)) 24 (0, 0) kr kr kr kr kr ?_
  refine s_call H2 (some 23) 9 #[uv m] (.tuple #[pv (Ec.ofPt (Ec.mulP Ec.G m)), .bool true]) (at6_fn m hm) (fun w => kr) kr ?_
  intro w3 H3; clear H2
  refine s_val (some 21) (.tuple #[pv (Ec.ofPt (Ec.mulP Ec.G m)), .bool true]) (fun w => kr) kr ?_
  refine s_val (some 24) (pv (Ec.ofPt (Ec.mulP Ec.G m))) (fun w => kr) kr ?_
  refine s_val (some 25) (.bool true) (fun w => kr) kr ?_
  refine s_alloc H3 (some 5) 26 (.agg Z9) kr kr kr ?_
  intro b3 w4 H4; clear H3
  refine s_store H4 0 [(b3, Oc (pv (Ec.ofPt (Ec.mulP Ec.G m))) 26), (b2, Oc (uv m) 24), (b1, Oc (uv n) 24)] 26 (.tmp 5) (.tmp 24) b3 (0) Z9 (Value.cells (pv (Ec.ofPt (Ec.mulP Ec.G m)))) 26 (pv (Ec.ofPt (Ec.mulP Ec.G m))) kr kr kr kr kr kr (of_decide_eq_true kr) kr kr ?_
  intro w5 H5; clear H4
  refine s_val (some 6) (.bool true) (fun w => kr) kr ?_
  refine s_nil ?_
  refine g_sreg [0, 1, 2, 3, 4, 5, 6, 7, 8] kr kr ?_
  refine s_load H5 (some 27) 26 (.tmp 5) 0 b3 (Value.cells (pv (Ec.ofPt (Ec.mulP Ec.G m)))) 26 (0, 0) kr kr kr kr kr ?_
  refine s_load H5 (some 28) 24 (.tmp 2) 2 b1 (Value.cells (uv n)) 24 (0, 0) kr kr kr kr kr ?_
  refine s_call H5 (some 29) 17 #[pv (Ec.ofPt (Ec.mulP Ec.G m)), uv n] (.tuple #[pv (Ec.ofPt (Ec.mulP (Ec.mulP Ec.G m) n)), .int .i64 0]) (times_pt_fn (Ec.mulP Ec.G m) (Ec.mulP_on Ec.good Ec.G_on m) n hn) (fun w => kr) kr ?_
  intro w6 H6; clear H5
  refine s_val (some 26) (.tuple #[pv (Ec.ofPt (Ec.mulP (Ec.mulP Ec.G m) n)), .int .i64 0]) (fun w => kr) kr ?_
  refine s_val (some 30) (pv (Ec.ofPt (Ec.mulP (Ec.mulP Ec.G m) n))) (fun w => kr) kr ?_
  refine s_val (some 31) (.int .i64 0) (fun w => kr) kr ?_
  refine s_alloc H6 (some 7) 26 (.agg Z9) kr kr kr ?_
  intro b4 w7 H7; clear H6
  refine s_store H7 0 [(b4, Oc (pv (Ec.ofPt (Ec.mulP (Ec.mulP Ec.G m) n))) 26), (b3, Oc (pv (Ec.ofPt (Ec.mulP Ec.G m))) 26), (b2, Oc (uv m) 24), (b1, Oc (uv n) 24)] 26 (.tmp 7) (.tmp 30) b4 (0) Z9 (Value.cells (pv (Ec.ofPt (Ec.mulP (Ec.mulP Ec.G m) n)))) 26 (pv (Ec.ofPt (Ec.mulP (Ec.mulP Ec.G m) n))) kr kr kr kr kr kr (of_decide_eq_true kr) kr kr ?_
  intro w8 H8; clear H7
  refine s_val (some 8) (.int .i64 0) (fun w => kr) kr ?_
  refine s_nil ?_
  refine g_sreg [0, 1, 2, 3, 4, 5, 6, 7, 8] kr kr ?_
  refine s_load H8 (some 33) 24 (.tmp 2) 3 b1 (Value.cells (uv n)) 24 (0, 0) kr kr kr kr kr ?_
  refine s_val (some 34) (.agg #[.int .u64 1, .int .u64 0, .int .u64 0, .int .u64 0]) (fun w => kr) kr ?_
  refine s_call H8 (some 35) 18 #[uv n, .agg #[.int .u64 1, .int .u64 0, .int .u64 0, .int .u64 0]] (.tuple #[uv (sm n 1), .bool (ov n 1)]) (add_fn n 1 hn (by unfold big; omega)) (fun w => kr) kr ?_
  intro w9 H9; clear H8
  refine s_val (some 32) (.tuple #[uv (sm n 1), .bool (ov n 1)]) (fun w => kr) kr ?_
  refine s_val (some 36) (uv (sm n 1)) (fun w => kr) kr ?_
  refine s_val (some 37) (.bool (ov n 1)) (fun w => kr) kr ?_
  refine s_alloc H9 (some 9) 24 (.agg Z4) kr kr kr ?_
  intro b5 w10 H10; clear H9
  refine s_store H10 0 [(b5, Oc (uv (sm n 1)) 24), (b4, Oc (pv (Ec.ofPt (Ec.mulP (Ec.mulP Ec.G m) n))) 26), (b3, Oc (pv (Ec.ofPt (Ec.mulP Ec.G m))) 26), (b2, Oc (uv m) 24), (b1, Oc (uv n) 24)] 24 (.tmp 9) (.tmp 36) b5 (0) Z4 (Value.cells (uv (sm n 1))) 24 (uv (sm n 1)) kr kr kr kr kr kr (of_decide_eq_true kr) kr kr ?_
  intro w11 H11; clear H10
  refine s_val (some 10) (.bool (ov n 1)) (fun w => kr) kr ?_
  refine s_nil ?_
  refine g_sreg [0, 1, 2, 3, 4, 5, 6, 7, 8] kr kr ?_
  refine s_load H11 (some 39) 26 (.tmp 5) 2 b3 (Value.cells (pv (Ec.ofPt (Ec.mulP Ec.G m)))) 26 (0, 0) kr kr kr kr kr ?_
  refine s_load H11 (some 40) 24 (.tmp 9) 0 b5 (Value.cells (uv (sm n 1))) 24 (0, 0) kr kr kr kr kr ?_
  refine s_call H11 (some 41) 17 #[pv (Ec.ofPt (Ec.mulP Ec.G m)), uv (sm n 1)] (.tuple #[pv (Ec.ofPt (Ec.mulP (Ec.mulP Ec.G m) (sm n 1))), .int .i64 0]) (times_pt_fn (Ec.mulP Ec.G m) (Ec.mulP_on Ec.good Ec.G_on m) (sm n 1) (sm_lt _ _)) (fun w => kr) kr ?_
  intro w12 H12; clear H11
  refine s_val (some 38) (.tuple #[pv (Ec.ofPt (Ec.mulP (Ec.mulP Ec.G m) (sm n 1))), .int .i64 0]) (fun w => kr) kr ?_
  refine s_val (some 42) (pv (Ec.ofPt (Ec.mulP (Ec.mulP Ec.G m) (sm n 1)))) (fun w => kr) kr ?_
  refine s_val (some 43) (.int .i64 0) (fun w => kr) kr ?_
  refine s_alloc H12 (some 11) 26 (.agg Z9) kr kr kr ?_
  intro b6 w13 H13; clear H12
  refine s_store H13 0 [(b6, Oc (pv (Ec.ofPt (Ec.mulP (Ec.mulP Ec.G m) (sm n 1)))) 26), (b5, Oc (uv (sm n 1)) 24), (b4, Oc (pv (Ec.ofPt (Ec.mulP (Ec.mulP Ec.G m) n))) 26), (b3, Oc (pv (Ec.ofPt (Ec.mulP Ec.G m))) 26), (b2, Oc (uv m) 24), (b1, Oc (uv n) 24)] 26 (.tmp 11) (.tmp 42) b6 (0) Z9 (Value.cells (pv (Ec.ofPt (Ec.mulP (Ec.mulP Ec.G m) (sm n 1))))) 26 (pv (Ec.ofPt (Ec.mulP (Ec.mulP Ec.G m) (sm n 1)))) kr kr kr kr kr kr (of_decide_eq_true kr) kr kr ?_
  intro w14 H14; clear H13
  refine s_val (some 12) (.int .i64 0) (fun w => kr) kr ?_
  refine s_nil ?_
  refine g_sreg [0, 1, 2, 3, 4, 5, 6, 7, 8] kr kr ?_
  refine s_load H14 (some 45) 24 (.tmp 2) 5 b1 (Value.cells (uv n)) 24 (0, 0) kr kr kr kr kr ?_
  refine s_load H14 (some 46) 24 (.tmp 2) 5 b1 (Value.cells (uv n)) 24 (0, 0) kr kr kr kr kr ?_
  refine s_call H14 (some 47) 18 #[uv n, uv n] (.tuple #[uv (sm n n), .bool (ov n n)]) (add_fn n n hn hn) (fun w => kr) kr ?_
  intro w15 H15; clear H14
  refine s_val (some 44) (.tuple #[uv (sm n n), .bool (ov n n)]) (fun w => kr) kr ?_
  refine s_val (some 48) (uv (sm n n)) (fun w => kr) kr ?_
  refine s_val (some 49) (.bool (ov n n)) (fun w => kr) kr ?_
  refine s_alloc H15 (some 13) 24 (.agg Z4) kr kr kr ?_
  intro b7 w16 H16; clear H15
  refine s_store H16 0 [(b7, Oc (uv (sm n n)) 24), (b6, Oc (pv (Ec.ofPt (Ec.mulP (Ec.mulP Ec.G m) (sm n 1)))) 26), (b5, Oc (uv (sm n 1)) 24), (b4, Oc (pv (Ec.ofPt (Ec.mulP (Ec.mulP Ec.G m) n))) 26), (b3, Oc (pv (Ec.ofPt (Ec.mulP Ec.G m))) 26), (b2, Oc (uv m) 24), (b1, Oc (uv n) 24)] 24 (.tmp 13) (.tmp 48) b7 (0) Z4 (Value.cells (uv (sm n n))) 24 (uv (sm n n)) kr kr kr kr kr kr (of_decide_eq_true kr) kr kr ?_
  intro w17 H17; clear H16
  refine s_val (some 14) (.bool (ov n n)) (fun w => kr) kr ?_
  refine s_nil ?_
  refine g_sreg [0, 1, 2, 3, 4, 5, 6, 7, 8] kr kr ?_
  refine s_load H17 (some 51) 26 (.tmp 5) 4 b3 (Value.cells (pv (Ec.ofPt (Ec.mulP Ec.G m)))) 26 (0, 0) kr kr kr kr kr ?_
  refine s_load H17 (some 52) 24 (.tmp 13) 0 b7 (Value.cells (uv (sm n n))) 24 (0, 0) kr kr kr kr kr ?_
  refine s_call H17 (some 53) 17 #[pv (Ec.ofPt (Ec.mulP Ec.G m)), uv (sm n n)] (.tuple #[pv (Ec.ofPt (Ec.mulP (Ec.mulP Ec.G m) (sm n n))), .int .i64 0]) (times_pt_fn (Ec.mulP Ec.G m) (Ec.mulP_on Ec.good Ec.G_on m) (sm n n) (sm_lt _ _)) (fun w => kr) kr ?_
  intro w18 H18; clear H17
  refine s_val (some 50) (.tuple #[pv (Ec.ofPt (Ec.mulP (Ec.mulP Ec.G m) (sm n n))), .int .i64 0]) (fun w => kr) kr ?_
  refine s_val (some 54) (pv (Ec.ofPt (Ec.mulP (Ec.mulP Ec.G m) (sm n n)))) (fun w => kr) kr ?_
  refine s_val (some 55) (.int .i64 0) (fun w => kr) kr ?_
  refine s_alloc H18 (some 15) 26 (.agg Z9) kr kr kr ?_
  intro b8 w19 H19; clear H18
  refine s_store H19 0 [(b8, Oc (pv (Ec.ofPt (Ec.mulP (Ec.mulP Ec.G m) (sm n n)))) 26), (b7, Oc (uv (sm n n)) 24), (b6, Oc (pv (Ec.ofPt (Ec.mulP (Ec.mulP Ec.G m) (sm n 1)))) 26), (b5, Oc (uv (sm n 1)) 24), (b4, Oc (pv (Ec.ofPt (Ec.mulP (Ec.mulP Ec.G m) n))) 26), (b3, Oc (pv (Ec.ofPt (Ec.mulP Ec.G m))) 26), (b2, Oc (uv m) 24), (b1, Oc (uv n) 24)] 26 (.tmp 15) (.tmp 54) b8 (0) Z9 (Value.cells (pv (Ec.ofPt (Ec.mulP (Ec.mulP Ec.G m) (sm n n))))) 26 (pv (Ec.ofPt (Ec.mulP (Ec.mulP Ec.G m) (sm n n)))) kr kr kr kr kr kr (of_decide_eq_true kr) kr kr ?_
  intro w20 H20; clear H19
  refine s_val (some 16) (.int .i64 0) (fun w => kr) kr ?_
  refine s_nil ?_
  refine g_sreg [0, 1, 2, 3, 4, 5, 6, 7, 8] kr kr ?_
  refine s_load H20 (some 57) 26 (.tmp 5) 5 b3 (Value.cells (pv (Ec.ofPt (Ec.mulP Ec.G m)))) 26 (0, 0) kr kr kr kr kr ?_
  refine s_val (some 58) (.agg Z4) (fun w => kr) kr ?_
  refine s_call H20 (some 59) 17 #[pv (Ec.ofPt (Ec.mulP Ec.G m)), .agg Z4] (.tuple #[pv (Ec.ofPt (Ec.mulP (Ec.mulP Ec.G m) 0)), .int .i64 0]) (times_pt_fn (Ec.mulP Ec.G m) (Ec.mulP_on Ec.good Ec.G_on m) 0 (by unfold big; omega)) (fun w => kr) kr ?_
  intro w21 H21; clear H20
  refine s_val (some 56) (.tuple #[pv (Ec.ofPt (Ec.mulP (Ec.mulP Ec.G m) 0)), .int .i64 0]) (fun w => kr) kr ?_
  refine s_val (some 60) (pv (Ec.ofPt (Ec.mulP (Ec.mulP Ec.G m) 0))) (fun w => kr) kr ?_
  refine s_val (some 61) (.int .i64 0) (fun w => kr) kr ?_
  refine s_alloc H21 (some 17) 26 (.agg Z9) kr kr kr ?_
  intro b9 w22 H22; clear H21
  refine s_store H22 0 [(b9, Oc (pv (Ec.ofPt (Ec.mulP (Ec.mulP Ec.G m) 0))) 26), (b8, Oc (pv (Ec.ofPt (Ec.mulP (Ec.mulP Ec.G m) (sm n n)))) 26), (b7, Oc (uv (sm n n)) 24), (b6, Oc (pv (Ec.ofPt (Ec.mulP (Ec.mulP Ec.G m) (sm n 1)))) 26), (b5, Oc (uv (sm n 1)) 24), (b4, Oc (pv (Ec.ofPt (Ec.mulP (Ec.mulP Ec.G m) n))) 26), (b3, Oc (pv (Ec.ofPt (Ec.mulP Ec.G m))) 26), (b2, Oc (uv m) 24), (b1, Oc (uv n) 24)] 26 (.tmp 17) (.tmp 60) b9 (0) Z9 (Value.cells (pv (Ec.ofPt (Ec.mulP (Ec.mulP Ec.G m) 0)))) 26 (pv (Ec.ofPt (Ec.mulP (Ec.mulP Ec.G m) 0))) kr kr kr kr kr kr (of_decide_eq_true kr) kr kr ?_
  intro w23 H23; clear H22
  refine s_val (some 18) (.int .i64 0) (fun w => kr) kr ?_
  refine s_nil ?_
  refine g_sreg [0, 1, 2, 3, 4, 5, 6, 7, 8] kr kr ?_
  refine s_val (some 63) (pv (Ec.Pd.mk 0 0 false)) (fun w => kr) kr ?_
  refine s_load H23 (some 64) 24 (.tmp 2) 8 b1 (Value.cells (uv n)) 24 (0, 0) kr kr kr kr kr ?_
  refine s_call H23 (some 65) 17 #[pv (Ec.Pd.mk 0 0 false), uv n] (.tuple #[pv (Ec.Pd.mk 0 0 false), .int .i64 1]) (timesNo_fn (Ec.Pd.mk 0 0 false) (Ec.Pd.Ok.mk (p := Ec.Pd.mk 0 0 false) Ec.big_0 Ec.big_0) onB_none n hn) (fun w => kr) kr ?_
  intro w24 H24; clear H23
  refine s_val (some 62) (.tuple #[pv (Ec.Pd.mk 0 0 false), .int .i64 1]) (fun w => kr) kr ?_
  refine s_val (some 66) (pv (Ec.Pd.mk 0 0 false)) (fun w => kr) kr ?_
  refine s_val (some 67) (.int .i64 1) (fun w => kr) kr ?_
  refine s_alloc H24 (some 19) 26 (.agg Z9) kr kr kr ?_
  intro b10 w25 H25; clear H24
  refine s_store H25 0 [(b10, Oc (pv (Ec.Pd.mk 0 0 false)) 26), (b9, Oc (pv (Ec.ofPt (Ec.mulP (Ec.mulP Ec.G m) 0))) 26), (b8, Oc (pv (Ec.ofPt (Ec.mulP (Ec.mulP Ec.G m) (sm n n)))) 26), (b7, Oc (uv (sm n n)) 24), (b6, Oc (pv (Ec.ofPt (Ec.mulP (Ec.mulP Ec.G m) (sm n 1)))) 26), (b5, Oc (uv (sm n 1)) 24), (b4, Oc (pv (Ec.ofPt (Ec.mulP (Ec.mulP Ec.G m) n))) 26), (b3, Oc (pv (Ec.ofPt (Ec.mulP Ec.G m))) 26), (b2, Oc (uv m) 24), (b1, Oc (uv n) 24)] 26 (.tmp 19) (.tmp 66) b10 (0) Z9 (Value.cells (pv (Ec.Pd.mk 0 0 false))) 26 (pv (Ec.Pd.mk 0 0 false)) kr kr kr kr kr kr (of_decide_eq_true kr) kr kr ?_
  intro w26 H26; clear H25
  refine s_val (some 20) (.int .i64 1) (fun w => kr) kr ?_
  refine s_nil ?_
  refine g_seq kr ?_
  refine g_sreg [0, 1, 2, 3, 4, 5, 6, 7, 8, 9, 10, 11, 12, 13, 14, 15, 16, 17, 18, 19, 20, 21, 22, 23, 24, 25] kr kr ?_
  cases hover : ov n 1
  · skip
    cases hfar : ov n n
    · skip
      refine s_val (some 68) (.bool true) (fun w => kr) kr ?_
      refine s_val (some 69) (.bool false) (fun w => kr) kr ?_
      refine s_val (some 70) (.bool false) (fun w => kr) kr ?_
      refine s_val (some 71) (.int .i64 0) (fun w => kr) kr ?_
      refine s_val (some 72) (.bool false) (fun w => kr) kr ?_
      refine s_val (some 73) (.bool false) (fun w => kr) kr ?_
      refine s_val (some 74) (.bool false) (fun w => kr) kr ?_
      refine s_val (some 75) (.int .i64 0) (fun w => kr) kr ?_
      refine s_val (some 76) (.bool false) (fun w => kr) kr ?_
      refine s_val (some 77) (.bool false) (fun w => kr) kr ?_
      refine s_val (some 78) (.bool false) (fun w => kr) kr ?_
      refine s_val (some 79) (.int .i64 0) (fun w => kr) kr ?_
      refine s_val (some 80) (.bool false) (fun w => kr) kr ?_
      refine s_val (some 81) (.bool false) (fun w => kr) kr ?_
      refine s_val (some 82) (.bool false) (fun w => kr) kr ?_
      refine s_val (some 83) (.int .i64 0) (fun w => kr) kr ?_
      refine s_val (some 84) (.bool false) (fun w => kr) kr ?_
      refine s_val (some 85) (.bool false) (fun w => kr) kr ?_
      refine s_val (some 86) (.bool false) (fun w => kr) kr ?_
      refine s_val (some 87) (.int .i64 1) (fun w => kr) kr ?_
      refine s_val (some 88) (.bool false) (fun w => kr) kr ?_
      refine s_val (some 89) (.bool false) (fun w => kr) kr ?_
      refine s_val (some 90) (.bool false) (fun w => kr) kr ?_
      refine s_call H26 (some 91) 12 #[] (.bool true) alive06_fn (fun w => kr) kr ?_
      intro w27 H27; clear H26
      refine s_val (some 92) (.bool false) (fun w => kr) kr ?_
      refine s_val (some 93) (.bool false) (fun w => kr) kr ?_
      refine s_nil ?_
      refine g_cond_f kr kr ?_
      refine g_skip kr ?_
      show WP _ _ _ _ _ _
      refine D2.g_sdraw [0, 1, 2, 3, 4, 5, 6, 7, 8, 9, 10, 11, 12, 13, 14, 15, 16, 17, 18, 19, 20, 21] [((some 94), fun _ => .bool false), ((some 95), fun _ => .bool false), ((some 96), fun _ => pv (Ec.ofPt (Ec.mulP (Ec.mulP Ec.G m) n))), ((some 97), fun _ => pv (Ec.ofPt (Ec.mulP Ec.G m))), ((some 98), fun _ => pv (Ec.ofPt (Ec.mulP (Ec.mulP Ec.G m) (sm n 1)))), ((some 99), fun _ => .bool true), ((some 100), fun _ => .bool true), ((some 101), fun _ => .bool true), ((some 102), fun _ => .bool false), ((some 103), fun _ => .bool false), ((some 104), fun _ => pv (Ec.ofPt (Ec.mulP (Ec.mulP Ec.G m) n))), ((some 105), fun _ => pv (Ec.ofPt (Ec.mulP (Ec.mulP Ec.G m) n))), ((some 106), fun _ => pv (Ec.ofPt (Ec.mulP (Ec.mulP Ec.G m) (sm n n)))), ((some 107), fun _ => .bool true), ((some 108), fun _ => .bool true), ((some 109), fun _ => .bool true), ((some 110), fun _ => .bool true), ((some 111), fun _ => pv (Ec.ofPt (Ec.mulP (Ec.mulP Ec.G m) 0))), ((some 112), fun _ => pv (Ec.Pd.mk 0 0 true)), ((some 113), fun _ => .bool true), ((some 114), fun _ => .bool true), ((some 4), fun _ => .bool true)] (D2.Pre w.heap.size w (fun L g => [(true, (b10, Oc (pv (Ec.Pd.mk 0 0 false)) 26)), (true, (b9, Oc (pv (Ec.ofPt (Ec.mulP (Ec.mulP Ec.G m) 0))) 26)), (true, (b8, Oc (pv (Ec.ofPt (Ec.mulP (Ec.mulP Ec.G m) (sm n n)))) 26)), (true, (b7, Oc (uv (sm n n)) 24)), (true, (b6, Oc (pv (Ec.ofPt (Ec.mulP (Ec.mulP Ec.G m) (sm n 1)))) 26)), (true, (b5, Oc (uv (sm n 1)) 24)), (true, (b4, Oc (pv (Ec.ofPt (Ec.mulP (Ec.mulP Ec.G m) n))) 26)), (true, (b3, Oc (pv (Ec.ofPt (Ec.mulP Ec.G m))) 26)), (true, (b2, Oc (uv m) 24)), (true, (b1, Oc (uv n) 24))]) (fun L g => True)) kr kr kr kr ⟨D2.StE.of H27.drew _ kr, trivial⟩ ⟨?_, ?_, ?_, ?_, ?_, ?_, ?_, ?_, ?_, ?_, ?_, ?_, ?_, ?_, ?_, ?_, ?_, ?_, ?_, ?_, ?_, ?_, trivial⟩ ?_
      · exact D2.gv_val (fun _ _ _ h => h) (fun g w => kr)
      · exact D2.gv_val (fun _ _ _ h => h) (fun g w => kr)
      · exact D2.gv_load 26 (.tmp 7) 6 (fun g => b4) (Value.cells (pv (Ec.ofPt (Ec.mulP (Ec.mulP Ec.G m) n)))) 26 (0, 0) (fun _ _ _ h => h) (fun g => kr) (fun g => kr) (fun L g hN => kr) kr
      · exact D2.gv_load 26 (.tmp 5) 7 (fun g => b3) (Value.cells (pv (Ec.ofPt (Ec.mulP Ec.G m)))) 26 (0, 0) (fun _ _ _ h => h) (fun g => kr) (fun g => kr) (fun L g hN => kr) kr
      · exact D2.gv_load 26 (.tmp 11) 4 (fun g => b6) (Value.cells (pv (Ec.ofPt (Ec.mulP (Ec.mulP Ec.G m) (sm n 1))))) 26 (0, 0) (fun _ _ _ h => h) (fun g => kr) (fun g => kr) (fun L g hN => kr) kr
      · exact D2.gv_call 16 #[pv (Ec.ofPt (Ec.mulP (Ec.mulP Ec.G m) n)), pv (Ec.ofPt (Ec.mulP Ec.G m)), pv (Ec.ofPt (Ec.mulP (Ec.mulP Ec.G m) (sm n 1)))] (fun _ _ _ h => h) (by have h9 := adds_fn (Ec.mulP (Ec.mulP Ec.G m) n) (Ec.mulP Ec.G m) (Ec.mulP_on Ec.good (Ec.mulP_on Ec.good Ec.G_on m) n) (Ec.mulP_on Ec.good Ec.G_on m); rw [show (Ec.Pt.add (Ec.mulP (Ec.mulP Ec.G m) n) (Ec.mulP Ec.G m)) = (Ec.mulP (Ec.mulP Ec.G m) (sm n 1)) from mul_over hover] at h9; exact h9) (fun g w => kr)
      · exact D2.gv_val (fun _ _ _ h => h) (fun g w => kr)
      · exact D2.gv_val (fun _ _ _ h => h) (fun g w => kr)
      · exact D2.gv_val (fun _ _ _ h => h) (fun g w => kr)
      · exact D2.gv_val (fun _ _ _ h => h) (fun g w => kr)
      · exact D2.gv_load 26 (.tmp 7) 6 (fun g => b4) (Value.cells (pv (Ec.ofPt (Ec.mulP (Ec.mulP Ec.G m) n)))) 26 (0, 0) (fun _ _ _ h => h) (fun g => kr) (fun g => kr) (fun L g hN => kr) kr
      · exact D2.gv_load 26 (.tmp 7) 6 (fun g => b4) (Value.cells (pv (Ec.ofPt (Ec.mulP (Ec.mulP Ec.G m) n)))) 26 (0, 0) (fun _ _ _ h => h) (fun g => kr) (fun g => kr) (fun L g hN => kr) kr
      · exact D2.gv_load 26 (.tmp 15) 2 (fun g => b8) (Value.cells (pv (Ec.ofPt (Ec.mulP (Ec.mulP Ec.G m) (sm n n))))) 26 (0, 0) (fun _ _ _ h => h) (fun g => kr) (fun g => kr) (fun L g hN => kr) kr
      · exact D2.gv_call 16 #[pv (Ec.ofPt (Ec.mulP (Ec.mulP Ec.G m) n)), pv (Ec.ofPt (Ec.mulP (Ec.mulP Ec.G m) n)), pv (Ec.ofPt (Ec.mulP (Ec.mulP Ec.G m) (sm n n)))] (fun _ _ _ h => h) (by have h9 := adds_fn (Ec.mulP (Ec.mulP Ec.G m) n) (Ec.mulP (Ec.mulP Ec.G m) n) (Ec.mulP_on Ec.good (Ec.mulP_on Ec.good Ec.G_on m) n) (Ec.mulP_on Ec.good (Ec.mulP_on Ec.good Ec.G_on m) n); rw [show (Ec.Pt.add (Ec.mulP (Ec.mulP Ec.G m) n) (Ec.mulP (Ec.mulP Ec.G m) n)) = (Ec.mulP (Ec.mulP Ec.G m) (sm n n)) from mul_far (Ec.mulP_on Ec.good Ec.G_on m) hfar] at h9; exact h9) (fun g w => kr)
      · exact D2.gv_val (fun _ _ _ h => h) (fun g w => kr)
      · exact D2.gv_val (fun _ _ _ h => h) (fun g w => kr)
      · exact D2.gv_val (fun _ _ _ h => h) (fun g w => kr)
      · exact D2.gv_load 26 (.tmp 17) 1 (fun g => b9) (Value.cells (pv (Ec.ofPt (Ec.mulP (Ec.mulP Ec.G m) 0)))) 26 (0, 0) (fun _ _ _ h => h) (fun g => kr) (fun g => kr) (fun L g hN => kr) kr
      · exact D2.gv_call 19 #[] (fun _ _ _ h => h) lzero_fn (fun g w => kr)
      · exact D2.gv_opE (fun _ _ _ h => h) _ (V' := .bool (decide ((Ec.ofPt (Ec.mulP (Ec.mulP Ec.G m) 0)) = (Ec.Pd.mk 0 0 true)))) (fun g => kr) (fun g o w ho => eqP_run (x := (.tmp 111)) (y := (.tmp 112)) (Ec.ofPt (Ec.mulP (Ec.mulP Ec.G m) 0)) (Ec.Pd.mk 0 0 true) (Ec.ofPt_ok _) (Ec.Pd.Ok.mk (p := Ec.Pd.mk 0 0 true) Ec.big_0 Ec.big_0) w ho kr kr) (by rw [decide_eq_true (p := (Ec.ofPt (Ec.mulP (Ec.mulP Ec.G m) 0)) = (Ec.Pd.mk 0 0 true)) rfl] <;> rfl)
      · exact D2.gv_val (fun _ _ _ h => h) (fun g w => kr)
      · exact D2.gv_val (fun _ _ _ h => h) (fun g w => kr)
      intro L0 G28 w28 hall HL; clear H27
      have H28 : St w.heap.size w w28 [(b10, Oc (pv (Ec.Pd.mk 0 0 false)) 26), (b9, Oc (pv (Ec.ofPt (Ec.mulP (Ec.mulP Ec.G m) 0))) 26), (b8, Oc (pv (Ec.ofPt (Ec.mulP (Ec.mulP Ec.G m) (sm n n)))) 26), (b7, Oc (uv (sm n n)) 24), (b6, Oc (pv (Ec.ofPt (Ec.mulP (Ec.mulP Ec.G m) (sm n 1)))) 26), (b5, Oc (uv (sm n 1)) 24), (b4, Oc (pv (Ec.ofPt (Ec.mulP (Ec.mulP Ec.G m) n))) 26), (b3, Oc (pv (Ec.ofPt (Ec.mulP Ec.G m))) 26), (b2, Oc (uv m) 24), (b1, Oc (uv n) 24)] := D2.StE.st HL.1
      clear HL hall
      refine g_ret kr ?_
      show ∃ vs, Res _ _ _ _ vs ∧ _
      refine ⟨[.bool true], (.tmp (.bool true) kr .nil), ?_, H28.below⟩
      rfl
    · skip
      refine s_val (some 68) (.bool true) (fun w => kr) kr ?_
      refine s_val (some 69) (.bool false) (fun w => kr) kr ?_
      refine s_val (some 70) (.bool false) (fun w => kr) kr ?_
      refine s_val (some 71) (.int .i64 0) (fun w => kr) kr ?_
      refine s_val (some 72) (.bool false) (fun w => kr) kr ?_
      refine s_val (some 73) (.bool false) (fun w => kr) kr ?_
      refine s_val (some 74) (.bool false) (fun w => kr) kr ?_
      refine s_val (some 75) (.int .i64 0) (fun w => kr) kr ?_
      refine s_val (some 76) (.bool false) (fun w => kr) kr ?_
      refine s_val (some 77) (.bool false) (fun w => kr) kr ?_
      refine s_val (some 78) (.bool false) (fun w => kr) kr ?_
      refine s_val (some 79) (.int .i64 0) (fun w => kr) kr ?_
      refine s_val (some 80) (.bool false) (fun w => kr) kr ?_
      refine s_val (some 81) (.bool false) (fun w => kr) kr ?_
      refine s_val (some 82) (.bool false) (fun w => kr) kr ?_
      refine s_val (some 83) (.int .i64 0) (fun w => kr) kr ?_
      refine s_val (some 84) (.bool false) (fun w => kr) kr ?_
      refine s_val (some 85) (.bool false) (fun w => kr) kr ?_
      refine s_val (some 86) (.bool false) (fun w => kr) kr ?_
      refine s_val (some 87) (.int .i64 1) (fun w => kr) kr ?_
      refine s_val (some 88) (.bool false) (fun w => kr) kr ?_
      refine s_val (some 89) (.bool false) (fun w => kr) kr ?_
      refine s_val (some 90) (.bool false) (fun w => kr) kr ?_
      refine s_call H26 (some 91) 12 #[] (.bool true) alive06_fn (fun w => kr) kr ?_
      intro w29 H29; clear H26
      refine s_val (some 92) (.bool false) (fun w => kr) kr ?_
      refine s_val (some 93) (.bool false) (fun w => kr) kr ?_
      refine s_nil ?_
      refine g_cond_f kr kr ?_
      refine g_skip kr ?_
      show WP _ _ _ _ _ _
      refine D2.g_sdraw [0, 1, 2, 3, 4, 5, 6, 7, 8, 9, 10, 11, 12, 13, 14, 15, 16, 17, 18, 19, 20, 21] [((some 94), fun _ => .bool false), ((some 95), fun _ => .bool false), ((some 96), fun _ => pv (Ec.ofPt (Ec.mulP (Ec.mulP Ec.G m) n))), ((some 97), fun _ => pv (Ec.ofPt (Ec.mulP Ec.G m))), ((some 98), fun _ => pv (Ec.ofPt (Ec.mulP (Ec.mulP Ec.G m) (sm n 1)))), ((some 99), fun _ => .bool true), ((some 100), fun _ => .bool true), ((some 101), fun _ => .bool true), ((some 102), fun _ => .bool true), ((some 103), fun _ => .bool true), ((some 104), fun _ => undef), ((some 105), fun _ => undef), ((some 106), fun _ => undef), ((some 107), fun _ => undef), ((some 108), fun _ => .bool true), ((some 109), fun _ => .bool true), ((some 110), fun _ => .bool true), ((some 111), fun _ => pv (Ec.ofPt (Ec.mulP (Ec.mulP Ec.G m) 0))), ((some 112), fun _ => pv (Ec.Pd.mk 0 0 true)), ((some 113), fun _ => .bool true), ((some 114), fun _ => .bool true), ((some 4), fun _ => .bool true)] (D2.Pre w.heap.size w (fun L g => [(true, (b10, Oc (pv (Ec.Pd.mk 0 0 false)) 26)), (true, (b9, Oc (pv (Ec.ofPt (Ec.mulP (Ec.mulP Ec.G m) 0))) 26)), (true, (b8, Oc (pv (Ec.ofPt (Ec.mulP (Ec.mulP Ec.G m) (sm n n)))) 26)), (true, (b7, Oc (uv (sm n n)) 24)), (true, (b6, Oc (pv (Ec.ofPt (Ec.mulP (Ec.mulP Ec.G m) (sm n 1)))) 26)), (true, (b5, Oc (uv (sm n 1)) 24)), (true, (b4, Oc (pv (Ec.ofPt (Ec.mulP (Ec.mulP Ec.G m) n))) 26)), (true, (b3, Oc (pv (Ec.ofPt (Ec.mulP Ec.G m))) 26)), (true, (b2, Oc (uv m) 24)), (true, (b1, Oc (uv n) 24))]) (fun L g => True)) kr kr kr kr ⟨D2.StE.of H29.drew _ kr, trivial⟩ ⟨?_, ?_, ?_, ?_, ?_, ?_, ?_, ?_, ?_, ?_, ?_, ?_, ?_, ?_, ?_, ?_, ?_, ?_, ?_, ?_, ?_, ?_, trivial⟩ ?_
      · exact D2.gv_val (fun _ _ _ h => h) (fun g w => kr)
      · exact D2.gv_val (fun _ _ _ h => h) (fun g w => kr)
      · exact D2.gv_load 26 (.tmp 7) 6 (fun g => b4) (Value.cells (pv (Ec.ofPt (Ec.mulP (Ec.mulP Ec.G m) n)))) 26 (0, 0) (fun _ _ _ h => h) (fun g => kr) (fun g => kr) (fun L g hN => kr) kr
      · exact D2.gv_load 26 (.tmp 5) 7 (fun g => b3) (Value.cells (pv (Ec.ofPt (Ec.mulP Ec.G m)))) 26 (0, 0) (fun _ _ _ h => h) (fun g => kr) (fun g => kr) (fun L g hN => kr) kr
      · exact D2.gv_load 26 (.tmp 11) 4 (fun g => b6) (Value.cells (pv (Ec.ofPt (Ec.mulP (Ec.mulP Ec.G m) (sm n 1))))) 26 (0, 0) (fun _ _ _ h => h) (fun g => kr) (fun g => kr) (fun L g hN => kr) kr
      · exact D2.gv_call 16 #[pv (Ec.ofPt (Ec.mulP (Ec.mulP Ec.G m) n)), pv (Ec.ofPt (Ec.mulP Ec.G m)), pv (Ec.ofPt (Ec.mulP (Ec.mulP Ec.G m) (sm n 1)))] (fun _ _ _ h => h) (by have h9 := adds_fn (Ec.mulP (Ec.mulP Ec.G m) n) (Ec.mulP Ec.G m) (Ec.mulP_on Ec.good (Ec.mulP_on Ec.good Ec.G_on m) n) (Ec.mulP_on Ec.good Ec.G_on m); rw [show (Ec.Pt.add (Ec.mulP (Ec.mulP Ec.G m) n) (Ec.mulP Ec.G m)) = (Ec.mulP (Ec.mulP Ec.G m) (sm n 1)) from mul_over hover] at h9; exact h9) (fun g w => kr)
      · exact D2.gv_val (fun _ _ _ h => h) (fun g w => kr)
      · exact D2.gv_val (fun _ _ _ h => h) (fun g w => kr)
      · exact D2.gv_val (fun _ _ _ h => h) (fun g w => kr)
      · exact D2.gv_val (fun _ _ _ h => h) (fun g w => kr)
      · exact D2.gv_not (fun _ _ _ h => h) (fun g => kr)
      · exact D2.gv_not (fun _ _ _ h => h) (fun g => kr)
      · exact D2.gv_not (fun _ _ _ h => h) (fun g => kr)
      · exact D2.gv_not (fun _ _ _ h => h) (fun g => kr)
      · exact D2.gv_val (fun _ _ _ h => h) (fun g w => kr)
      · exact D2.gv_val (fun _ _ _ h => h) (fun g w => kr)
      · exact D2.gv_val (fun _ _ _ h => h) (fun g w => kr)
      · exact D2.gv_load 26 (.tmp 17) 1 (fun g => b9) (Value.cells (pv (Ec.ofPt (Ec.mulP (Ec.mulP Ec.G m) 0)))) 26 (0, 0) (fun _ _ _ h => h) (fun g => kr) (fun g => kr) (fun L g hN => kr) kr
      · exact D2.gv_call 19 #[] (fun _ _ _ h => h) lzero_fn (fun g w => kr)
      · exact D2.gv_opE (fun _ _ _ h => h) _ (V' := .bool (decide ((Ec.ofPt (Ec.mulP (Ec.mulP Ec.G m) 0)) = (Ec.Pd.mk 0 0 true)))) (fun g => kr) (fun g o w ho => eqP_run (x := (.tmp 111)) (y := (.tmp 112)) (Ec.ofPt (Ec.mulP (Ec.mulP Ec.G m) 0)) (Ec.Pd.mk 0 0 true) (Ec.ofPt_ok _) (Ec.Pd.Ok.mk (p := Ec.Pd.mk 0 0 true) Ec.big_0 Ec.big_0) w ho kr kr) (by rw [decide_eq_true (p := (Ec.ofPt (Ec.mulP (Ec.mulP Ec.G m) 0)) = (Ec.Pd.mk 0 0 true)) rfl] <;> rfl)
      · exact D2.gv_val (fun _ _ _ h => h) (fun g w => kr)
      · exact D2.gv_val (fun _ _ _ h => h) (fun g w => kr)
      intro L0 G30 w30 hall HL; clear H29
      have H30 : St w.heap.size w w30 [(b10, Oc (pv (Ec.Pd.mk 0 0 false)) 26), (b9, Oc (pv (Ec.ofPt (Ec.mulP (Ec.mulP Ec.G m) 0))) 26), (b8, Oc (pv (Ec.ofPt (Ec.mulP (Ec.mulP Ec.G m) (sm n n)))) 26), (b7, Oc (uv (sm n n)) 24), (b6, Oc (pv (Ec.ofPt (Ec.mulP (Ec.mulP Ec.G m) (sm n 1)))) 26), (b5, Oc (uv (sm n 1)) 24), (b4, Oc (pv (Ec.ofPt (Ec.mulP (Ec.mulP Ec.G m) n))) 26), (b3, Oc (pv (Ec.ofPt (Ec.mulP Ec.G m))) 26), (b2, Oc (uv m) 24), (b1, Oc (uv n) 24)] := D2.StE.st HL.1
      clear HL hall
      refine g_ret kr ?_
      show ∃ vs, Res _ _ _ _ vs ∧ _
      refine ⟨[.bool true], (.tmp (.bool true) kr .nil), ?_, H30.below⟩
      rfl
  · skip
    cases hfar : ov n n
    · skip
      refine s_val (some 68) (.bool true) (fun w => kr) kr ?_
      refine s_val (some 69) (.bool false) (fun w => kr) kr ?_
      refine s_val (some 70) (.bool false) (fun w => kr) kr ?_
      refine s_val (some 71) (.int .i64 0) (fun w => kr) kr ?_
      refine s_val (some 72) (.bool false) (fun w => kr) kr ?_
      refine s_val (some 73) (.bool false) (fun w => kr) kr ?_
      refine s_val (some 74) (.bool false) (fun w => kr) kr ?_
      refine s_val (some 75) (.int .i64 0) (fun w => kr) kr ?_
      refine s_val (some 76) (.bool false) (fun w => kr) kr ?_
      refine s_val (some 77) (.bool false) (fun w => kr) kr ?_
      refine s_val (some 78) (.bool false) (fun w => kr) kr ?_
      refine s_val (some 79) (.int .i64 0) (fun w => kr) kr ?_
      refine s_val (some 80) (.bool false) (fun w => kr) kr ?_
      refine s_val (some 81) (.bool false) (fun w => kr) kr ?_
      refine s_val (some 82) (.bool false) (fun w => kr) kr ?_
      refine s_val (some 83) (.int .i64 0) (fun w => kr) kr ?_
      refine s_val (some 84) (.bool false) (fun w => kr) kr ?_
      refine s_val (some 85) (.bool false) (fun w => kr) kr ?_
      refine s_val (some 86) (.bool false) (fun w => kr) kr ?_
      refine s_val (some 87) (.int .i64 1) (fun w => kr) kr ?_
      refine s_val (some 88) (.bool false) (fun w => kr) kr ?_
      refine s_val (some 89) (.bool false) (fun w => kr) kr ?_
      refine s_val (some 90) (.bool false) (fun w => kr) kr ?_
      refine s_call H26 (some 91) 12 #[] (.bool true) alive06_fn (fun w => kr) kr ?_
      intro w31 H31; clear H26
      refine s_val (some 92) (.bool false) (fun w => kr) kr ?_
      refine s_val (some 93) (.bool false) (fun w => kr) kr ?_
      refine s_nil ?_
      refine g_cond_f kr kr ?_
      refine g_skip kr ?_
      show WP _ _ _ _ _ _
      refine D2.g_sdraw [0, 1, 2, 3, 4, 5, 6, 7, 8, 9, 10, 11, 12, 13, 14, 15, 16, 17, 18, 19, 20, 21] [((some 94), fun _ => .bool true), ((some 95), fun _ => .bool true), ((some 96), fun _ => undef), ((some 97), fun _ => undef), ((some 98), fun _ => undef), ((some 99), fun _ => undef), ((some 100), fun _ => .bool true), ((some 101), fun _ => .bool true), ((some 102), fun _ => .bool false), ((some 103), fun _ => .bool false), ((some 104), fun _ => pv (Ec.ofPt (Ec.mulP (Ec.mulP Ec.G m) n))), ((some 105), fun _ => pv (Ec.ofPt (Ec.mulP (Ec.mulP Ec.G m) n))), ((some 106), fun _ => pv (Ec.ofPt (Ec.mulP (Ec.mulP Ec.G m) (sm n n)))), ((some 107), fun _ => .bool true), ((some 108), fun _ => .bool true), ((some 109), fun _ => .bool true), ((some 110), fun _ => .bool true), ((some 111), fun _ => pv (Ec.ofPt (Ec.mulP (Ec.mulP Ec.G m) 0))), ((some 112), fun _ => pv (Ec.Pd.mk 0 0 true)), ((some 113), fun _ => .bool true), ((some 114), fun _ => .bool true), ((some 4), fun _ => .bool true)] (D2.Pre w.heap.size w (fun L g => [(true, (b10, Oc (pv (Ec.Pd.mk 0 0 false)) 26)), (true, (b9, Oc (pv (Ec.ofPt (Ec.mulP (Ec.mulP Ec.G m) 0))) 26)), (true, (b8, Oc (pv (Ec.ofPt (Ec.mulP (Ec.mulP Ec.G m) (sm n n)))) 26)), (true, (b7, Oc (uv (sm n n)) 24)), (true, (b6, Oc (pv (Ec.ofPt (Ec.mulP (Ec.mulP Ec.G m) (sm n 1)))) 26)), (true, (b5, Oc (uv (sm n 1)) 24)), (true, (b4, Oc (pv (Ec.ofPt (Ec.mulP (Ec.mulP Ec.G m) n))) 26)), (true, (b3, Oc (pv (Ec.ofPt (Ec.mulP Ec.G m))) 26)), (true, (b2, Oc (uv m) 24)), (true, (b1, Oc (uv n) 24))]) (fun L g => True)) kr kr kr kr ⟨D2.StE.of H31.drew _ kr, trivial⟩ ⟨?_, ?_, ?_, ?_, ?_, ?_, ?_, ?_, ?_, ?_, ?_, ?_, ?_, ?_, ?_, ?_, ?_, ?_, ?_, ?_, ?_, ?_, trivial⟩ ?_
      · exact D2.gv_val (fun _ _ _ h => h) (fun g w => kr)
      · exact D2.gv_val (fun _ _ _ h => h) (fun g w => kr)
      · exact D2.gv_not (fun _ _ _ h => h) (fun g => kr)
      · exact D2.gv_not (fun _ _ _ h => h) (fun g => kr)
      · exact D2.gv_not (fun _ _ _ h => h) (fun g => kr)
      · exact D2.gv_not (fun _ _ _ h => h) (fun g => kr)
      · exact D2.gv_val (fun _ _ _ h => h) (fun g w => kr)
      · exact D2.gv_val (fun _ _ _ h => h) (fun g w => kr)
      · exact D2.gv_val (fun _ _ _ h => h) (fun g w => kr)
      · exact D2.gv_val (fun _ _ _ h => h) (fun g w => kr)
      · exact D2.gv_load 26 (.tmp 7) 6 (fun g => b4) (Value.cells (pv (Ec.ofPt (Ec.mulP (Ec.mulP Ec.G m) n)))) 26 (0, 0) (fun _ _ _ h => h) (fun g => kr) (fun g => kr) (fun L g hN => kr) kr
      · exact D2.gv_load 26 (.tmp 7) 6 (fun g => b4) (Value.cells (pv (Ec.ofPt (Ec.mulP (Ec.mulP Ec.G m) n)))) 26 (0, 0) (fun _ _ _ h => h) (fun g => kr) (fun g => kr) (fun L g hN => kr) kr
      · exact D2.gv_load 26 (.tmp 15) 2 (fun g => b8) (Value.cells (pv (Ec.ofPt (Ec.mulP (Ec.mulP Ec.G m) (sm n n))))) 26 (0, 0) (fun _ _ _ h => h) (fun g => kr) (fun g => kr) (fun L g hN => kr) kr
      · exact D2.gv_call 16 #[pv (Ec.ofPt (Ec.mulP (Ec.mulP Ec.G m) n)), pv (Ec.ofPt (Ec.mulP (Ec.mulP Ec.G m) n)), pv (Ec.ofPt (Ec.mulP (Ec.mulP Ec.G m) (sm n n)))] (fun _ _ _ h => h) (by have h9 := adds_fn (Ec.mulP (Ec.mulP Ec.G m) n) (Ec.mulP (Ec.mulP Ec.G m) n) (Ec.mulP_on Ec.good (Ec.mulP_on Ec.good Ec.G_on m) n) (Ec.mulP_on Ec.good (Ec.mulP_on Ec.good Ec.G_on m) n); rw [show (Ec.Pt.add (Ec.mulP (Ec.mulP Ec.G m) n) (Ec.mulP (Ec.mulP Ec.G m) n)) = (Ec.mulP (Ec.mulP Ec.G m) (sm n n)) from mul_far (Ec.mulP_on Ec.good Ec.G_on m) hfar] at h9; exact h9) (fun g w => kr)
      · exact D2.gv_val (fun _ _ _ h => h) (fun g w => kr)
      · exact D2.gv_val (fun _ _ _ h => h) (fun g w => kr)
      · exact D2.gv_val (fun _ _ _ h => h) (fun g w => kr)
      · exact D2.gv_load 26 (.tmp 17) 1 (fun g => b9) (Value.cells (pv (Ec.ofPt (Ec.mulP (Ec.mulP Ec.G m) 0)))) 26 (0, 0) (fun _ _ _ h => h) (fun g => kr) (fun g => kr) (fun L g hN => kr) kr
      · exact D2.gv_call 19 #[] (fun _ _ _ h => h) lzero_fn (fun g w => kr)
      · exact D2.gv_opE (fun _ _ _ h => h) _ (V' := .bool (decide ((Ec.ofPt (Ec.mulP (Ec.mulP Ec.G m) 0)) = (Ec.Pd.mk 0 0 true)))) (fun g => kr) (fun g o w ho => eqP_run (x := (.tmp 111)) (y := (.tmp 112)) (Ec.ofPt (Ec.mulP (Ec.mulP Ec.G m) 0)) (Ec.Pd.mk 0 0 true) (Ec.ofPt_ok _) (Ec.Pd.Ok.mk (p := Ec.Pd.mk 0 0 true) Ec.big_0 Ec.big_0) w ho kr kr) (by rw [decide_eq_true (p := (Ec.ofPt (Ec.mulP (Ec.mulP Ec.G m) 0)) = (Ec.Pd.mk 0 0 true)) rfl] <;> rfl)
      · exact D2.gv_val (fun _ _ _ h => h) (fun g w => kr)
      · exact D2.gv_val (fun _ _ _ h => h) (fun g w => kr)
      intro L0 G32 w32 hall HL; clear H31
      have H32 : St w.heap.size w w32 [(b10, Oc (pv (Ec.Pd.mk 0 0 false)) 26), (b9, Oc (pv (Ec.ofPt (Ec.mulP (Ec.mulP Ec.G m) 0))) 26), (b8, Oc (pv (Ec.ofPt (Ec.mulP (Ec.mulP Ec.G m) (sm n n)))) 26), (b7, Oc (uv (sm n n)) 24), (b6, Oc (pv (Ec.ofPt (Ec.mulP (Ec.mulP Ec.G m) (sm n 1)))) 26), (b5, Oc (uv (sm n 1)) 24), (b4, Oc (pv (Ec.ofPt (Ec.mulP (Ec.mulP Ec.G m) n))) 26), (b3, Oc (pv (Ec.ofPt (Ec.mulP Ec.G m))) 26), (b2, Oc (uv m) 24), (b1, Oc (uv n) 24)] := D2.StE.st HL.1
      clear HL hall
      refine g_ret kr ?_
      show ∃ vs, Res _ _ _ _ vs ∧ _
      refine ⟨[.bool true], (.tmp (.bool true) kr .nil), ?_, H32.below⟩
      rfl
    · skip
      refine s_val (some 68) (.bool true) (fun w => kr) kr ?_
      refine s_val (some 69) (.bool false) (fun w => kr) kr ?_
      refine s_val (some 70) (.bool false) (fun w => kr) kr ?_
      refine s_val (some 71) (.int .i64 0) (fun w => kr) kr ?_
      refine s_val (some 72) (.bool false) (fun w => kr) kr ?_
      refine s_val (some 73) (.bool false) (fun w => kr) kr ?_
      refine s_val (some 74) (.bool false) (fun w => kr) kr ?_
      refine s_val (some 75) (.int .i64 0) (fun w => kr) kr ?_
      refine s_val (some 76) (.bool false) (fun w => kr) kr ?_
      refine s_val (some 77) (.bool false) (fun w => kr) kr ?_
      refine s_val (some 78) (.bool false) (fun w => kr) kr ?_
      refine s_val (some 79) (.int .i64 0) (fun w => kr) kr ?_
      refine s_val (some 80) (.bool false) (fun w => kr) kr ?_
      refine s_val (some 81) (.bool false) (fun w => kr) kr ?_
      refine s_val (some 82) (.bool false) (fun w => kr) kr ?_
      refine s_val (some 83) (.int .i64 0) (fun w => kr) kr ?_
      refine s_val (some 84) (.bool false) (fun w => kr) kr ?_
      refine s_val (some 85) (.bool false) (fun w => kr) kr ?_
      refine s_val (some 86) (.bool false) (fun w => kr) kr ?_
      refine s_val (some 87) (.int .i64 1) (fun w => kr) kr ?_
      refine s_val (some 88) (.bool false) (fun w => kr) kr ?_
      refine s_val (some 89) (.bool false) (fun w => kr) kr ?_
      refine s_val (some 90) (.bool false) (fun w => kr) kr ?_
      refine s_call H26 (some 91) 12 #[] (.bool true) alive06_fn (fun w => kr) kr ?_
      intro w33 H33; clear H26
      refine s_val (some 92) (.bool false) (fun w => kr) kr ?_
      refine s_val (some 93) (.bool false) (fun w => kr) kr ?_
      refine s_nil ?_
      refine g_cond_f kr kr ?_
      refine g_skip kr ?_
      show WP _ _ _ _ _ _
      refine D2.g_sdraw [0, 1, 2, 3, 4, 5, 6, 7, 8, 9, 10, 11, 12, 13, 14, 15, 16, 17, 18, 19, 20, 21] [((some 94), fun _ => .bool true), ((some 95), fun _ => .bool true), ((some 96), fun _ => undef), ((some 97), fun _ => undef), ((some 98), fun _ => undef), ((some 99), fun _ => undef), ((some 100), fun _ => .bool true), ((some 101), fun _ => .bool true), ((some 102), fun _ => .bool true), ((some 103), fun _ => .bool true), ((some 104), fun _ => undef), ((some 105), fun _ => undef), ((some 106), fun _ => undef), ((some 107), fun _ => undef), ((some 108), fun _ => .bool true), ((some 109), fun _ => .bool true), ((some 110), fun _ => .bool true), ((some 111), fun _ => pv (Ec.ofPt (Ec.mulP (Ec.mulP Ec.G m) 0))), ((some 112), fun _ => pv (Ec.Pd.mk 0 0 true)), ((some 113), fun _ => .bool true), ((some 114), fun _ => .bool true), ((some 4), fun _ => .bool true)] (D2.Pre w.heap.size w (fun L g => [(true, (b10, Oc (pv (Ec.Pd.mk 0 0 false)) 26)), (true, (b9, Oc (pv (Ec.ofPt (Ec.mulP (Ec.mulP Ec.G m) 0))) 26)), (true, (b8, Oc (pv (Ec.ofPt (Ec.mulP (Ec.mulP Ec.G m) (sm n n)))) 26)), (true, (b7, Oc (uv (sm n n)) 24)), (true, (b6, Oc (pv (Ec.ofPt (Ec.mulP (Ec.mulP Ec.G m) (sm n 1)))) 26)), (true, (b5, Oc (uv (sm n 1)) 24)), (true, (b4, Oc (pv (Ec.ofPt (Ec.mulP (Ec.mulP Ec.G m) n))) 26)), (true, (b3, Oc (pv (Ec.ofPt (Ec.mulP Ec.G m))) 26)), (true, (b2, Oc (uv m) 24)), (true, (b1, Oc (uv n) 24))]) (fun L g => True)) kr kr kr kr ⟨D2.StE.of H33.drew _ kr, trivial⟩ ⟨?_, ?_, ?_, ?_, ?_, ?_, ?_, ?_, ?_, ?_, ?_, ?_, ?_, ?_, ?_, ?_, ?_, ?_, ?_, ?_, ?_, ?_, trivial⟩ ?_
      · exact D2.gv_val (fun _ _ _ h => h) (fun g w => kr)
      · exact D2.gv_val (fun _ _ _ h => h) (fun g w => kr)
      · exact D2.gv_not (fun _ _ _ h => h) (fun g => kr)
      · exact D2.gv_not (fun _ _ _ h => h) (fun g => kr)
      · exact D2.gv_not (fun _ _ _ h => h) (fun g => kr)
      · exact D2.gv_not (fun _ _ _ h => h) (fun g => kr)
      · exact D2.gv_val (fun _ _ _ h => h) (fun g w => kr)
      · exact D2.gv_val (fun _ _ _ h => h) (fun g w => kr)
      · exact D2.gv_val (fun _ _ _ h => h) (fun g w => kr)
      · exact D2.gv_val (fun _ _ _ h => h) (fun g w => kr)
      · exact D2.gv_not (fun _ _ _ h => h) (fun g => kr)
      · exact D2.gv_not (fun _ _ _ h => h) (fun g => kr)
      · exact D2.gv_not (fun _ _ _ h => h) (fun g => kr)
      · exact D2.gv_not (fun _ _ _ h => h) (fun g => kr)
      · exact D2.gv_val (fun _ _ _ h => h) (fun g w => kr)
      · exact D2.gv_val (fun _ _ _ h => h) (fun g w => kr)
      · exact D2.gv_val (fun _ _ _ h => h) (fun g w => kr)
      · exact D2.gv_load 26 (.tmp 17) 1 (fun g => b9) (Value.cells (pv (Ec.ofPt (Ec.mulP (Ec.mulP Ec.G m) 0)))) 26 (0, 0) (fun _ _ _ h => h) (fun g => kr) (fun g => kr) (fun L g hN => kr) kr
      · exact D2.gv_call 19 #[] (fun _ _ _ h => h) lzero_fn (fun g w => kr)
      · exact D2.gv_opE (fun _ _ _ h => h) _ (V' := .bool (decide ((Ec.ofPt (Ec.mulP (Ec.mulP Ec.G m) 0)) = (Ec.Pd.mk 0 0 true)))) (fun g => kr) (fun g o w ho => eqP_run (x := (.tmp 111)) (y := (.tmp 112)) (Ec.ofPt (Ec.mulP (Ec.mulP Ec.G m) 0)) (Ec.Pd.mk 0 0 true) (Ec.ofPt_ok _) (Ec.Pd.Ok.mk (p := Ec.Pd.mk 0 0 true) Ec.big_0 Ec.big_0) w ho kr kr) (by rw [decide_eq_true (p := (Ec.ofPt (Ec.mulP (Ec.mulP Ec.G m) 0)) = (Ec.Pd.mk 0 0 true)) rfl] <;> rfl)
      · exact D2.gv_val (fun _ _ _ h => h) (fun g w => kr)
      · exact D2.gv_val (fun _ _ _ h => h) (fun g w => kr)
      intro L0 G34 w34 hall HL; clear H33
      have H34 : St w.heap.size w w34 [(b10, Oc (pv (Ec.Pd.mk 0 0 false)) 26), (b9, Oc (pv (Ec.ofPt (Ec.mulP (Ec.mulP Ec.G m) 0))) 26), (b8, Oc (pv (Ec.ofPt (Ec.mulP (Ec.mulP Ec.G m) (sm n n)))) 26), (b7, Oc (uv (sm n n)) 24), (b6, Oc (pv (Ec.ofPt (Ec.mulP (Ec.mulP Ec.G m) (sm n 1)))) 26), (b5, Oc (uv (sm n 1)) 24), (b4, Oc (pv (Ec.ofPt (Ec.mulP (Ec.mulP Ec.G m) n))) 26), (b3, Oc (pv (Ec.ofPt (Ec.mulP Ec.G m))) 26), (b2, Oc (uv m) 24), (b1, Oc (uv n) 24)] := D2.StE.st HL.1
      clear HL hall
      refine g_ret kr ?_
      show ∃ vs, Res _ _ _ _ vs ∧ _
      refine ⟨[.bool true], (.tmp (.bool true) kr .nil), ?_, H34.below⟩
      rfl
end Go.Proofs.Ytljhbhhpfkmemaa
