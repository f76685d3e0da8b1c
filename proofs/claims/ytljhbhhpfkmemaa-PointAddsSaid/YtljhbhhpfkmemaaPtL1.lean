/-
  What the laws ask: sums of points.
-/
import Derived.Test.YtljhbhhpfkmemaaPtV
import Derived.Test.YtljhbhhpfkmemaaPtLb
import Derived.Test.YtljhbhhpfkmemaaPtA
namespace Go.Proofs.Ytljhbhhpfkmemaa
open Go Go.RowKit
set_option linter.unusedVariables false
set_option maxRecDepth 100000 in
set_option maxHeartbeats 2000000 in
theorem pAdds_1 (P : Ec.Pt Ec.Fp) (hP : P.On Ec.seven) (Q : Ec.Pt Ec.Fp) (hQ : Q.On Ec.seven) (n m : Nat) (hn : n < big) (hm : m < big) : Fn Try.prog 3 #[pv (Ec.ofPt P), pv (Ec.ofPt Q), uv n, uv m, .bool true] (.bool true) := by
  refine Fn.intro (c := codeOf Try.f3) [.tmp 10] 117 Try.func3 kr kr kr fun w => ?_
  have H0 := St.start w
  refine g_sreg [0, 1, 2, 3, 4] kr kr ?_
  refine s_box H0 (some 5) 26 (.tmp 0) (pv (Ec.ofPt P)) kr kr kr ?_
  intro b1 w1 H1; clear H0
  refine s_box H1 (some 6) 26 (.tmp 1) (pv (Ec.ofPt Q)) kr kr kr ?_
  intro b2 w2 H2; clear H1
  refine s_box H2 (some 7) 24 (.tmp 2) (uv n) kr kr kr ?_
  intro b3 w3 H3; clear H2
  refine s_box H3 (some 8) 24 (.tmp 3) (uv m) kr kr kr ?_
  intro b4 w4 H4; clear H3
  refine s_val (some 10) (.bool false) (fun w => kr) kr ?_
  refine s_nil ?_
  refine g_seq kr ?_
  refine g_sreg [0, 1] kr kr ?_
  refine s_val (some 17) (.bool true) (fun w => kr) kr ?_
  refine s_val (some 18) (.bool false) (fun w => kr) kr ?_
  refine s_nil ?_
  refine g_cond_f kr kr ?_
  refine g_skip kr ?_
  show WP _ _ _ _ _ _
  refine g_seq kr ?_
  refine D2.g_sdraw [0, 1, 2, 3, 4, 5, 6, 7, 8, 9, 10, 11, 12, 13, 14, 15] [((some 33), fun _ => pv (Ec.ofPt P)), ((some 34), fun _ => .bool true), ((some 35), fun _ => pv (Ec.ofPt P)), ((some 36), fun _ => .bool true), ((some 37), fun _ => .bool false), ((some 38), fun _ => .bool false), ((some 39), fun _ => pv (Ec.ofPt Q)), ((some 40), fun _ => .bool true), ((some 41), fun _ => pv (Ec.ofPt Q)), ((some 42), fun _ => .bool true), ((some 43), fun _ => .bool false), ((some 44), fun _ => .bool false), ((some 45), fun _ => .bool false), ((some 46), fun _ => .bool true), ((some 47), fun _ => .bool false), ((some 48), fun _ => .bool false)] (D2.Pre w.heap.size w (fun L g => [(true, (b4, Oc (uv m) 24)), (true, (b3, Oc (uv n) 24)), (true, (b2, Oc (pv (Ec.ofPt Q)) 26)), (true, (b1, Oc (pv (Ec.ofPt P)) 26))]) (fun L g => True)) kr kr kr kr ⟨D2.StE.of H4.drew _ kr, trivial⟩ ⟨?_, ?_, ?_, ?_, ?_, ?_, ?_, ?_, ?_, ?_, ?_, ?_, ?_, ?_, ?_, ?_, trivial⟩ ?_
  · exact D2.gv_load 26 (.tmp 5) 3 (fun g => b1) (Value.cells (pv (Ec.ofPt P))) 26 (0, 0) (fun _ _ _ h => h) (fun g => kr) (fun g => kr) (fun L g hN => kr) kr
  · exact D2.gv_call 10 #[pv (Ec.ofPt P)] (fun _ _ _ h => h) (on_yes (Ec.ofPt P) (Ec.ofPt_ok _) (Ec.onB_pt hP)) (fun g w => kr)
  · exact D2.gv_load 26 (.tmp 5) 3 (fun g => b1) (Value.cells (pv (Ec.ofPt P))) 26 (0, 0) (fun _ _ _ h => h) (fun g => kr) (fun g => kr) (fun L g hN => kr) kr
  · exact D2.gv_call 11 #[pv (Ec.ofPt P)] (fun _ _ _ h => h) (ron_yes (Ec.ofPt P) (Ec.ofPt_ok _) (Ec.onB_pt hP)) (fun g w => kr)
  · exact D2.gv_val (fun _ _ _ h => h) (fun g w => kr)
  · exact D2.gv_val (fun _ _ _ h => h) (fun g w => kr)
  · exact D2.gv_load 26 (.tmp 6) 2 (fun g => b2) (Value.cells (pv (Ec.ofPt Q))) 26 (0, 0) (fun _ _ _ h => h) (fun g => kr) (fun g => kr) (fun L g hN => kr) kr
  · exact D2.gv_call 10 #[pv (Ec.ofPt Q)] (fun _ _ _ h => h) (on_yes (Ec.ofPt Q) (Ec.ofPt_ok _) (Ec.onB_pt hQ)) (fun g w => kr)
  · exact D2.gv_load 26 (.tmp 6) 2 (fun g => b2) (Value.cells (pv (Ec.ofPt Q))) 26 (0, 0) (fun _ _ _ h => h) (fun g => kr) (fun g => kr) (fun L g hN => kr) kr
  · exact D2.gv_call 11 #[pv (Ec.ofPt Q)] (fun _ _ _ h => h) (ron_yes (Ec.ofPt Q) (Ec.ofPt_ok _) (Ec.onB_pt hQ)) (fun g w => kr)
  · exact D2.gv_val (fun _ _ _ h => h) (fun g w => kr)
  · exact D2.gv_val (fun _ _ _ h => h) (fun g w => kr)
  · exact D2.gv_val (fun _ _ _ h => h) (fun g w => kr)
  · exact D2.gv_call 12 #[] (fun _ _ _ h => h) alive06_fn (fun g w => kr)
  · exact D2.gv_val (fun _ _ _ h => h) (fun g w => kr)
  · exact D2.gv_val (fun _ _ _ h => h) (fun g w => kr)
  intro L0 G5 w5 hall HL; clear H4
  have H5 : St w.heap.size w w5 [(b4, Oc (uv m) 24), (b3, Oc (uv n) 24), (b2, Oc (pv (Ec.ofPt Q)) 26), (b1, Oc (pv (Ec.ofPt P)) 26)] := D2.StE.st HL.1
  clear HL hall
  refine g_cond_f kr kr ?_
  refine g_skip kr ?_
  show WP _ _ _ _ _ _
  refine g_sreg [0, 1, 2, 3, 4, 5, 6, 7, 8] kr kr ?_
  refine s_load H5 (some 50) 26 (.tmp 5) 3 b1 (Value.cells (pv (Ec.ofPt P))) 26 (0, 0) kr kr kr kr kr ?_
  refine s_load H5 (some 51) 26 (.tmp 6) 2 b2 (Value.cells (pv (Ec.ofPt Q))) 26 (0, 0) kr kr kr kr kr ?_
  refine s_call H5 (some 52) 13 #[pv (Ec.ofPt P), pv (Ec.ofPt Q)] (.tuple #[pv (Ec.ofPt (Ec.Pt.add P Q)), .int .i64 0]) (add_pt_fn P hP Q hQ) (fun w => kr) kr ?_
  intro w6 H6; clear H5
  refine s_val (some 49) (.tuple #[pv (Ec.ofPt (Ec.Pt.add P Q)), .int .i64 0]) (fun w => kr) kr ?_
  refine s_val (some 53) (pv (Ec.ofPt (Ec.Pt.add P Q))) (fun w => kr) kr ?_
  refine s_val (some 54) (.int .i64 0) (fun w => kr) kr ?_
  refine s_alloc H6 (some 13) 26 (.agg Z9) kr kr kr ?_
  intro b5 w7 H7; clear H6
  refine s_store H7 0 [(b5, Oc (pv (Ec.ofPt (Ec.Pt.add P Q))) 26), (b4, Oc (uv m) 24), (b3, Oc (uv n) 24), (b2, Oc (pv (Ec.ofPt Q)) 26), (b1, Oc (pv (Ec.ofPt P)) 26)] 26 (.tmp 13) (.tmp 53) b5 (0) Z9 (Value.cells (pv (Ec.ofPt (Ec.Pt.add P Q)))) 26 (pv (Ec.ofPt (Ec.Pt.add P Q))) kr kr kr kr kr kr (of_decide_eq_true kr) kr kr ?_
  intro w8 H8; clear H7
  refine s_val (some 14) (.int .i64 0) (fun w => kr) kr ?_
  refine s_nil ?_
  refine g_sreg [0, 1, 2, 3, 4, 5, 6, 7] kr kr ?_
  refine s_load H8 (some 56) 26 (.tmp 5) 4 b1 (Value.cells (pv (Ec.ofPt P))) 26 (0, 0) kr kr kr kr kr ?_
  refine s_call H8 (some 57) 14 #[pv (Ec.ofPt P)] (.tuple #[pv (Ec.ofPt (Ec.Pt.neg P)), .int .i64 0]) (turn_fn P hP) (fun w => kr) kr ?_
  intro w9 H9; clear H8
  refine s_val (some 55) (.tuple #[pv (Ec.ofPt (Ec.Pt.neg P)), .int .i64 0]) (fun w => kr) kr ?_
  refine s_val (some 58) (pv (Ec.ofPt (Ec.Pt.neg P))) (fun w => kr) kr ?_
  refine s_val (some 59) (.int .i64 0) (fun w => kr) kr ?_
  refine s_alloc H9 (some 15) 26 (.agg Z9) kr kr kr ?_
  intro b6 w10 H10; clear H9
  refine s_store H10 0 [(b6, Oc (pv (Ec.ofPt (Ec.Pt.neg P))) 26), (b5, Oc (pv (Ec.ofPt (Ec.Pt.add P Q))) 26), (b4, Oc (uv m) 24), (b3, Oc (uv n) 24), (b2, Oc (pv (Ec.ofPt Q)) 26), (b1, Oc (pv (Ec.ofPt P)) 26)] 26 (.tmp 15) (.tmp 58) b6 (0) Z9 (Value.cells (pv (Ec.ofPt (Ec.Pt.neg P)))) 26 (pv (Ec.ofPt (Ec.Pt.neg P))) kr kr kr kr kr kr (of_decide_eq_true kr) kr kr ?_
  intro w11 H11; clear H10
  refine s_val (some 16) (.int .i64 0) (fun w => kr) kr ?_
  refine s_nil ?_
  refine g_seq kr ?_
  refine g_sreg [0, 1, 2] kr kr ?_
  refine s_load H11 (some 60) 26 (.tmp 5) 5 b1 (Value.cells (pv (Ec.ofPt P))) 26 (0, 0) kr kr kr kr kr ?_
  refine s_call H11 (some 61) 11 #[pv (Ec.ofPt P)] (.bool true) (ron_yes (Ec.ofPt P) (Ec.ofPt_ok _) (Ec.onB_pt hP)) (fun w => kr) kr ?_
  intro w12 H12; clear H11
  refine s_val (some 62) (.bool false) (fun w => kr) kr ?_
  refine s_nil ?_
  refine g_cond_f kr kr ?_
  refine g_skip kr ?_
  show WP _ _ _ _ _ _
  refine g_seq kr ?_
  refine g_sreg [0, 1, 2] kr kr ?_
  refine s_load H12 (some 79) 26 (.tmp 6) 4 b2 (Value.cells (pv (Ec.ofPt Q))) 26 (0, 0) kr kr kr kr kr ?_
  refine s_call H12 (some 80) 11 #[pv (Ec.ofPt Q)] (.bool true) (ron_yes (Ec.ofPt Q) (Ec.ofPt_ok _) (Ec.onB_pt hQ)) (fun w => kr) kr ?_
  intro w13 H13; clear H12
  refine s_val (some 81) (.bool false) (fun w => kr) kr ?_
  refine s_nil ?_
  refine g_cond_f kr kr ?_
  refine g_skip kr ?_
  show WP _ _ _ _ _ _
  refine D2.g_sdraw [0, 1, 2, 3, 4, 5, 6, 7, 8, 9, 10, 11, 12, 13, 14, 15, 16, 17, 18] [((some 99), fun _ => .int .i64 0), ((some 100), fun _ => .bool true), ((some 101), fun _ => .bool true), ((some 102), fun _ => .int .i64 0), ((some 103), fun _ => .bool true), ((some 104), fun _ => .bool true), ((some 105), fun _ => .bool true), ((some 106), fun _ => pv (Ec.ofPt P)), ((some 107), fun _ => pv (Ec.ofPt Q)), ((some 108), fun _ => pv (Ec.ofPt (Ec.Pt.add P Q))), ((some 109), fun _ => .bool true), ((some 110), fun _ => .bool true), ((some 111), fun _ => .bool true), ((some 112), fun _ => pv (Ec.ofPt (Ec.Pt.neg P))), ((some 113), fun _ => pv (Ec.ofPt P)), ((some 114), fun _ => pv (Ec.ofPt (Ec.Pt.neg P))), ((some 115), fun _ => .bool true), ((some 116), fun _ => .bool true), ((some 10), fun _ => .bool true)] (D2.Pre w.heap.size w (fun L g => [(true, (b6, Oc (pv (Ec.ofPt (Ec.Pt.neg P))) 26)), (true, (b5, Oc (pv (Ec.ofPt (Ec.Pt.add P Q))) 26)), (true, (b4, Oc (uv m) 24)), (true, (b3, Oc (uv n) 24)), (true, (b2, Oc (pv (Ec.ofPt Q)) 26)), (true, (b1, Oc (pv (Ec.ofPt P)) 26))]) (fun L g => True)) kr kr kr kr ⟨D2.StE.of H13.drew _ kr, trivial⟩ ⟨?_, ?_, ?_, ?_, ?_, ?_, ?_, ?_, ?_, ?_, ?_, ?_, ?_, ?_, ?_, ?_, ?_, ?_, ?_, trivial⟩ ?_
  · exact D2.gv_val (fun _ _ _ h => h) (fun g w => kr)
  · exact D2.gv_val (fun _ _ _ h => h) (fun g w => kr)
  · exact D2.gv_val (fun _ _ _ h => h) (fun g w => kr)
  · exact D2.gv_val (fun _ _ _ h => h) (fun g w => kr)
  · exact D2.gv_val (fun _ _ _ h => h) (fun g w => kr)
  · exact D2.gv_val (fun _ _ _ h => h) (fun g w => kr)
  · exact D2.gv_val (fun _ _ _ h => h) (fun g w => kr)
  · exact D2.gv_load 26 (.tmp 5) 5 (fun g => b1) (Value.cells (pv (Ec.ofPt P))) 26 (0, 0) (fun _ _ _ h => h) (fun g => kr) (fun g => kr) (fun L g hN => kr) kr
  · exact D2.gv_load 26 (.tmp 6) 4 (fun g => b2) (Value.cells (pv (Ec.ofPt Q))) 26 (0, 0) (fun _ _ _ h => h) (fun g => kr) (fun g => kr) (fun L g hN => kr) kr
  · exact D2.gv_load 26 (.tmp 13) 1 (fun g => b5) (Value.cells (pv (Ec.ofPt (Ec.Pt.add P Q)))) 26 (0, 0) (fun _ _ _ h => h) (fun g => kr) (fun g => kr) (fun L g hN => kr) kr
  · exact D2.gv_call 16 #[pv (Ec.ofPt P), pv (Ec.ofPt Q), pv (Ec.ofPt (Ec.Pt.add P Q))] (fun _ _ _ h => h) (adds_fn P Q hP hQ) (fun g w => kr)
  · exact D2.gv_val (fun _ _ _ h => h) (fun g w => kr)
  · exact D2.gv_val (fun _ _ _ h => h) (fun g w => kr)
  · exact D2.gv_load 26 (.tmp 15) 0 (fun g => b6) (Value.cells (pv (Ec.ofPt (Ec.Pt.neg P)))) 26 (0, 0) (fun _ _ _ h => h) (fun g => kr) (fun g => kr) (fun L g hN => kr) kr
  · exact D2.gv_load 26 (.tmp 5) 5 (fun g => b1) (Value.cells (pv (Ec.ofPt P))) 26 (0, 0) (fun _ _ _ h => h) (fun g => kr) (fun g => kr) (fun L g hN => kr) kr
  · exact D2.gv_call 15 #[pv (Ec.ofPt P)] (fun _ _ _ h => h) (turned_fn P hP) (fun g w => kr)
  · exact D2.gv_opE (fun _ _ _ h => h) _ (V' := .bool (decide ((Ec.ofPt (Ec.Pt.neg P)) = (Ec.ofPt (Ec.Pt.neg P))))) (fun g => kr) (fun g o w ho => eqP_run (x := (.tmp 112)) (y := (.tmp 114)) (Ec.ofPt (Ec.Pt.neg P)) (Ec.ofPt (Ec.Pt.neg P)) (Ec.ofPt_ok _) (Ec.ofPt_ok _) w ho kr kr) (by rw [decide_eq_true (p := (Ec.ofPt (Ec.Pt.neg P)) = (Ec.ofPt (Ec.Pt.neg P))) rfl] <;> rfl)
  · exact D2.gv_val (fun _ _ _ h => h) (fun g w => kr)
  · exact D2.gv_val (fun _ _ _ h => h) (fun g w => kr)
  intro L0 G14 w14 hall HL; clear H13
  have H14 : St w.heap.size w w14 [(b6, Oc (pv (Ec.ofPt (Ec.Pt.neg P))) 26), (b5, Oc (pv (Ec.ofPt (Ec.Pt.add P Q))) 26), (b4, Oc (uv m) 24), (b3, Oc (uv n) 24), (b2, Oc (pv (Ec.ofPt Q)) 26), (b1, Oc (pv (Ec.ofPt P)) 26)] := D2.StE.st HL.1
  clear HL hall
  refine g_ret kr ?_
  show ∃ vs, Res _ _ _ _ vs ∧ _
  refine ⟨[.bool true], (.tmp (.bool true) kr .nil), ?_, H14.below⟩
  rfl

set_option maxRecDepth 100000 in
set_option maxHeartbeats 2000000 in
theorem pAdds_2 (P : Ec.Pt Ec.Fp) (hP : P.On Ec.seven) (q : Ec.Pd) (hq : q.Ok) (h : Ec.onB q = false) (n m : Nat) (hn : n < big) (hm : m < big) : Fn Try.prog 3 #[pv (Ec.ofPt P), pv q, uv n, uv m, .bool true] (.bool true) := by
  refine Fn.intro (c := codeOf Try.f3) [.tmp 10] 117 Try.func3 kr kr kr fun w => ?_
  have H0 := St.start w
  refine g_sreg [0, 1, 2, 3, 4] kr kr ?_
  refine s_box H0 (some 5) 26 (.tmp 0) (pv (Ec.ofPt P)) kr kr kr ?_
  intro b1 w1 H1; clear H0
  refine s_box H1 (some 6) 26 (.tmp 1) (pv q) kr kr kr ?_
  intro b2 w2 H2; clear H1
  refine s_box H2 (some 7) 24 (.tmp 2) (uv n) kr kr kr ?_
  intro b3 w3 H3; clear H2
  refine s_box H3 (some 8) 24 (.tmp 3) (uv m) kr kr kr ?_
  intro b4 w4 H4; clear H3
  refine s_val (some 10) (.bool false) (fun w => kr) kr ?_
  refine s_nil ?_
  refine g_seq kr ?_
  refine g_sreg [0, 1] kr kr ?_
  refine s_val (some 17) (.bool true) (fun w => kr) kr ?_
  refine s_val (some 18) (.bool false) (fun w => kr) kr ?_
  refine s_nil ?_
  refine g_cond_f kr kr ?_
  refine g_skip kr ?_
  show WP _ _ _ _ _ _
  refine g_seq kr ?_
  refine D2.g_sdraw [0, 1, 2, 3, 4, 5, 6, 7, 8, 9, 10, 11, 12, 13, 14, 15] [((some 33), fun _ => pv (Ec.ofPt P)), ((some 34), fun _ => .bool true), ((some 35), fun _ => pv (Ec.ofPt P)), ((some 36), fun _ => .bool true), ((some 37), fun _ => .bool false), ((some 38), fun _ => .bool false), ((some 39), fun _ => pv q), ((some 40), fun _ => .bool false), ((some 41), fun _ => pv q), ((some 42), fun _ => .bool false), ((some 43), fun _ => .bool false), ((some 44), fun _ => .bool false), ((some 45), fun _ => .bool false), ((some 46), fun _ => .bool true), ((some 47), fun _ => .bool false), ((some 48), fun _ => .bool false)] (D2.Pre w.heap.size w (fun L g => [(true, (b4, Oc (uv m) 24)), (true, (b3, Oc (uv n) 24)), (true, (b2, Oc (pv q) 26)), (true, (b1, Oc (pv (Ec.ofPt P)) 26))]) (fun L g => True)) kr kr kr kr ⟨D2.StE.of H4.drew _ kr, trivial⟩ ⟨?_, ?_, ?_, ?_, ?_, ?_, ?_, ?_, ?_, ?_, ?_, ?_, ?_, ?_, ?_, ?_, trivial⟩ ?_
  · exact D2.gv_load 26 (.tmp 5) 3 (fun g => b1) (Value.cells (pv (Ec.ofPt P))) 26 (0, 0) (fun _ _ _ h => h) (fun g => kr) (fun g => kr) (fun L g hN => kr) kr
  · exact D2.gv_call 10 #[pv (Ec.ofPt P)] (fun _ _ _ h => h) (on_yes (Ec.ofPt P) (Ec.ofPt_ok _) (Ec.onB_pt hP)) (fun g w => kr)
  · exact D2.gv_load 26 (.tmp 5) 3 (fun g => b1) (Value.cells (pv (Ec.ofPt P))) 26 (0, 0) (fun _ _ _ h => h) (fun g => kr) (fun g => kr) (fun L g hN => kr) kr
  · exact D2.gv_call 11 #[pv (Ec.ofPt P)] (fun _ _ _ h => h) (ron_yes (Ec.ofPt P) (Ec.ofPt_ok _) (Ec.onB_pt hP)) (fun g w => kr)
  · exact D2.gv_val (fun _ _ _ h => h) (fun g w => kr)
  · exact D2.gv_val (fun _ _ _ h => h) (fun g w => kr)
  · exact D2.gv_load 26 (.tmp 6) 2 (fun g => b2) (Value.cells (pv q)) 26 (0, 0) (fun _ _ _ h => h) (fun g => kr) (fun g => kr) (fun L g hN => kr) kr
  · exact D2.gv_call 10 #[pv q] (fun _ _ _ h => h) (on_no q hq h) (fun g w => kr)
  · exact D2.gv_load 26 (.tmp 6) 2 (fun g => b2) (Value.cells (pv q)) 26 (0, 0) (fun _ _ _ h => h) (fun g => kr) (fun g => kr) (fun L g hN => kr) kr
  · exact D2.gv_call 11 #[pv q] (fun _ _ _ h => h) (ron_no q hq h) (fun g w => kr)
  · exact D2.gv_val (fun _ _ _ h => h) (fun g w => kr)
  · exact D2.gv_val (fun _ _ _ h => h) (fun g w => kr)
  · exact D2.gv_val (fun _ _ _ h => h) (fun g w => kr)
  · exact D2.gv_call 12 #[] (fun _ _ _ h => h) alive06_fn (fun g w => kr)
  · exact D2.gv_val (fun _ _ _ h => h) (fun g w => kr)
  · exact D2.gv_val (fun _ _ _ h => h) (fun g w => kr)
  intro L0 G5 w5 hall HL; clear H4
  have H5 : St w.heap.size w w5 [(b4, Oc (uv m) 24), (b3, Oc (uv n) 24), (b2, Oc (pv q) 26), (b1, Oc (pv (Ec.ofPt P)) 26)] := D2.StE.st HL.1
  clear HL hall
  refine g_cond_f kr kr ?_
  refine g_skip kr ?_
  show WP _ _ _ _ _ _
  refine g_sreg [0, 1, 2, 3, 4, 5, 6, 7, 8] kr kr ?_
  refine s_load H5 (some 50) 26 (.tmp 5) 3 b1 (Value.cells (pv (Ec.ofPt P))) 26 (0, 0) kr kr kr kr kr ?_
  refine s_load H5 (some 51) 26 (.tmp 6) 2 b2 (Value.cells (pv q)) 26 (0, 0) kr kr kr kr kr ?_
  refine s_call H5 (some 52) 13 #[pv (Ec.ofPt P), pv q] (.tuple #[pv (Ec.Pd.mk 0 0 false), .int .i64 1]) (addNo2_fn P hP q hq h) (fun w => kr) kr ?_
  intro w6 H6; clear H5
  refine s_val (some 49) (.tuple #[pv (Ec.Pd.mk 0 0 false), .int .i64 1]) (fun w => kr) kr ?_
  refine s_val (some 53) (pv (Ec.Pd.mk 0 0 false)) (fun w => kr) kr ?_
  refine s_val (some 54) (.int .i64 1) (fun w => kr) kr ?_
  refine s_alloc H6 (some 13) 26 (.agg Z9) kr kr kr ?_
  intro b5 w7 H7; clear H6
  refine s_store H7 0 [(b5, Oc (pv (Ec.Pd.mk 0 0 false)) 26), (b4, Oc (uv m) 24), (b3, Oc (uv n) 24), (b2, Oc (pv q) 26), (b1, Oc (pv (Ec.ofPt P)) 26)] 26 (.tmp 13) (.tmp 53) b5 (0) Z9 (Value.cells (pv (Ec.Pd.mk 0 0 false))) 26 (pv (Ec.Pd.mk 0 0 false)) kr kr kr kr kr kr (of_decide_eq_true kr) kr kr ?_
  intro w8 H8; clear H7
  refine s_val (some 14) (.int .i64 1) (fun w => kr) kr ?_
  refine s_nil ?_
  refine g_sreg [0, 1, 2, 3, 4, 5, 6, 7] kr kr ?_
  refine s_load H8 (some 56) 26 (.tmp 5) 4 b1 (Value.cells (pv (Ec.ofPt P))) 26 (0, 0) kr kr kr kr kr ?_
  refine s_call H8 (some 57) 14 #[pv (Ec.ofPt P)] (.tuple #[pv (Ec.ofPt (Ec.Pt.neg P)), .int .i64 0]) (turn_fn P hP) (fun w => kr) kr ?_
  intro w9 H9; clear H8
  refine s_val (some 55) (.tuple #[pv (Ec.ofPt (Ec.Pt.neg P)), .int .i64 0]) (fun w => kr) kr ?_
  refine s_val (some 58) (pv (Ec.ofPt (Ec.Pt.neg P))) (fun w => kr) kr ?_
  refine s_val (some 59) (.int .i64 0) (fun w => kr) kr ?_
  refine s_alloc H9 (some 15) 26 (.agg Z9) kr kr kr ?_
  intro b6 w10 H10; clear H9
  refine s_store H10 0 [(b6, Oc (pv (Ec.ofPt (Ec.Pt.neg P))) 26), (b5, Oc (pv (Ec.Pd.mk 0 0 false)) 26), (b4, Oc (uv m) 24), (b3, Oc (uv n) 24), (b2, Oc (pv q) 26), (b1, Oc (pv (Ec.ofPt P)) 26)] 26 (.tmp 15) (.tmp 58) b6 (0) Z9 (Value.cells (pv (Ec.ofPt (Ec.Pt.neg P)))) 26 (pv (Ec.ofPt (Ec.Pt.neg P))) kr kr kr kr kr kr (of_decide_eq_true kr) kr kr ?_
  intro w11 H11; clear H10
  refine s_val (some 16) (.int .i64 0) (fun w => kr) kr ?_
  refine s_nil ?_
  refine g_seq kr ?_
  refine g_sreg [0, 1, 2] kr kr ?_
  refine s_load H11 (some 60) 26 (.tmp 5) 5 b1 (Value.cells (pv (Ec.ofPt P))) 26 (0, 0) kr kr kr kr kr ?_
  refine s_call H11 (some 61) 11 #[pv (Ec.ofPt P)] (.bool true) (ron_yes (Ec.ofPt P) (Ec.ofPt_ok _) (Ec.onB_pt hP)) (fun w => kr) kr ?_
  intro w12 H12; clear H11
  refine s_val (some 62) (.bool false) (fun w => kr) kr ?_
  refine s_nil ?_
  refine g_cond_f kr kr ?_
  refine g_skip kr ?_
  show WP _ _ _ _ _ _
  refine g_seq kr ?_
  refine g_sreg [0, 1, 2] kr kr ?_
  refine s_load H12 (some 79) 26 (.tmp 6) 4 b2 (Value.cells (pv q)) 26 (0, 0) kr kr kr kr kr ?_
  refine s_call H12 (some 80) 11 #[pv q] (.bool false) (ron_no q hq h) (fun w => kr) kr ?_
  intro w13 H13; clear H12
  refine s_val (some 81) (.bool true) (fun w => kr) kr ?_
  refine s_nil ?_
  refine g_cond_t kr kr ?_
  refine D2.g_sdraw [0, 1, 2, 3, 4, 5, 6, 7, 8, 9, 10, 11, 12, 13, 14, 15, 16, 17] [((some 82), fun _ => .int .i64 1), ((some 83), fun _ => .bool true), ((some 84), fun _ => .bool true), ((some 85), fun _ => pv (Ec.Pd.mk 0 0 false)), ((some 86), fun _ => pv (Ec.Pd.mk 0 0 false)), ((some 87), fun _ => .bool true), ((some 88), fun _ => .bool true), ((some 89), fun _ => .bool true), ((some 90), fun _ => .int .i64 0), ((some 91), fun _ => .bool true), ((some 92), fun _ => .bool true), ((some 93), fun _ => .bool true), ((some 94), fun _ => pv (Ec.ofPt (Ec.Pt.neg P))), ((some 95), fun _ => pv (Ec.ofPt P)), ((some 96), fun _ => pv (Ec.ofPt (Ec.Pt.neg P))), ((some 97), fun _ => .bool true), ((some 98), fun _ => .bool true), ((some 10), fun _ => .bool true)] (D2.Pre w.heap.size w (fun L g => [(true, (b6, Oc (pv (Ec.ofPt (Ec.Pt.neg P))) 26)), (true, (b5, Oc (pv (Ec.Pd.mk 0 0 false)) 26)), (true, (b4, Oc (uv m) 24)), (true, (b3, Oc (uv n) 24)), (true, (b2, Oc (pv q) 26)), (true, (b1, Oc (pv (Ec.ofPt P)) 26))]) (fun L g => True)) kr kr kr kr ⟨D2.StE.of H13.drew _ kr, trivial⟩ ⟨?_, ?_, ?_, ?_, ?_, ?_, ?_, ?_, ?_, ?_, ?_, ?_, ?_, ?_, ?_, ?_, ?_, ?_, trivial⟩ ?_
  · exact D2.gv_val (fun _ _ _ h => h) (fun g w => kr)
  · exact D2.gv_val (fun _ _ _ h => h) (fun g w => kr)
  · exact D2.gv_val (fun _ _ _ h => h) (fun g w => kr)
  · exact D2.gv_load 26 (.tmp 13) 1 (fun g => b5) (Value.cells (pv (Ec.Pd.mk 0 0 false))) 26 (0, 0) (fun _ _ _ h => h) (fun g => kr) (fun g => kr) (fun L g hN => kr) kr
  · exact D2.gv_val (fun _ _ _ h => h) (fun g w => kr)
  · exact D2.gv_opE (fun _ _ _ h => h) _ (V' := .bool (decide ((Ec.Pd.mk 0 0 false) = (Ec.Pd.mk 0 0 false)))) (fun g => kr) (fun g o w ho => eqP_run (x := (.tmp 85)) (y := (.tmp 86)) (Ec.Pd.mk 0 0 false) (Ec.Pd.mk 0 0 false) (Ec.Pd.Ok.mk (p := Ec.Pd.mk 0 0 false) Ec.big_0 Ec.big_0) (Ec.Pd.Ok.mk (p := Ec.Pd.mk 0 0 false) Ec.big_0 Ec.big_0) w ho kr kr) (by rw [decide_eq_true (p := (Ec.Pd.mk 0 0 false) = (Ec.Pd.mk 0 0 false)) rfl] <;> rfl)
  · exact D2.gv_val (fun _ _ _ h => h) (fun g w => kr)
  · exact D2.gv_val (fun _ _ _ h => h) (fun g w => kr)
  · exact D2.gv_val (fun _ _ _ h => h) (fun g w => kr)
  · exact D2.gv_val (fun _ _ _ h => h) (fun g w => kr)
  · exact D2.gv_val (fun _ _ _ h => h) (fun g w => kr)
  · exact D2.gv_val (fun _ _ _ h => h) (fun g w => kr)
  · exact D2.gv_load 26 (.tmp 15) 0 (fun g => b6) (Value.cells (pv (Ec.ofPt (Ec.Pt.neg P)))) 26 (0, 0) (fun _ _ _ h => h) (fun g => kr) (fun g => kr) (fun L g hN => kr) kr
  · exact D2.gv_load 26 (.tmp 5) 5 (fun g => b1) (Value.cells (pv (Ec.ofPt P))) 26 (0, 0) (fun _ _ _ h => h) (fun g => kr) (fun g => kr) (fun L g hN => kr) kr
  · exact D2.gv_call 15 #[pv (Ec.ofPt P)] (fun _ _ _ h => h) (turned_fn P hP) (fun g w => kr)
  · exact D2.gv_opE (fun _ _ _ h => h) _ (V' := .bool (decide ((Ec.ofPt (Ec.Pt.neg P)) = (Ec.ofPt (Ec.Pt.neg P))))) (fun g => kr) (fun g o w ho => eqP_run (x := (.tmp 94)) (y := (.tmp 96)) (Ec.ofPt (Ec.Pt.neg P)) (Ec.ofPt (Ec.Pt.neg P)) (Ec.ofPt_ok _) (Ec.ofPt_ok _) w ho kr kr) (by rw [decide_eq_true (p := (Ec.ofPt (Ec.Pt.neg P)) = (Ec.ofPt (Ec.Pt.neg P))) rfl] <;> rfl)
  · exact D2.gv_val (fun _ _ _ h => h) (fun g w => kr)
  · exact D2.gv_val (fun _ _ _ h => h) (fun g w => kr)
  intro L0 G14 w14 hall HL; clear H13
  have H14 : St w.heap.size w w14 [(b6, Oc (pv (Ec.ofPt (Ec.Pt.neg P))) 26), (b5, Oc (pv (Ec.Pd.mk 0 0 false)) 26), (b4, Oc (uv m) 24), (b3, Oc (uv n) 24), (b2, Oc (pv q) 26), (b1, Oc (pv (Ec.ofPt P)) 26)] := D2.StE.st HL.1
  clear HL hall
  refine g_ret kr ?_
  show ∃ vs, Res _ _ _ _ vs ∧ _
  refine ⟨[.bool true], (.tmp (.bool true) kr .nil), ?_, H14.below⟩
  rfl

set_option maxRecDepth 100000 in
set_option maxHeartbeats 2000000 in
theorem pAdds_3 (p q : Ec.Pd) (hp : p.Ok) (hq : q.Ok) (h : Ec.onB p = false) (h2 : Ec.onB q = true) (n m : Nat) (hn : n < big) (hm : m < big) : Fn Try.prog 3 #[pv p, pv q, uv n, uv m, .bool true] (.bool true) := by
  refine Fn.intro (c := codeOf Try.f3) [.tmp 10] 117 Try.func3 kr kr kr fun w => ?_
  have H0 := St.start w
  refine g_sreg [0, 1, 2, 3, 4] kr kr ?_
  refine s_box H0 (some 5) 26 (.tmp 0) (pv p) kr kr kr ?_
  intro b1 w1 H1; clear H0
  refine s_box H1 (some 6) 26 (.tmp 1) (pv q) kr kr kr ?_
  intro b2 w2 H2; clear H1
  refine s_box H2 (some 7) 24 (.tmp 2) (uv n) kr kr kr ?_
  intro b3 w3 H3; clear H2
  refine s_box H3 (some 8) 24 (.tmp 3) (uv m) kr kr kr ?_
  intro b4 w4 H4; clear H3
  refine s_val (some 10) (.bool false) (fun w => kr) kr ?_
  refine s_nil ?_
  refine g_seq kr ?_
  refine g_sreg [0, 1] kr kr ?_
  refine s_val (some 17) (.bool true) (fun w => kr) kr ?_
  refine s_val (some 18) (.bool false) (fun w => kr) kr ?_
  refine s_nil ?_
  refine g_cond_f kr kr ?_
  refine g_skip kr ?_
  show WP _ _ _ _ _ _
  refine g_seq kr ?_
  refine D2.g_sdraw [0, 1, 2, 3, 4, 5, 6, 7, 8, 9, 10, 11, 12, 13, 14, 15] [((some 33), fun _ => pv p), ((some 34), fun _ => .bool false), ((some 35), fun _ => pv p), ((some 36), fun _ => .bool false), ((some 37), fun _ => .bool false), ((some 38), fun _ => .bool false), ((some 39), fun _ => pv q), ((some 40), fun _ => .bool true), ((some 41), fun _ => pv q), ((some 42), fun _ => .bool true), ((some 43), fun _ => .bool false), ((some 44), fun _ => .bool false), ((some 45), fun _ => .bool false), ((some 46), fun _ => .bool true), ((some 47), fun _ => .bool false), ((some 48), fun _ => .bool false)] (D2.Pre w.heap.size w (fun L g => [(true, (b4, Oc (uv m) 24)), (true, (b3, Oc (uv n) 24)), (true, (b2, Oc (pv q) 26)), (true, (b1, Oc (pv p) 26))]) (fun L g => True)) kr kr kr kr ⟨D2.StE.of H4.drew _ kr, trivial⟩ ⟨?_, ?_, ?_, ?_, ?_, ?_, ?_, ?_, ?_, ?_, ?_, ?_, ?_, ?_, ?_, ?_, trivial⟩ ?_
  · exact D2.gv_load 26 (.tmp 5) 3 (fun g => b1) (Value.cells (pv p)) 26 (0, 0) (fun _ _ _ h => h) (fun g => kr) (fun g => kr) (fun L g hN => kr) kr
  · exact D2.gv_call 10 #[pv p] (fun _ _ _ h => h) (on_no p hp h) (fun g w => kr)
  · exact D2.gv_load 26 (.tmp 5) 3 (fun g => b1) (Value.cells (pv p)) 26 (0, 0) (fun _ _ _ h => h) (fun g => kr) (fun g => kr) (fun L g hN => kr) kr
  · exact D2.gv_call 11 #[pv p] (fun _ _ _ h => h) (ron_no p hp h) (fun g w => kr)
  · exact D2.gv_val (fun _ _ _ h => h) (fun g w => kr)
  · exact D2.gv_val (fun _ _ _ h => h) (fun g w => kr)
  · exact D2.gv_load 26 (.tmp 6) 2 (fun g => b2) (Value.cells (pv q)) 26 (0, 0) (fun _ _ _ h => h) (fun g => kr) (fun g => kr) (fun L g hN => kr) kr
  · exact D2.gv_call 10 #[pv q] (fun _ _ _ h => h) (on_yes q hq h2) (fun g w => kr)
  · exact D2.gv_load 26 (.tmp 6) 2 (fun g => b2) (Value.cells (pv q)) 26 (0, 0) (fun _ _ _ h => h) (fun g => kr) (fun g => kr) (fun L g hN => kr) kr
  · exact D2.gv_call 11 #[pv q] (fun _ _ _ h => h) (ron_yes q hq h2) (fun g w => kr)
  · exact D2.gv_val (fun _ _ _ h => h) (fun g w => kr)
  · exact D2.gv_val (fun _ _ _ h => h) (fun g w => kr)
  · exact D2.gv_val (fun _ _ _ h => h) (fun g w => kr)
  · exact D2.gv_call 12 #[] (fun _ _ _ h => h) alive06_fn (fun g w => kr)
  · exact D2.gv_val (fun _ _ _ h => h) (fun g w => kr)
  · exact D2.gv_val (fun _ _ _ h => h) (fun g w => kr)
  intro L0 G5 w5 hall HL; clear H4
  have H5 : St w.heap.size w w5 [(b4, Oc (uv m) 24), (b3, Oc (uv n) 24), (b2, Oc (pv q) 26), (b1, Oc (pv p) 26)] := D2.StE.st HL.1
  clear HL hall
  refine g_cond_f kr kr ?_
  refine g_skip kr ?_
  show WP _ _ _ _ _ _
  refine g_sreg [0, 1, 2, 3, 4, 5, 6, 7, 8] kr kr ?_
  refine s_load H5 (some 50) 26 (.tmp 5) 3 b1 (Value.cells (pv p)) 26 (0, 0) kr kr kr kr kr ?_
  refine s_load H5 (some 51) 26 (.tmp 6) 2 b2 (Value.cells (pv q)) 26 (0, 0) kr kr kr kr kr ?_
  refine s_call H5 (some 52) 13 #[pv p, pv q] (.tuple #[pv (Ec.Pd.mk 0 0 false), .int .i64 1]) (addNo1_fn p hp h q hq) (fun w => kr) kr ?_
  intro w6 H6; clear H5
  refine s_val (some 49) (.tuple #[pv (Ec.Pd.mk 0 0 false), .int .i64 1]) (fun w => kr) kr ?_
  refine s_val (some 53) (pv (Ec.Pd.mk 0 0 false)) (fun w => kr) kr ?_
  refine s_val (some 54) (.int .i64 1) (fun w => kr) kr ?_
  refine s_alloc H6 (some 13) 26 (.agg Z9) kr kr kr ?_
  intro b5 w7 H7; clear H6
  refine s_store H7 0 [(b5, Oc (pv (Ec.Pd.mk 0 0 false)) 26), (b4, Oc (uv m) 24), (b3, Oc (uv n) 24), (b2, Oc (pv q) 26), (b1, Oc (pv p) 26)] 26 (.tmp 13) (.tmp 53) b5 (0) Z9 (Value.cells (pv (Ec.Pd.mk 0 0 false))) 26 (pv (Ec.Pd.mk 0 0 false)) kr kr kr kr kr kr (of_decide_eq_true kr) kr kr ?_
  intro w8 H8; clear H7
  refine s_val (some 14) (.int .i64 1) (fun w => kr) kr ?_
  refine s_nil ?_
  refine g_sreg [0, 1, 2, 3, 4, 5, 6, 7] kr kr ?_
  refine s_load H8 (some 56) 26 (.tmp 5) 4 b1 (Value.cells (pv p)) 26 (0, 0) kr kr kr kr kr ?_
  refine s_call H8 (some 57) 14 #[pv p] (.tuple #[pv (Ec.Pd.mk 0 0 false), .int .i64 1]) (turnNo_fn p hp h) (fun w => kr) kr ?_
  intro w9 H9; clear H8
  refine s_val (some 55) (.tuple #[pv (Ec.Pd.mk 0 0 false), .int .i64 1]) (fun w => kr) kr ?_
  refine s_val (some 58) (pv (Ec.Pd.mk 0 0 false)) (fun w => kr) kr ?_
  refine s_val (some 59) (.int .i64 1) (fun w => kr) kr ?_
  refine s_alloc H9 (some 15) 26 (.agg Z9) kr kr kr ?_
  intro b6 w10 H10; clear H9
  refine s_store H10 0 [(b6, Oc (pv (Ec.Pd.mk 0 0 false)) 26), (b5, Oc (pv (Ec.Pd.mk 0 0 false)) 26), (b4, Oc (uv m) 24), (b3, Oc (uv n) 24), (b2, Oc (pv q) 26), (b1, Oc (pv p) 26)] 26 (.tmp 15) (.tmp 58) b6 (0) Z9 (Value.cells (pv (Ec.Pd.mk 0 0 false))) 26 (pv (Ec.Pd.mk 0 0 false)) kr kr kr kr kr kr (of_decide_eq_true kr) kr kr ?_
  intro w11 H11; clear H10
  refine s_val (some 16) (.int .i64 1) (fun w => kr) kr ?_
  refine s_nil ?_
  refine g_seq kr ?_
  refine g_sreg [0, 1, 2] kr kr ?_
  refine s_load H11 (some 60) 26 (.tmp 5) 5 b1 (Value.cells (pv p)) 26 (0, 0) kr kr kr kr kr ?_
  refine s_call H11 (some 61) 11 #[pv p] (.bool false) (ron_no p hp h) (fun w => kr) kr ?_
  intro w12 H12; clear H11
  refine s_val (some 62) (.bool true) (fun w => kr) kr ?_
  refine s_nil ?_
  refine g_cond_t kr kr ?_
  refine g_sreg [0, 1, 2, 3, 4, 5, 6, 7, 8, 9, 10, 11, 12, 13, 14, 15, 16] kr kr ?_
  refine s_val (some 63) (.int .i64 1) (fun w => kr) kr ?_
  refine s_val (some 64) (.bool true) (fun w => kr) kr ?_
  refine s_val (some 65) (.bool true) (fun w => kr) kr ?_
  refine s_val (some 66) (.int .i64 1) (fun w => kr) kr ?_
  refine s_val (some 67) (.bool true) (fun w => kr) kr ?_
  refine s_val (some 68) (.bool true) (fun w => kr) kr ?_
  refine s_val (some 69) (.bool true) (fun w => kr) kr ?_
  refine s_load H12 (some 70) 26 (.tmp 13) 1 b5 (Value.cells (pv (Ec.Pd.mk 0 0 false))) 26 (0, 0) kr kr kr kr kr ?_
  refine s_val (some 71) (pv (Ec.Pd.mk 0 0 false)) (fun w => kr) kr ?_
  refine s_opE (some 72) _ (.bool (decide ((Ec.Pd.mk 0 0 false) = (Ec.Pd.mk 0 0 false)))) (.bool true) kr (fun o w ho => eqP_run (x := (.tmp 70)) (y := (.tmp 71)) (Ec.Pd.mk 0 0 false) (Ec.Pd.mk 0 0 false) (Ec.Pd.Ok.mk (p := Ec.Pd.mk 0 0 false) Ec.big_0 Ec.big_0) (Ec.Pd.Ok.mk (p := Ec.Pd.mk 0 0 false) Ec.big_0 Ec.big_0) w ho kr kr) (by rw [decide_eq_true (p := (Ec.Pd.mk 0 0 false) = (Ec.Pd.mk 0 0 false)) rfl] <;> rfl) kr ?_
  refine s_val (some 73) (.bool true) (fun w => kr) kr ?_
  refine s_val (some 74) (.bool true) (fun w => kr) kr ?_
  refine s_load H12 (some 75) 26 (.tmp 15) 0 b6 (Value.cells (pv (Ec.Pd.mk 0 0 false))) 26 (0, 0) kr kr kr kr kr ?_
  refine s_val (some 76) (pv (Ec.Pd.mk 0 0 false)) (fun w => kr) kr ?_
  refine s_opE (some 77) _ (.bool (decide ((Ec.Pd.mk 0 0 false) = (Ec.Pd.mk 0 0 false)))) (.bool true) kr (fun o w ho => eqP_run (x := (.tmp 75)) (y := (.tmp 76)) (Ec.Pd.mk 0 0 false) (Ec.Pd.mk 0 0 false) (Ec.Pd.Ok.mk (p := Ec.Pd.mk 0 0 false) Ec.big_0 Ec.big_0) (Ec.Pd.Ok.mk (p := Ec.Pd.mk 0 0 false) Ec.big_0 Ec.big_0) w ho kr kr) (by rw [decide_eq_true (p := (Ec.Pd.mk 0 0 false) = (Ec.Pd.mk 0 0 false)) rfl] <;> rfl) kr ?_
  refine s_val (some 78) (.bool true) (fun w => kr) kr ?_
  refine s_val (some 10) (.bool true) (fun w => kr) kr ?_
  refine s_nil ?_
  refine g_ret kr ?_
  show ∃ vs, Res _ _ _ _ vs ∧ _
  refine ⟨[.bool true], (.tmp (.bool true) kr .nil), ?_, H12.below⟩
  rfl

set_option maxRecDepth 100000 in
set_option maxHeartbeats 2000000 in
theorem pAdds_4 (p q : Ec.Pd) (hp : p.Ok) (hq : q.Ok) (h : Ec.onB p = false) (h2 : Ec.onB q = false) (n m : Nat) (hn : n < big) (hm : m < big) : Fn Try.prog 3 #[pv p, pv q, uv n, uv m, .bool true] (.bool true) := by
  refine Fn.intro (c := codeOf Try.f3) [.tmp 10] 117 Try.func3 kr kr kr fun w => ?_
  have H0 := St.start w
  refine g_sreg [0, 1, 2, 3, 4] kr kr ?_
  refine s_box H0 (some 5) 26 (.tmp 0) (pv p) kr kr kr ?_
  intro b1 w1 H1; clear H0
  refine s_box H1 (some 6) 26 (.tmp 1) (pv q) kr kr kr ?_
  intro b2 w2 H2; clear H1
  refine s_box H2 (some 7) 24 (.tmp 2) (uv n) kr kr kr ?_
  intro b3 w3 H3; clear H2
  refine s_box H3 (some 8) 24 (.tmp 3) (uv m) kr kr kr ?_
  intro b4 w4 H4; clear H3
  refine s_val (some 10) (.bool false) (fun w => kr) kr ?_
  refine s_nil ?_
  refine g_seq kr ?_
  refine g_sreg [0, 1] kr kr ?_
  refine s_val (some 17) (.bool true) (fun w => kr) kr ?_
  refine s_val (some 18) (.bool false) (fun w => kr) kr ?_
  refine s_nil ?_
  refine g_cond_f kr kr ?_
  refine g_skip kr ?_
  show WP _ _ _ _ _ _
  refine g_seq kr ?_
  refine D2.g_sdraw [0, 1, 2, 3, 4, 5, 6, 7, 8, 9, 10, 11, 12, 13, 14, 15] [((some 33), fun _ => pv p), ((some 34), fun _ => .bool false), ((some 35), fun _ => pv p), ((some 36), fun _ => .bool false), ((some 37), fun _ => .bool false), ((some 38), fun _ => .bool false), ((some 39), fun _ => pv q), ((some 40), fun _ => .bool false), ((some 41), fun _ => pv q), ((some 42), fun _ => .bool false), ((some 43), fun _ => .bool false), ((some 44), fun _ => .bool false), ((some 45), fun _ => .bool false), ((some 46), fun _ => .bool true), ((some 47), fun _ => .bool false), ((some 48), fun _ => .bool false)] (D2.Pre w.heap.size w (fun L g => [(true, (b4, Oc (uv m) 24)), (true, (b3, Oc (uv n) 24)), (true, (b2, Oc (pv q) 26)), (true, (b1, Oc (pv p) 26))]) (fun L g => True)) kr kr kr kr ⟨D2.StE.of H4.drew _ kr, trivial⟩ ⟨?_, ?_, ?_, ?_, ?_, ?_, ?_, ?_, ?_, ?_, ?_, ?_, ?_, ?_, ?_, ?_, trivial⟩ ?_
  · exact D2.gv_load 26 (.tmp 5) 3 (fun g => b1) (Value.cells (pv p)) 26 (0, 0) (fun _ _ _ h => h) (fun g => kr) (fun g => kr) (fun L g hN => kr) kr
  · exact D2.gv_call 10 #[pv p] (fun _ _ _ h => h) (on_no p hp h) (fun g w => kr)
  · exact D2.gv_load 26 (.tmp 5) 3 (fun g => b1) (Value.cells (pv p)) 26 (0, 0) (fun _ _ _ h => h) (fun g => kr) (fun g => kr) (fun L g hN => kr) kr
  · exact D2.gv_call 11 #[pv p] (fun _ _ _ h => h) (ron_no p hp h) (fun g w => kr)
  · exact D2.gv_val (fun _ _ _ h => h) (fun g w => kr)
  · exact D2.gv_val (fun _ _ _ h => h) (fun g w => kr)
  · exact D2.gv_load 26 (.tmp 6) 2 (fun g => b2) (Value.cells (pv q)) 26 (0, 0) (fun _ _ _ h => h) (fun g => kr) (fun g => kr) (fun L g hN => kr) kr
  · exact D2.gv_call 10 #[pv q] (fun _ _ _ h => h) (on_no q hq h2) (fun g w => kr)
  · exact D2.gv_load 26 (.tmp 6) 2 (fun g => b2) (Value.cells (pv q)) 26 (0, 0) (fun _ _ _ h => h) (fun g => kr) (fun g => kr) (fun L g hN => kr) kr
  · exact D2.gv_call 11 #[pv q] (fun _ _ _ h => h) (ron_no q hq h2) (fun g w => kr)
  · exact D2.gv_val (fun _ _ _ h => h) (fun g w => kr)
  · exact D2.gv_val (fun _ _ _ h => h) (fun g w => kr)
  · exact D2.gv_val (fun _ _ _ h => h) (fun g w => kr)
  · exact D2.gv_call 12 #[] (fun _ _ _ h => h) alive06_fn (fun g w => kr)
  · exact D2.gv_val (fun _ _ _ h => h) (fun g w => kr)
  · exact D2.gv_val (fun _ _ _ h => h) (fun g w => kr)
  intro L0 G5 w5 hall HL; clear H4
  have H5 : St w.heap.size w w5 [(b4, Oc (uv m) 24), (b3, Oc (uv n) 24), (b2, Oc (pv q) 26), (b1, Oc (pv p) 26)] := D2.StE.st HL.1
  clear HL hall
  refine g_cond_f kr kr ?_
  refine g_skip kr ?_
  show WP _ _ _ _ _ _
  refine g_sreg [0, 1, 2, 3, 4, 5, 6, 7, 8] kr kr ?_
  refine s_load H5 (some 50) 26 (.tmp 5) 3 b1 (Value.cells (pv p)) 26 (0, 0) kr kr kr kr kr ?_
  refine s_load H5 (some 51) 26 (.tmp 6) 2 b2 (Value.cells (pv q)) 26 (0, 0) kr kr kr kr kr ?_
  refine s_call H5 (some 52) 13 #[pv p, pv q] (.tuple #[pv (Ec.Pd.mk 0 0 false), .int .i64 1]) (addNo1_fn p hp h q hq) (fun w => kr) kr ?_
  intro w6 H6; clear H5
  refine s_val (some 49) (.tuple #[pv (Ec.Pd.mk 0 0 false), .int .i64 1]) (fun w => kr) kr ?_
  refine s_val (some 53) (pv (Ec.Pd.mk 0 0 false)) (fun w => kr) kr ?_
  refine s_val (some 54) (.int .i64 1) (fun w => kr) kr ?_
  refine s_alloc H6 (some 13) 26 (.agg Z9) kr kr kr ?_
  intro b5 w7 H7; clear H6
  refine s_store H7 0 [(b5, Oc (pv (Ec.Pd.mk 0 0 false)) 26), (b4, Oc (uv m) 24), (b3, Oc (uv n) 24), (b2, Oc (pv q) 26), (b1, Oc (pv p) 26)] 26 (.tmp 13) (.tmp 53) b5 (0) Z9 (Value.cells (pv (Ec.Pd.mk 0 0 false))) 26 (pv (Ec.Pd.mk 0 0 false)) kr kr kr kr kr kr (of_decide_eq_true kr) kr kr ?_
  intro w8 H8; clear H7
  refine s_val (some 14) (.int .i64 1) (fun w => kr) kr ?_
  refine s_nil ?_
  refine g_sreg [0, 1, 2, 3, 4, 5, 6, 7] kr kr ?_
  refine s_load H8 (some 56) 26 (.tmp 5) 4 b1 (Value.cells (pv p)) 26 (0, 0) kr kr kr kr kr ?_
  refine s_call H8 (some 57) 14 #[pv p] (.tuple #[pv (Ec.Pd.mk 0 0 false), .int .i64 1]) (turnNo_fn p hp h) (fun w => kr) kr ?_
  intro w9 H9; clear H8
  refine s_val (some 55) (.tuple #[pv (Ec.Pd.mk 0 0 false), .int .i64 1]) (fun w => kr) kr ?_
  refine s_val (some 58) (pv (Ec.Pd.mk 0 0 false)) (fun w => kr) kr ?_
  refine s_val (some 59) (.int .i64 1) (fun w => kr) kr ?_
  refine s_alloc H9 (some 15) 26 (.agg Z9) kr kr kr ?_
  intro b6 w10 H10; clear H9
  refine s_store H10 0 [(b6, Oc (pv (Ec.Pd.mk 0 0 false)) 26), (b5, Oc (pv (Ec.Pd.mk 0 0 false)) 26), (b4, Oc (uv m) 24), (b3, Oc (uv n) 24), (b2, Oc (pv q) 26), (b1, Oc (pv p) 26)] 26 (.tmp 15) (.tmp 58) b6 (0) Z9 (Value.cells (pv (Ec.Pd.mk 0 0 false))) 26 (pv (Ec.Pd.mk 0 0 false)) kr kr kr kr kr kr (of_decide_eq_true kr) kr kr ?_
  intro w11 H11; clear H10
  refine s_val (some 16) (.int .i64 1) (fun w => kr) kr ?_
  refine s_nil ?_
  refine g_seq kr ?_
  refine g_sreg [0, 1, 2] kr kr ?_
  refine s_load H11 (some 60) 26 (.tmp 5) 5 b1 (Value.cells (pv p)) 26 (0, 0) kr kr kr kr kr ?_
  refine s_call H11 (some 61) 11 #[pv p] (.bool false) (ron_no p hp h) (fun w => kr) kr ?_
  intro w12 H12; clear H11
  refine s_val (some 62) (.bool true) (fun w => kr) kr ?_
  refine s_nil ?_
  refine g_cond_t kr kr ?_
  refine g_sreg [0, 1, 2, 3, 4, 5, 6, 7, 8, 9, 10, 11, 12, 13, 14, 15, 16] kr kr ?_
  refine s_val (some 63) (.int .i64 1) (fun w => kr) kr ?_
  refine s_val (some 64) (.bool true) (fun w => kr) kr ?_
  refine s_val (some 65) (.bool true) (fun w => kr) kr ?_
  refine s_val (some 66) (.int .i64 1) (fun w => kr) kr ?_
  refine s_val (some 67) (.bool true) (fun w => kr) kr ?_
  refine s_val (some 68) (.bool true) (fun w => kr) kr ?_
  refine s_val (some 69) (.bool true) (fun w => kr) kr ?_
  refine s_load H12 (some 70) 26 (.tmp 13) 1 b5 (Value.cells (pv (Ec.Pd.mk 0 0 false))) 26 (0, 0) kr kr kr kr kr ?_
  refine s_val (some 71) (pv (Ec.Pd.mk 0 0 false)) (fun w => kr) kr ?_
  refine s_opE (some 72) _ (.bool (decide ((Ec.Pd.mk 0 0 false) = (Ec.Pd.mk 0 0 false)))) (.bool true) kr (fun o w ho => eqP_run (x := (.tmp 70)) (y := (.tmp 71)) (Ec.Pd.mk 0 0 false) (Ec.Pd.mk 0 0 false) (Ec.Pd.Ok.mk (p := Ec.Pd.mk 0 0 false) Ec.big_0 Ec.big_0) (Ec.Pd.Ok.mk (p := Ec.Pd.mk 0 0 false) Ec.big_0 Ec.big_0) w ho kr kr) (by rw [decide_eq_true (p := (Ec.Pd.mk 0 0 false) = (Ec.Pd.mk 0 0 false)) rfl] <;> rfl) kr ?_
  refine s_val (some 73) (.bool true) (fun w => kr) kr ?_
  refine s_val (some 74) (.bool true) (fun w => kr) kr ?_
  refine s_load H12 (some 75) 26 (.tmp 15) 0 b6 (Value.cells (pv (Ec.Pd.mk 0 0 false))) 26 (0, 0) kr kr kr kr kr ?_
  refine s_val (some 76) (pv (Ec.Pd.mk 0 0 false)) (fun w => kr) kr ?_
  refine s_opE (some 77) _ (.bool (decide ((Ec.Pd.mk 0 0 false) = (Ec.Pd.mk 0 0 false)))) (.bool true) kr (fun o w ho => eqP_run (x := (.tmp 75)) (y := (.tmp 76)) (Ec.Pd.mk 0 0 false) (Ec.Pd.mk 0 0 false) (Ec.Pd.Ok.mk (p := Ec.Pd.mk 0 0 false) Ec.big_0 Ec.big_0) (Ec.Pd.Ok.mk (p := Ec.Pd.mk 0 0 false) Ec.big_0 Ec.big_0) w ho kr kr) (by rw [decide_eq_true (p := (Ec.Pd.mk 0 0 false) = (Ec.Pd.mk 0 0 false)) rfl] <;> rfl) kr ?_
  refine s_val (some 78) (.bool true) (fun w => kr) kr ?_
  refine s_val (some 10) (.bool true) (fun w => kr) kr ?_
  refine s_nil ?_
  refine g_ret kr ?_
  show ∃ vs, Res _ _ _ _ vs ∧ _
  refine ⟨[.bool true], (.tmp (.bool true) kr .nil), ?_, H12.below⟩
  rfl

set_option maxRecDepth 100000 in
set_option maxHeartbeats 2000000 in
theorem pAdds_5 (p q : Ec.Pd) (hp : p.Ok) (hq : q.Ok) (n m : Nat) (hn : n < big) (hm : m < big) : Fn Try.prog 3 #[pv p, pv q, uv n, uv m, .bool false] (.bool true) := by
  refine Fn.intro (c := codeOf Try.f3) [.tmp 10] 117 Try.func3 kr kr kr fun w => ?_
  have H0 := St.start w
  refine g_sreg [0, 1, 2, 3, 4] kr kr ?_
  refine s_box H0 (some 5) 26 (.tmp 0) (pv p) kr kr kr ?_
  intro b1 w1 H1; clear H0
  refine s_box H1 (some 6) 26 (.tmp 1) (pv q) kr kr kr ?_
  intro b2 w2 H2; clear H1
  refine s_box H2 (some 7) 24 (.tmp 2) (uv n) kr kr kr ?_
  intro b3 w3 H3; clear H2
  refine s_box H3 (some 8) 24 (.tmp 3) (uv m) kr kr kr ?_
  intro b4 w4 H4; clear H3
  refine s_val (some 10) (.bool false) (fun w => kr) kr ?_
  refine s_nil ?_
  refine g_seq kr ?_
  refine g_sreg [0, 1] kr kr ?_
  refine s_val (some 17) (.bool false) (fun w => kr) kr ?_
  refine s_val (some 18) (.bool true) (fun w => kr) kr ?_
  refine s_nil ?_
  refine g_cond_t kr kr ?_
  refine g_sreg [0, 1] kr kr ?_
  refine s_val (some 11) (.bool false) (fun w => kr) kr ?_
  refine s_val (some 12) (.bool false) (fun w => kr) kr ?_
  refine s_nil ?_
  refine g_seq kr ?_
  refine g_sreg [0, 1, 2, 3, 4, 5, 6] kr kr ?_
  refine s_load H4 (some 20) 24 (.tmp 7) 1 b3 (Value.cells (uv n)) 24 (0, 0) kr kr kr kr kr ?_
  refine s_call H4 (some 21) 9 #[uv n] (.tuple #[pv (Ec.ofPt (Ec.mulP Ec.G n)), .bool true]) (at6_fn n hn) (fun w => kr) kr ?_
  intro w5 H5; clear H4
  refine s_val (some 19) (.tuple #[pv (Ec.ofPt (Ec.mulP Ec.G n)), .bool true]) (fun w => kr) kr ?_
  refine s_val (some 22) (pv (Ec.ofPt (Ec.mulP Ec.G n))) (fun w => kr) kr ?_
  refine s_val (some 23) (.bool true) (fun w => kr) kr ?_
  refine s_store H5 3 [(b4, Oc (uv m) 24), (b3, Oc (uv n) 24), (b2, Oc (pv q) 26), (b1, Oc (pv (Ec.ofPt (Ec.mulP Ec.G n))) 26)] 26 (.tmp 5) (.tmp 22) b1 (0) (Value.cells (pv p)) (Value.cells (pv (Ec.ofPt (Ec.mulP Ec.G n)))) 26 (pv (Ec.ofPt (Ec.mulP Ec.G n))) kr kr kr kr kr kr (of_decide_eq_true kr) kr kr ?_
  intro w6 H6; clear H5
  refine s_val (some 11) (.bool true) (fun w => kr) kr ?_
  refine s_nil ?_
  refine g_sreg [0, 1] kr kr ?_
  refine s_val (some 24) (.bool true) (fun w => kr) kr ?_
  refine s_val (some 25) (.bool false) (fun w => kr) kr ?_
  refine s_nil ?_
  refine g_cond_f kr kr ?_
  refine g_skip kr ?_
  show WP _ _ _ _ _ _
  refine g_sreg [0, 1, 2, 3, 4, 5, 6] kr kr ?_
  refine s_load H6 (some 27) 24 (.tmp 8) 0 b4 (Value.cells (uv m)) 24 (0, 0) kr kr kr kr kr ?_
  refine s_call H6 (some 28) 9 #[uv m] (.tuple #[pv (Ec.ofPt (Ec.mulP Ec.G m)), .bool true]) (at6_fn m hm) (fun w => kr) kr ?_
  intro w7 H7; clear H6
  refine s_val (some 26) (.tuple #[pv (Ec.ofPt (Ec.mulP Ec.G m)), .bool true]) (fun w => kr) kr ?_
  refine s_val (some 29) (pv (Ec.ofPt (Ec.mulP Ec.G m))) (fun w => kr) kr ?_
  refine s_val (some 30) (.bool true) (fun w => kr) kr ?_
  refine s_store H7 2 [(b4, Oc (uv m) 24), (b3, Oc (uv n) 24), (b2, Oc (pv (Ec.ofPt (Ec.mulP Ec.G m))) 26), (b1, Oc (pv (Ec.ofPt (Ec.mulP Ec.G n))) 26)] 26 (.tmp 6) (.tmp 29) b2 (0) (Value.cells (pv q)) (Value.cells (pv (Ec.ofPt (Ec.mulP Ec.G m)))) 26 (pv (Ec.ofPt (Ec.mulP Ec.G m))) kr kr kr kr kr kr (of_decide_eq_true kr) kr kr ?_
  intro w8 H8; clear H7
  refine s_val (some 12) (.bool true) (fun w => kr) kr ?_
  refine s_nil ?_
  refine g_sreg [0, 1] kr kr ?_
  refine s_val (some 31) (.bool true) (fun w => kr) kr ?_
  refine s_val (some 32) (.bool false) (fun w => kr) kr ?_
  refine s_nil ?_
  refine g_cond_f kr kr ?_
  refine g_skip kr ?_
  show WP _ _ _ _ _ _
  refine g_seq kr ?_
  refine D2.g_sdraw [0, 1, 2, 3, 4, 5, 6, 7, 8, 9, 10, 11, 12, 13, 14, 15] [((some 33), fun _ => pv (Ec.ofPt (Ec.mulP Ec.G n))), ((some 34), fun _ => .bool true), ((some 35), fun _ => pv (Ec.ofPt (Ec.mulP Ec.G n))), ((some 36), fun _ => .bool true), ((some 37), fun _ => .bool false), ((some 38), fun _ => .bool false), ((some 39), fun _ => pv (Ec.ofPt (Ec.mulP Ec.G m))), ((some 40), fun _ => .bool true), ((some 41), fun _ => pv (Ec.ofPt (Ec.mulP Ec.G m))), ((some 42), fun _ => .bool true), ((some 43), fun _ => .bool false), ((some 44), fun _ => .bool false), ((some 45), fun _ => .bool false), ((some 46), fun _ => .bool true), ((some 47), fun _ => .bool false), ((some 48), fun _ => .bool false)] (D2.Pre w.heap.size w (fun L g => [(true, (b4, Oc (uv m) 24)), (true, (b3, Oc (uv n) 24)), (true, (b2, Oc (pv (Ec.ofPt (Ec.mulP Ec.G m))) 26)), (true, (b1, Oc (pv (Ec.ofPt (Ec.mulP Ec.G n))) 26))]) (fun L g => True)) kr kr kr kr ⟨D2.StE.of H8.drew _ kr, trivial⟩ ⟨?_, ?_, ?_, ?_, ?_, ?_, ?_, ?_, ?_, ?_, ?_, ?_, ?_, ?_, ?_, ?_, trivial⟩ ?_
  · exact D2.gv_load 26 (.tmp 5) 3 (fun g => b1) (Value.cells (pv (Ec.ofPt (Ec.mulP Ec.G n)))) 26 (0, 0) (fun _ _ _ h => h) (fun g => kr) (fun g => kr) (fun L g hN => kr) kr
  · exact D2.gv_call 10 #[pv (Ec.ofPt (Ec.mulP Ec.G n))] (fun _ _ _ h => h) (on_yes (Ec.ofPt (Ec.mulP Ec.G n)) (Ec.ofPt_ok _) (Ec.onB_pt (Ec.mulP_on Ec.good Ec.G_on n))) (fun g w => kr)
  · exact D2.gv_load 26 (.tmp 5) 3 (fun g => b1) (Value.cells (pv (Ec.ofPt (Ec.mulP Ec.G n)))) 26 (0, 0) (fun _ _ _ h => h) (fun g => kr) (fun g => kr) (fun L g hN => kr) kr
  · exact D2.gv_call 11 #[pv (Ec.ofPt (Ec.mulP Ec.G n))] (fun _ _ _ h => h) (ron_yes (Ec.ofPt (Ec.mulP Ec.G n)) (Ec.ofPt_ok _) (Ec.onB_pt (Ec.mulP_on Ec.good Ec.G_on n))) (fun g w => kr)
  · exact D2.gv_val (fun _ _ _ h => h) (fun g w => kr)
  · exact D2.gv_val (fun _ _ _ h => h) (fun g w => kr)
  · exact D2.gv_load 26 (.tmp 6) 2 (fun g => b2) (Value.cells (pv (Ec.ofPt (Ec.mulP Ec.G m)))) 26 (0, 0) (fun _ _ _ h => h) (fun g => kr) (fun g => kr) (fun L g hN => kr) kr
  · exact D2.gv_call 10 #[pv (Ec.ofPt (Ec.mulP Ec.G m))] (fun _ _ _ h => h) (on_yes (Ec.ofPt (Ec.mulP Ec.G m)) (Ec.ofPt_ok _) (Ec.onB_pt (Ec.mulP_on Ec.good Ec.G_on m))) (fun g w => kr)
  · exact D2.gv_load 26 (.tmp 6) 2 (fun g => b2) (Value.cells (pv (Ec.ofPt (Ec.mulP Ec.G m)))) 26 (0, 0) (fun _ _ _ h => h) (fun g => kr) (fun g => kr) (fun L g hN => kr) kr
  · exact D2.gv_call 11 #[pv (Ec.ofPt (Ec.mulP Ec.G m))] (fun _ _ _ h => h) (ron_yes (Ec.ofPt (Ec.mulP Ec.G m)) (Ec.ofPt_ok _) (Ec.onB_pt (Ec.mulP_on Ec.good Ec.G_on m))) (fun g w => kr)
  · exact D2.gv_val (fun _ _ _ h => h) (fun g w => kr)
  · exact D2.gv_val (fun _ _ _ h => h) (fun g w => kr)
  · exact D2.gv_val (fun _ _ _ h => h) (fun g w => kr)
  · exact D2.gv_call 12 #[] (fun _ _ _ h => h) alive06_fn (fun g w => kr)
  · exact D2.gv_val (fun _ _ _ h => h) (fun g w => kr)
  · exact D2.gv_val (fun _ _ _ h => h) (fun g w => kr)
  intro L0 G9 w9 hall HL; clear H8
  have H9 : St w.heap.size w w9 [(b4, Oc (uv m) 24), (b3, Oc (uv n) 24), (b2, Oc (pv (Ec.ofPt (Ec.mulP Ec.G m))) 26), (b1, Oc (pv (Ec.ofPt (Ec.mulP Ec.G n))) 26)] := D2.StE.st HL.1
  clear HL hall
  refine g_cond_f kr kr ?_
  refine g_skip kr ?_
  show WP _ _ _ _ _ _
  refine g_sreg [0, 1, 2, 3, 4, 5, 6, 7, 8] kr kr ?_
  refine s_load H9 (some 50) 26 (.tmp 5) 3 b1 (Value.cells (pv (Ec.ofPt (Ec.mulP Ec.G n)))) 26 (0, 0) kr kr kr kr kr ?_
  refine s_load H9 (some 51) 26 (.tmp 6) 2 b2 (Value.cells (pv (Ec.ofPt (Ec.mulP Ec.G m)))) 26 (0, 0) kr kr kr kr kr ?_
  refine s_call H9 (some 52) 13 #[pv (Ec.ofPt (Ec.mulP Ec.G n)), pv (Ec.ofPt (Ec.mulP Ec.G m))] (.tuple #[pv (Ec.ofPt (Ec.Pt.add (Ec.mulP Ec.G n) (Ec.mulP Ec.G m))), .int .i64 0]) (add_pt_fn (Ec.mulP Ec.G n) (Ec.mulP_on Ec.good Ec.G_on n) (Ec.mulP Ec.G m) (Ec.mulP_on Ec.good Ec.G_on m)) (fun w => kr) kr ?_
  intro w10 H10; clear H9
  refine s_val (some 49) (.tuple #[pv (Ec.ofPt (Ec.Pt.add (Ec.mulP Ec.G n) (Ec.mulP Ec.G m))), .int .i64 0]) (fun w => kr) kr ?_
  refine s_val (some 53) (pv (Ec.ofPt (Ec.Pt.add (Ec.mulP Ec.G n) (Ec.mulP Ec.G m)))) (fun w => kr) kr ?_
  refine s_val (some 54) (.int .i64 0) (fun w => kr) kr ?_
  refine s_alloc H10 (some 13) 26 (.agg Z9) kr kr kr ?_
  intro b5 w11 H11; clear H10
  refine s_store H11 0 [(b5, Oc (pv (Ec.ofPt (Ec.Pt.add (Ec.mulP Ec.G n) (Ec.mulP Ec.G m)))) 26), (b4, Oc (uv m) 24), (b3, Oc (uv n) 24), (b2, Oc (pv (Ec.ofPt (Ec.mulP Ec.G m))) 26), (b1, Oc (pv (Ec.ofPt (Ec.mulP Ec.G n))) 26)] 26 (.tmp 13) (.tmp 53) b5 (0) Z9 (Value.cells (pv (Ec.ofPt (Ec.Pt.add (Ec.mulP Ec.G n) (Ec.mulP Ec.G m))))) 26 (pv (Ec.ofPt (Ec.Pt.add (Ec.mulP Ec.G n) (Ec.mulP Ec.G m)))) kr kr kr kr kr kr (of_decide_eq_true kr) kr kr ?_
  intro w12 H12; clear H11
  refine s_val (some 14) (.int .i64 0) (fun w => kr) kr ?_
  refine s_nil ?_
  refine g_sreg [0, 1, 2, 3, 4, 5, 6, 7] kr kr ?_
  refine s_load H12 (some 56) 26 (.tmp 5) 4 b1 (Value.cells (pv (Ec.ofPt (Ec.mulP Ec.G n)))) 26 (0, 0) kr kr kr kr kr ?_
  refine s_call H12 (some 57) 14 #[pv (Ec.ofPt (Ec.mulP Ec.G n))] (.tuple #[pv (Ec.ofPt (Ec.Pt.neg (Ec.mulP Ec.G n))), .int .i64 0]) (turn_fn (Ec.mulP Ec.G n) (Ec.mulP_on Ec.good Ec.G_on n)) (fun w => kr) kr ?_
  intro w13 H13; clear H12
  refine s_val (some 55) (.tuple #[pv (Ec.ofPt (Ec.Pt.neg (Ec.mulP Ec.G n))), .int .i64 0]) (fun w => kr) kr ?_
  refine s_val (some 58) (pv (Ec.ofPt (Ec.Pt.neg (Ec.mulP Ec.G n)))) (fun w => kr) kr ?_
  refine s_val (some 59) (.int .i64 0) (fun w => kr) kr ?_
  refine s_alloc H13 (some 15) 26 (.agg Z9) kr kr kr ?_
  intro b6 w14 H14; clear H13
  refine s_store H14 0 [(b6, Oc (pv (Ec.ofPt (Ec.Pt.neg (Ec.mulP Ec.G n)))) 26), (b5, Oc (pv (Ec.ofPt (Ec.Pt.add (Ec.mulP Ec.G n) (Ec.mulP Ec.G m)))) 26), (b4, Oc (uv m) 24), (b3, Oc (uv n) 24), (b2, Oc (pv (Ec.ofPt (Ec.mulP Ec.G m))) 26), (b1, Oc (pv (Ec.ofPt (Ec.mulP Ec.G n))) 26)] 26 (.tmp 15) (.tmp 58) b6 (0) Z9 (Value.cells (pv (Ec.ofPt (Ec.Pt.neg (Ec.mulP Ec.G n))))) 26 (pv (Ec.ofPt (Ec.Pt.neg (Ec.mulP Ec.G n)))) kr kr kr kr kr kr (of_decide_eq_true kr) kr kr ?_
  intro w15 H15; clear H14
  refine s_val (some 16) (.int .i64 0) (fun w => kr) kr ?_
  refine s_nil ?_
  refine g_seq kr ?_
  refine g_sreg [0, 1, 2] kr kr ?_
  refine s_load H15 (some 60) 26 (.tmp 5) 5 b1 (Value.cells (pv (Ec.ofPt (Ec.mulP Ec.G n)))) 26 (0, 0) kr kr kr kr kr ?_
  refine s_call H15 (some 61) 11 #[pv (Ec.ofPt (Ec.mulP Ec.G n))] (.bool true) (ron_yes (Ec.ofPt (Ec.mulP Ec.G n)) (Ec.ofPt_ok _) (Ec.onB_pt (Ec.mulP_on Ec.good Ec.G_on n))) (fun w => kr) kr ?_
  intro w16 H16; clear H15
  refine s_val (some 62) (.bool false) (fun w => kr) kr ?_
  refine s_nil ?_
  refine g_cond_f kr kr ?_
  refine g_skip kr ?_
  show WP _ _ _ _ _ _
  refine g_seq kr ?_
  refine g_sreg [0, 1, 2] kr kr ?_
  refine s_load H16 (some 79) 26 (.tmp 6) 4 b2 (Value.cells (pv (Ec.ofPt (Ec.mulP Ec.G m)))) 26 (0, 0) kr kr kr kr kr ?_
  refine s_call H16 (some 80) 11 #[pv (Ec.ofPt (Ec.mulP Ec.G m))] (.bool true) (ron_yes (Ec.ofPt (Ec.mulP Ec.G m)) (Ec.ofPt_ok _) (Ec.onB_pt (Ec.mulP_on Ec.good Ec.G_on m))) (fun w => kr) kr ?_
  intro w17 H17; clear H16
  refine s_val (some 81) (.bool false) (fun w => kr) kr ?_
  refine s_nil ?_
  refine g_cond_f kr kr ?_
  refine g_skip kr ?_
  show WP _ _ _ _ _ _
  refine D2.g_sdraw [0, 1, 2, 3, 4, 5, 6, 7, 8, 9, 10, 11, 12, 13, 14, 15, 16, 17, 18] [((some 99), fun _ => .int .i64 0), ((some 100), fun _ => .bool true), ((some 101), fun _ => .bool true), ((some 102), fun _ => .int .i64 0), ((some 103), fun _ => .bool true), ((some 104), fun _ => .bool true), ((some 105), fun _ => .bool true), ((some 106), fun _ => pv (Ec.ofPt (Ec.mulP Ec.G n))), ((some 107), fun _ => pv (Ec.ofPt (Ec.mulP Ec.G m))), ((some 108), fun _ => pv (Ec.ofPt (Ec.Pt.add (Ec.mulP Ec.G n) (Ec.mulP Ec.G m)))), ((some 109), fun _ => .bool true), ((some 110), fun _ => .bool true), ((some 111), fun _ => .bool true), ((some 112), fun _ => pv (Ec.ofPt (Ec.Pt.neg (Ec.mulP Ec.G n)))), ((some 113), fun _ => pv (Ec.ofPt (Ec.mulP Ec.G n))), ((some 114), fun _ => pv (Ec.ofPt (Ec.Pt.neg (Ec.mulP Ec.G n)))), ((some 115), fun _ => .bool true), ((some 116), fun _ => .bool true), ((some 10), fun _ => .bool true)] (D2.Pre w.heap.size w (fun L g => [(true, (b6, Oc (pv (Ec.ofPt (Ec.Pt.neg (Ec.mulP Ec.G n)))) 26)), (true, (b5, Oc (pv (Ec.ofPt (Ec.Pt.add (Ec.mulP Ec.G n) (Ec.mulP Ec.G m)))) 26)), (true, (b4, Oc (uv m) 24)), (true, (b3, Oc (uv n) 24)), (true, (b2, Oc (pv (Ec.ofPt (Ec.mulP Ec.G m))) 26)), (true, (b1, Oc (pv (Ec.ofPt (Ec.mulP Ec.G n))) 26))]) (fun L g => True)) kr kr kr kr ⟨D2.StE.of H17.drew _ kr, trivial⟩ ⟨?_, ?_, ?_, ?_, ?_, ?_, ?_, ?_, ?_, ?_, ?_, ?_, ?_, ?_, ?_, ?_, ?_, ?_, ?_, trivial⟩ ?_
  · exact D2.gv_val (fun _ _ _ h => h) (fun g w => kr)
  · exact D2.gv_val (fun _ _ _ h => h) (fun g w => kr)
  · exact D2.gv_val (fun _ _ _ h => h) (fun g w => kr)
  · exact D2.gv_val (fun _ _ _ h => h) (fun g w => kr)
  · exact D2.gv_val (fun _ _ _ h => h) (fun g w => kr)
  · exact D2.gv_val (fun _ _ _ h => h) (fun g w => kr)
  · exact D2.gv_val (fun _ _ _ h => h) (fun g w => kr)
  · exact D2.gv_load 26 (.tmp 5) 5 (fun g => b1) (Value.cells (pv (Ec.ofPt (Ec.mulP Ec.G n)))) 26 (0, 0) (fun _ _ _ h => h) (fun g => kr) (fun g => kr) (fun L g hN => kr) kr
  · exact D2.gv_load 26 (.tmp 6) 4 (fun g => b2) (Value.cells (pv (Ec.ofPt (Ec.mulP Ec.G m)))) 26 (0, 0) (fun _ _ _ h => h) (fun g => kr) (fun g => kr) (fun L g hN => kr) kr
  · exact D2.gv_load 26 (.tmp 13) 1 (fun g => b5) (Value.cells (pv (Ec.ofPt (Ec.Pt.add (Ec.mulP Ec.G n) (Ec.mulP Ec.G m))))) 26 (0, 0) (fun _ _ _ h => h) (fun g => kr) (fun g => kr) (fun L g hN => kr) kr
  · exact D2.gv_call 16 #[pv (Ec.ofPt (Ec.mulP Ec.G n)), pv (Ec.ofPt (Ec.mulP Ec.G m)), pv (Ec.ofPt (Ec.Pt.add (Ec.mulP Ec.G n) (Ec.mulP Ec.G m)))] (fun _ _ _ h => h) (adds_fn (Ec.mulP Ec.G n) (Ec.mulP Ec.G m) (Ec.mulP_on Ec.good Ec.G_on n) (Ec.mulP_on Ec.good Ec.G_on m)) (fun g w => kr)
  · exact D2.gv_val (fun _ _ _ h => h) (fun g w => kr)
  · exact D2.gv_val (fun _ _ _ h => h) (fun g w => kr)
  · exact D2.gv_load 26 (.tmp 15) 0 (fun g => b6) (Value.cells (pv (Ec.ofPt (Ec.Pt.neg (Ec.mulP Ec.G n))))) 26 (0, 0) (fun _ _ _ h => h) (fun g => kr) (fun g => kr) (fun L g hN => kr) kr
  · exact D2.gv_load 26 (.tmp 5) 5 (fun g => b1) (Value.cells (pv (Ec.ofPt (Ec.mulP Ec.G n)))) 26 (0, 0) (fun _ _ _ h => h) (fun g => kr) (fun g => kr) (fun L g hN => kr) kr
  · exact D2.gv_call 15 #[pv (Ec.ofPt (Ec.mulP Ec.G n))] (fun _ _ _ h => h) (turned_fn (Ec.mulP Ec.G n) (Ec.mulP_on Ec.good Ec.G_on n)) (fun g w => kr)
  · exact D2.gv_opE (fun _ _ _ h => h) _ (V' := .bool (decide ((Ec.ofPt (Ec.Pt.neg (Ec.mulP Ec.G n))) = (Ec.ofPt (Ec.Pt.neg (Ec.mulP Ec.G n)))))) (fun g => kr) (fun g o w ho => eqP_run (x := (.tmp 112)) (y := (.tmp 114)) (Ec.ofPt (Ec.Pt.neg (Ec.mulP Ec.G n))) (Ec.ofPt (Ec.Pt.neg (Ec.mulP Ec.G n))) (Ec.ofPt_ok _) (Ec.ofPt_ok _) w ho kr kr) (by rw [decide_eq_true (p := (Ec.ofPt (Ec.Pt.neg (Ec.mulP Ec.G n))) = (Ec.ofPt (Ec.Pt.neg (Ec.mulP Ec.G n)))) rfl] <;> rfl)
  · exact D2.gv_val (fun _ _ _ h => h) (fun g w => kr)
  · exact D2.gv_val (fun _ _ _ h => h) (fun g w => kr)
  intro L0 G18 w18 hall HL; clear H17
  have H18 : St w.heap.size w w18 [(b6, Oc (pv (Ec.ofPt (Ec.Pt.neg (Ec.mulP Ec.G n)))) 26), (b5, Oc (pv (Ec.ofPt (Ec.Pt.add (Ec.mulP Ec.G n) (Ec.mulP Ec.G m)))) 26), (b4, Oc (uv m) 24), (b3, Oc (uv n) 24), (b2, Oc (pv (Ec.ofPt (Ec.mulP Ec.G m))) 26), (b1, Oc (pv (Ec.ofPt (Ec.mulP Ec.G n))) 26)] := D2.StE.st HL.1
  clear HL hall
  refine g_ret kr ?_
  show ∃ vs, Res _ _ _ _ vs ∧ _
  refine ⟨[.bool true], (.tmp (.bool true) kr .nil), ?_, H18.below⟩
  rfl

theorem pointAdds_fn (p : Ec.Pd) (hp : p.Ok) (q : Ec.Pd) (hq : q.Ok) (n : Nat) (hn : n < big) (m : Nat) (hm : m < big) (w : Bool) : Fn Try.prog 3 #[pv p, pv q, uv n, uv m, .bool w] (.bool true) := by
  cases w
  · exact pAdds_5 p q hp hq n m hn hm
  · cases h : Ec.onB p
    · cases h2 : Ec.onB q
      · exact pAdds_4 p q hp hq h h2 n m hn hm
      · exact pAdds_3 p q hp hq h h2 n m hn hm
    · obtain ⟨P, hP, rfl⟩ := Ec.onB_of h
      cases h2 : Ec.onB q
      · exact pAdds_2 P hP q hq h2 n m hn hm
      · obtain ⟨Q, hQ, rfl⟩ := Ec.onB_of h2
        exact pAdds_1 P hP Q hQ n m hn hm
end Go.Proofs.Ytljhbhhpfkmemaa
