/-
  What the laws ask: two multiples together.
-/
import Derived.Test.YtljhbhhpfkmemaaPtV
import Derived.Test.YtljhbhhpfkmemaaPtLb
namespace Go.Proofs.Ytljhbhhpfkmemaa
open Go Go.RowKit
set_option linter.unusedVariables false
set_option maxRecDepth 100000 in
set_option maxHeartbeats 2000000 in
theorem pointBoth_fn (n : Nat) (hn : n < big) (m : Nat) (hm : m < big) (k : Nat) (hk : k < big) : Fn Try.prog 6 #[uv n, uv m, uv k] (.bool true) := by
  refine Fn.intro (c := codeOf Try.f6) [.tmp 6] 119 Try.func6 kr kr kr fun w => ?_
  have H0 := St.start w
  refine g_sreg [0, 1, 2, 3] kr kr ?_
  refine s_box H0 (some 3) 24 (.tmp 0) (uv n) kr kr kr ?_
  intro b1 w1 H1; clear H0
  refine s_box H1 (some 4) 24 (.tmp 1) (uv m) kr kr kr ?_
  intro b2 w2 H2; clear H1
  refine s_box H2 (some 5) 24 (.tmp 2) (uv k) kr kr kr ?_
  intro b3 w3 H3; clear H2
  refine s_val (some 6) (.bool false) (fun w => kr) kr ?_
  refine s_nil ?_
  refine g_sreg [0, 1, 2, 3, 4, 5, 6, 7] kr kr ?_
  refine s_load H3 (some 25) 24 (.tmp 5) 0 b3 (Value.cells (uv k)) 24 (0, 0) kr kr kr kr kr ?_
  refine s_call H3 (some 26) 9 #[uv k] (.tuple #[pv (Ec.ofPt (Ec.mulP Ec.G k)), .bool true]) (at6_fn k hk) (fun w => kr) kr ?_
  intro w4 H4; clear H3
  refine s_val (some 24) (.tuple #[pv (Ec.ofPt (Ec.mulP Ec.G k)), .bool true]) (fun w => kr) kr ?_
  refine s_val (some 27) (pv (Ec.ofPt (Ec.mulP Ec.G k))) (fun w => kr) kr ?_
  refine s_val (some 28) (.bool true) (fun w => kr) kr ?_
  refine s_alloc H4 (some 7) 26 (.agg Z9) kr kr kr ?_
  intro b4 w5 H5; clear H4
  refine s_store H5 0 [(b4, Oc (pv (Ec.ofPt (Ec.mulP Ec.G k))) 26), (b3, Oc (uv k) 24), (b2, Oc (uv m) 24), (b1, Oc (uv n) 24)] 26 (.tmp 7) (.tmp 27) b4 (0) Z9 (Value.cells (pv (Ec.ofPt (Ec.mulP Ec.G k)))) 26 (pv (Ec.ofPt (Ec.mulP Ec.G k))) kr kr kr kr kr kr (of_decide_eq_true kr) kr kr ?_
  intro w6 H6; clear H5
  refine s_val (some 8) (.bool true) (fun w => kr) kr ?_
  refine s_nil ?_
  refine D2.g_sdraw [0, 1, 2, 3, 4, 5, 6, 7, 8, 9, 10] [((some 30), fun _ => pv (Ec.ofPt Ec.G)), ((some 31), fun _ => uv n), ((some 32), fun _ => pv (Ec.ofPt (Ec.mulP Ec.G k))), ((some 33), fun _ => uv m), ((some 34), fun _ => .tuple #[pv (Ec.ofPt (Ec.Pt.add (Ec.mulP Ec.G n) (Ec.mulP (Ec.mulP Ec.G k) m))), .int .i64 0]), ((some 29), fun _ => .tuple #[pv (Ec.ofPt (Ec.Pt.add (Ec.mulP Ec.G n) (Ec.mulP (Ec.mulP Ec.G k) m))), .int .i64 0]), ((some 35), fun _ => pv (Ec.ofPt (Ec.Pt.add (Ec.mulP Ec.G n) (Ec.mulP (Ec.mulP Ec.G k) m)))), ((some 36), fun _ => .int .i64 0), ((some 9), fun b => .pointer (some ⟨b.b, 0, none⟩)), (none, fun _ => undef), ((some 10), fun _ => .int .i64 0)] (D2.Pre w.heap.size w (fun L g => [(true, (b4, Oc (pv (Ec.ofPt (Ec.mulP Ec.G k))) 26)), (true, (b3, Oc (uv k) 24)), (true, (b2, Oc (uv m) 24)), (true, (b1, Oc (uv n) 24)), (L 8, (bif L 9 then ((g 8).b, Oc (pv (Ec.ofPt (Ec.Pt.add (Ec.mulP Ec.G n) (Ec.mulP (Ec.mulP Ec.G k) m)))) 26) else ((g 8).b, Od Z9 26)))]) (fun L g => True)) kr kr kr kr ⟨D2.StE.of H6.drew _ kr, trivial⟩ ⟨?_, ?_, ?_, ?_, ?_, ?_, ?_, ?_, ?_, ?_, ?_, trivial⟩ ?_
  · exact D2.gv_call 22 #[] (fun _ _ _ h => h) base_fn (fun g w => kr)
  · exact D2.gv_load 24 (.tmp 3) 3 (fun g => b1) (Value.cells (uv n)) 24 (0, 0) (fun _ _ _ h => h) (fun g => kr) (fun g => kr) (fun L g hN => kr) kr
  · exact D2.gv_load 26 (.tmp 7) 0 (fun g => b4) (Value.cells (pv (Ec.ofPt (Ec.mulP Ec.G k)))) 26 (0, 0) (fun _ _ _ h => h) (fun g => kr) (fun g => kr) (fun L g hN => kr) kr
  · exact D2.gv_load 24 (.tmp 4) 2 (fun g => b2) (Value.cells (uv m)) 24 (0, 0) (fun _ _ _ h => h) (fun g => kr) (fun g => kr) (fun L g hN => kr) kr
  · exact D2.gv_call 21 #[pv (Ec.ofPt Ec.G), uv n, pv (Ec.ofPt (Ec.mulP Ec.G k)), uv m] (fun _ _ _ h => h) (both_pt_fn Ec.G Ec.G_on n hn (Ec.mulP Ec.G k) (Ec.mulP_on Ec.good Ec.G_on k) m hm) (fun g w => kr)
  · exact D2.gv_val (fun _ _ _ h => h) (fun g w => kr)
  · exact D2.gv_val (fun _ _ _ h => h) (fun g w => kr)
  · exact D2.gv_val (fun _ _ _ h => h) (fun g w => kr)
  · exact D2.gv_alloc 26 (.agg Z9) 4 (fun g => kr) kr (fun L g b hN => (by have hL9 : L 9 = false := (hN.post 9 kr); exact D2.ent_set (x' := (true, (bif L 9 then (((D2.setN g 8 { b := b }) 8).b, Oc (pv (Ec.ofPt (Ec.Pt.add (Ec.mulP Ec.G n) (Ec.mulP (Ec.mulP Ec.G k) m)))) 26) else (((D2.setN g 8 { b := b }) 8).b, Od Z9 26)))) kr (by simp only [hL9, cond_true, cond_false] <;> rfl))) (fun L g b hN hF => hF)
  · exact D2.gv_store 4 26 (.tmp 9) (.tmp 35) (fun g => (g 8).b) (fun g => 0) Z9 (Value.cells (pv (Ec.ofPt (Ec.Pt.add (Ec.mulP Ec.G n) (Ec.mulP (Ec.mulP Ec.G k) m))))) 26 (pv (Ec.ofPt (Ec.Pt.add (Ec.mulP Ec.G n) (Ec.mulP (Ec.mulP Ec.G k) m)))) (fun g => kr) (fun g => kr) (fun g => kr) kr kr (fun g => (of_decide_eq_true kr)) (fun g => kr) (fun L g hN => ⟨(by have hL8 : L 8 = true := (hN.bef 8 kr); have hL9 : L 9 = false := hN.1; exact D2.ent_get' (p := L 8) (e := (bif L 9 then ((g 8).b, Oc (pv (Ec.ofPt (Ec.Pt.add (Ec.mulP Ec.G n) (Ec.mulP (Ec.mulP Ec.G k) m)))) 26) else ((g 8).b, Od Z9 26))) kr (by exact hL8) (by simp only [hL8, hL9, cond_true, cond_false] <;> rfl)), (by have hL8 : L 8 = true := (hN.bef 8 kr); exact D2.ent_set (x' := (L 8, ((g 8).b, Oc (pv (Ec.ofPt (Ec.Pt.add (Ec.mulP Ec.G n) (Ec.mulP (Ec.mulP Ec.G k) m)))) 26))) kr (by simp only [hL8, cond_true, cond_false] <;> rfl))⟩) (fun L g hN hF => hF)
  · exact D2.gv_val (fun _ _ _ h => h) (fun g w => kr)
  intro L0 G7 w7 hall HL; clear H6
  have H7 : St w.heap.size w w7 [(b4, Oc (pv (Ec.ofPt (Ec.mulP Ec.G k))) 26), (b3, Oc (uv k) 24), (b2, Oc (uv m) 24), (b1, Oc (uv n) 24), ((G7 8).b, Oc (pv (Ec.ofPt (Ec.Pt.add (Ec.mulP Ec.G n) (Ec.mulP (Ec.mulP Ec.G k) m)))) 26)] := by have e8 := hall 8 (Nat.le_of_ble_eq_true kr); have e9 := hall 9 (Nat.le_of_ble_eq_true kr); have hS := D2.StE.st HL.1; simp only [e8, e9, cond_true, D2.pres] at hS; exact hS
  clear HL hall
  refine D2.g_sdraw [0, 1, 2, 3, 4, 5, 6, 7, 8] [((some 38), fun _ => pv (Ec.ofPt Ec.G)), ((some 39), fun _ => uv n), ((some 40), fun _ => .tuple #[pv (Ec.ofPt (Ec.mulP Ec.G n)), .int .i64 0]), ((some 37), fun _ => .tuple #[pv (Ec.ofPt (Ec.mulP Ec.G n)), .int .i64 0]), ((some 41), fun _ => pv (Ec.ofPt (Ec.mulP Ec.G n))), ((some 42), fun _ => .int .i64 0), ((some 11), fun b => .pointer (some ⟨b.b, 0, none⟩)), (none, fun _ => undef), ((some 12), fun _ => .int .i64 0)] (D2.Pre w.heap.size w (fun L g => [(true, (b4, Oc (pv (Ec.ofPt (Ec.mulP Ec.G k))) 26)), (true, (b3, Oc (uv k) 24)), (true, (b2, Oc (uv m) 24)), (true, (b1, Oc (uv n) 24)), (true, ((G7 8).b, Oc (pv (Ec.ofPt (Ec.Pt.add (Ec.mulP Ec.G n) (Ec.mulP (Ec.mulP Ec.G k) m)))) 26)), (L 6, (bif L 7 then ((g 6).b, Oc (pv (Ec.ofPt (Ec.mulP Ec.G n))) 26) else ((g 6).b, Od Z9 26)))]) (fun L g => True)) kr kr kr kr ⟨D2.StE.of H7.drew _ kr, trivial⟩ ⟨?_, ?_, ?_, ?_, ?_, ?_, ?_, ?_, ?_, trivial⟩ ?_
  · exact D2.gv_call 22 #[] (fun _ _ _ h => h) base_fn (fun g w => kr)
  · exact D2.gv_load 24 (.tmp 3) 3 (fun g => b1) (Value.cells (uv n)) 24 (0, 0) (fun _ _ _ h => h) (fun g => kr) (fun g => kr) (fun L g hN => kr) kr
  · exact D2.gv_call 17 #[pv (Ec.ofPt Ec.G), uv n] (fun _ _ _ h => h) (times_pt_fn Ec.G Ec.G_on n hn) (fun g w => kr)
  · exact D2.gv_val (fun _ _ _ h => h) (fun g w => kr)
  · exact D2.gv_val (fun _ _ _ h => h) (fun g w => kr)
  · exact D2.gv_val (fun _ _ _ h => h) (fun g w => kr)
  · exact D2.gv_alloc 26 (.agg Z9) 5 (fun g => kr) kr (fun L g b hN => (by have hL7 : L 7 = false := (hN.post 7 kr); exact D2.ent_set (x' := (true, (bif L 7 then (((D2.setN g 6 { b := b }) 6).b, Oc (pv (Ec.ofPt (Ec.mulP Ec.G n))) 26) else (((D2.setN g 6 { b := b }) 6).b, Od Z9 26)))) kr (by simp only [hL7, cond_true, cond_false] <;> rfl))) (fun L g b hN hF => hF)
  · exact D2.gv_store 5 26 (.tmp 11) (.tmp 41) (fun g => (g 6).b) (fun g => 0) Z9 (Value.cells (pv (Ec.ofPt (Ec.mulP Ec.G n)))) 26 (pv (Ec.ofPt (Ec.mulP Ec.G n))) (fun g => kr) (fun g => kr) (fun g => kr) kr kr (fun g => (of_decide_eq_true kr)) (fun g => kr) (fun L g hN => ⟨(by have hL6 : L 6 = true := (hN.bef 6 kr); have hL7 : L 7 = false := hN.1; exact D2.ent_get' (p := L 6) (e := (bif L 7 then ((g 6).b, Oc (pv (Ec.ofPt (Ec.mulP Ec.G n))) 26) else ((g 6).b, Od Z9 26))) kr (by exact hL6) (by simp only [hL6, hL7, cond_true, cond_false] <;> rfl)), (by have hL6 : L 6 = true := (hN.bef 6 kr); exact D2.ent_set (x' := (L 6, ((g 6).b, Oc (pv (Ec.ofPt (Ec.mulP Ec.G n))) 26))) kr (by simp only [hL6, cond_true, cond_false] <;> rfl))⟩) (fun L g hN hF => hF)
  · exact D2.gv_val (fun _ _ _ h => h) (fun g w => kr)
  intro L0 G8 w8 hall HL; clear H7
  have H8 : St w.heap.size w w8 [(b4, Oc (pv (Ec.ofPt (Ec.mulP Ec.G k))) 26), (b3, Oc (uv k) 24), (b2, Oc (uv m) 24), (b1, Oc (uv n) 24), ((G7 8).b, Oc (pv (Ec.ofPt (Ec.Pt.add (Ec.mulP Ec.G n) (Ec.mulP (Ec.mulP Ec.G k) m)))) 26), ((G8 6).b, Oc (pv (Ec.ofPt (Ec.mulP Ec.G n))) 26)] := by have e6 := hall 6 (Nat.le_of_ble_eq_true kr); have e7 := hall 7 (Nat.le_of_ble_eq_true kr); have hS := D2.StE.st HL.1; simp only [e6, e7, cond_true, D2.pres] at hS; exact hS
  clear HL hall
  refine g_sreg [0, 1, 2, 3, 4, 5, 6, 7, 8] kr kr ?_
  refine s_load H8 (some 44) 26 (.tmp 7) 0 b4 (Value.cells (pv (Ec.ofPt (Ec.mulP Ec.G k)))) 26 (0, 0) kr kr kr kr kr ?_
  refine s_load H8 (some 45) 24 (.tmp 4) 2 b2 (Value.cells (uv m)) 24 (0, 0) kr kr kr kr kr ?_
  refine s_call H8 (some 46) 17 #[pv (Ec.ofPt (Ec.mulP Ec.G k)), uv m] (.tuple #[pv (Ec.ofPt (Ec.mulP (Ec.mulP Ec.G k) m)), .int .i64 0]) (times_pt_fn (Ec.mulP Ec.G k) (Ec.mulP_on Ec.good Ec.G_on k) m hm) (fun w => kr) kr ?_
  intro w9 H9; clear H8
  refine s_val (some 43) (.tuple #[pv (Ec.ofPt (Ec.mulP (Ec.mulP Ec.G k) m)), .int .i64 0]) (fun w => kr) kr ?_
  refine s_val (some 47) (pv (Ec.ofPt (Ec.mulP (Ec.mulP Ec.G k) m))) (fun w => kr) kr ?_
  refine s_val (some 48) (.int .i64 0) (fun w => kr) kr ?_
  refine s_alloc H9 (some 13) 26 (.agg Z9) kr kr kr ?_
  intro b5 w10 H10; clear H9
  refine s_store H10 0 [(b5, Oc (pv (Ec.ofPt (Ec.mulP (Ec.mulP Ec.G k) m))) 26), (b4, Oc (pv (Ec.ofPt (Ec.mulP Ec.G k))) 26), (b3, Oc (uv k) 24), (b2, Oc (uv m) 24), (b1, Oc (uv n) 24), ((G7 8).b, Oc (pv (Ec.ofPt (Ec.Pt.add (Ec.mulP Ec.G n) (Ec.mulP (Ec.mulP Ec.G k) m)))) 26), ((G8 6).b, Oc (pv (Ec.ofPt (Ec.mulP Ec.G n))) 26)] 26 (.tmp 13) (.tmp 47) b5 (0) Z9 (Value.cells (pv (Ec.ofPt (Ec.mulP (Ec.mulP Ec.G k) m)))) 26 (pv (Ec.ofPt (Ec.mulP (Ec.mulP Ec.G k) m))) kr kr kr kr kr kr (of_decide_eq_true kr) kr kr ?_
  intro w11 H11; clear H10
  refine s_val (some 14) (.int .i64 0) (fun w => kr) kr ?_
  refine s_nil ?_
  refine g_sreg [0, 1, 2, 3, 4, 5, 6, 7, 8] kr kr ?_
  refine s_load H11 (some 50) 26 (.tmp 11) 6 (G8 6).b (Value.cells (pv (Ec.ofPt (Ec.mulP Ec.G n)))) 26 (0, 0) kr kr kr kr kr ?_
  refine s_load H11 (some 51) 26 (.tmp 13) 0 b5 (Value.cells (pv (Ec.ofPt (Ec.mulP (Ec.mulP Ec.G k) m)))) 26 (0, 0) kr kr kr kr kr ?_
  refine s_call H11 (some 52) 13 #[pv (Ec.ofPt (Ec.mulP Ec.G n)), pv (Ec.ofPt (Ec.mulP (Ec.mulP Ec.G k) m))] (.tuple #[pv (Ec.ofPt (Ec.Pt.add (Ec.mulP Ec.G n) (Ec.mulP (Ec.mulP Ec.G k) m))), .int .i64 0]) (add_pt_fn (Ec.mulP Ec.G n) (Ec.mulP_on Ec.good Ec.G_on n) (Ec.mulP (Ec.mulP Ec.G k) m) (Ec.mulP_on Ec.good (Ec.mulP_on Ec.good Ec.G_on k) m)) (fun w => kr) kr ?_
  intro w12 H12; clear H11
  refine s_val (some 49) (.tuple #[pv (Ec.ofPt (Ec.Pt.add (Ec.mulP Ec.G n) (Ec.mulP (Ec.mulP Ec.G k) m))), .int .i64 0]) (fun w => kr) kr ?_
  refine s_val (some 53) (pv (Ec.ofPt (Ec.Pt.add (Ec.mulP Ec.G n) (Ec.mulP (Ec.mulP Ec.G k) m)))) (fun w => kr) kr ?_
  refine s_val (some 54) (.int .i64 0) (fun w => kr) kr ?_
  refine s_alloc H12 (some 15) 26 (.agg Z9) kr kr kr ?_
  intro b6 w13 H13; clear H12
  refine s_store H13 0 [(b6, Oc (pv (Ec.ofPt (Ec.Pt.add (Ec.mulP Ec.G n) (Ec.mulP (Ec.mulP Ec.G k) m)))) 26), (b5, Oc (pv (Ec.ofPt (Ec.mulP (Ec.mulP Ec.G k) m))) 26), (b4, Oc (pv (Ec.ofPt (Ec.mulP Ec.G k))) 26), (b3, Oc (uv k) 24), (b2, Oc (uv m) 24), (b1, Oc (uv n) 24), ((G7 8).b, Oc (pv (Ec.ofPt (Ec.Pt.add (Ec.mulP Ec.G n) (Ec.mulP (Ec.mulP Ec.G k) m)))) 26), ((G8 6).b, Oc (pv (Ec.ofPt (Ec.mulP Ec.G n))) 26)] 26 (.tmp 15) (.tmp 53) b6 (0) Z9 (Value.cells (pv (Ec.ofPt (Ec.Pt.add (Ec.mulP Ec.G n) (Ec.mulP (Ec.mulP Ec.G k) m))))) 26 (pv (Ec.ofPt (Ec.Pt.add (Ec.mulP Ec.G n) (Ec.mulP (Ec.mulP Ec.G k) m)))) kr kr kr kr kr kr (of_decide_eq_true kr) kr kr ?_
  intro w14 H14; clear H13
  refine s_val (some 16) (.int .i64 0) (fun w => kr) kr ?_
  refine s_nil ?_
  refine g_sreg [0, 1, 2, 3, 4, 5, 6, 7, 8] kr kr ?_
  refine s_load H14 (some 56) 24 (.tmp 5) 3 b3 (Value.cells (uv k)) 24 (0, 0) kr kr kr kr kr ?_
  refine s_load H14 (some 57) 24 (.tmp 4) 4 b2 (Value.cells (uv m)) 24 (0, 0) kr kr kr kr kr ?_
  refine s_call H14 (some 58) 23 #[uv k, uv m, .int .i64 1] (.tuple #[uv (fMul k m NR), .int .i64 0]) (fmul1_fn k m hk hm) (fun w => kr) kr ?_
  intro w15 H15; clear H14
  refine s_val (some 55) (.tuple #[uv (fMul k m NR), .int .i64 0]) (fun w => kr) kr ?_
  refine s_val (some 59) (uv (fMul k m NR)) (fun w => kr) kr ?_
  refine s_val (some 60) (.int .i64 0) (fun w => kr) kr ?_
  refine s_alloc H15 (some 17) 24 (.agg Z4) kr kr kr ?_
  intro b7 w16 H16; clear H15
  refine s_store H16 0 [(b7, Oc (uv (fMul k m NR)) 24), (b6, Oc (pv (Ec.ofPt (Ec.Pt.add (Ec.mulP Ec.G n) (Ec.mulP (Ec.mulP Ec.G k) m)))) 26), (b5, Oc (pv (Ec.ofPt (Ec.mulP (Ec.mulP Ec.G k) m))) 26), (b4, Oc (pv (Ec.ofPt (Ec.mulP Ec.G k))) 26), (b3, Oc (uv k) 24), (b2, Oc (uv m) 24), (b1, Oc (uv n) 24), ((G7 8).b, Oc (pv (Ec.ofPt (Ec.Pt.add (Ec.mulP Ec.G n) (Ec.mulP (Ec.mulP Ec.G k) m)))) 26), ((G8 6).b, Oc (pv (Ec.ofPt (Ec.mulP Ec.G n))) 26)] 24 (.tmp 17) (.tmp 59) b7 (0) Z4 (Value.cells (uv (fMul k m NR))) 24 (uv (fMul k m NR)) kr kr kr kr kr kr (of_decide_eq_true kr) kr kr ?_
  intro w17 H17; clear H16
  refine s_val (some 18) (.int .i64 0) (fun w => kr) kr ?_
  refine s_nil ?_
  refine g_sreg [0, 1, 2, 3, 4, 5, 6, 7, 8] kr kr ?_
  refine s_load H17 (some 62) 24 (.tmp 3) 6 b1 (Value.cells (uv n)) 24 (0, 0) kr kr kr kr kr ?_
  refine s_load H17 (some 63) 24 (.tmp 17) 0 b7 (Value.cells (uv (fMul k m NR))) 24 (0, 0) kr kr kr kr kr ?_
  refine s_call H17 (some 64) 24 #[uv n, uv (fMul k m NR), .int .i64 1] (.tuple #[uv (fAdd n (fMul k m NR) NR), .int .i64 0]) (fadd1_fn n (fMul k m NR) hn (fMul_lt nr_ok)) (fun w => kr) kr ?_
  intro w18 H18; clear H17
  refine s_val (some 61) (.tuple #[uv (fAdd n (fMul k m NR) NR), .int .i64 0]) (fun w => kr) kr ?_
  refine s_val (some 65) (uv (fAdd n (fMul k m NR) NR)) (fun w => kr) kr ?_
  refine s_val (some 66) (.int .i64 0) (fun w => kr) kr ?_
  refine s_alloc H18 (some 19) 24 (.agg Z4) kr kr kr ?_
  intro b8 w19 H19; clear H18
  refine s_store H19 0 [(b8, Oc (uv (fAdd n (fMul k m NR) NR)) 24), (b7, Oc (uv (fMul k m NR)) 24), (b6, Oc (pv (Ec.ofPt (Ec.Pt.add (Ec.mulP Ec.G n) (Ec.mulP (Ec.mulP Ec.G k) m)))) 26), (b5, Oc (pv (Ec.ofPt (Ec.mulP (Ec.mulP Ec.G k) m))) 26), (b4, Oc (pv (Ec.ofPt (Ec.mulP Ec.G k))) 26), (b3, Oc (uv k) 24), (b2, Oc (uv m) 24), (b1, Oc (uv n) 24), ((G7 8).b, Oc (pv (Ec.ofPt (Ec.Pt.add (Ec.mulP Ec.G n) (Ec.mulP (Ec.mulP Ec.G k) m)))) 26), ((G8 6).b, Oc (pv (Ec.ofPt (Ec.mulP Ec.G n))) 26)] 24 (.tmp 19) (.tmp 65) b8 (0) Z4 (Value.cells (uv (fAdd n (fMul k m NR) NR))) 24 (uv (fAdd n (fMul k m NR) NR)) kr kr kr kr kr kr (of_decide_eq_true kr) kr kr ?_
  intro w20 H20; clear H19
  refine s_val (some 20) (.int .i64 0) (fun w => kr) kr ?_
  refine s_nil ?_
  refine g_sreg [0, 1, 2, 3, 4, 5, 6, 7] kr kr ?_
  refine s_load H20 (some 68) 24 (.tmp 19) 0 b8 (Value.cells (uv (fAdd n (fMul k m NR) NR))) 24 (0, 0) kr kr kr kr kr ?_
  refine s_call H20 (some 69) 9 #[uv (fAdd n (fMul k m NR) NR)] (.tuple #[pv (Ec.ofPt (Ec.mulP Ec.G (fAdd n (fMul k m NR) NR))), .bool true]) (at6_fn (fAdd n (fMul k m NR) NR) (fAdd_lt nr_ok)) (fun w => kr) kr ?_
  intro w21 H21; clear H20
  refine s_val (some 67) (.tuple #[pv (Ec.ofPt (Ec.mulP Ec.G (fAdd n (fMul k m NR) NR))), .bool true]) (fun w => kr) kr ?_
  refine s_val (some 70) (pv (Ec.ofPt (Ec.mulP Ec.G (fAdd n (fMul k m NR) NR)))) (fun w => kr) kr ?_
  refine s_val (some 71) (.bool true) (fun w => kr) kr ?_
  refine s_alloc H21 (some 21) 26 (.agg Z9) kr kr kr ?_
  intro b9 w22 H22; clear H21
  refine s_store H22 0 [(b9, Oc (pv (Ec.ofPt (Ec.mulP Ec.G (fAdd n (fMul k m NR) NR)))) 26), (b8, Oc (uv (fAdd n (fMul k m NR) NR)) 24), (b7, Oc (uv (fMul k m NR)) 24), (b6, Oc (pv (Ec.ofPt (Ec.Pt.add (Ec.mulP Ec.G n) (Ec.mulP (Ec.mulP Ec.G k) m)))) 26), (b5, Oc (pv (Ec.ofPt (Ec.mulP (Ec.mulP Ec.G k) m))) 26), (b4, Oc (pv (Ec.ofPt (Ec.mulP Ec.G k))) 26), (b3, Oc (uv k) 24), (b2, Oc (uv m) 24), (b1, Oc (uv n) 24), ((G7 8).b, Oc (pv (Ec.ofPt (Ec.Pt.add (Ec.mulP Ec.G n) (Ec.mulP (Ec.mulP Ec.G k) m)))) 26), ((G8 6).b, Oc (pv (Ec.ofPt (Ec.mulP Ec.G n))) 26)] 26 (.tmp 21) (.tmp 70) b9 (0) Z9 (Value.cells (pv (Ec.ofPt (Ec.mulP Ec.G (fAdd n (fMul k m NR) NR))))) 26 (pv (Ec.ofPt (Ec.mulP Ec.G (fAdd n (fMul k m NR) NR)))) kr kr kr kr kr kr (of_decide_eq_true kr) kr kr ?_
  intro w23 H23; clear H22
  refine s_val (some 22) (.bool true) (fun w => kr) kr ?_
  refine s_nil ?_
  refine g_sreg [0, 1, 2, 3, 4, 5, 6, 7, 8, 9, 10, 11, 12, 13, 14, 15, 16, 17, 18, 19, 20, 21, 22, 23, 24, 25, 26, 27] kr kr ?_
  refine s_val (some 72) (.int .i64 0) (fun w => kr) kr ?_
  refine s_val (some 73) (.bool true) (fun w => kr) kr ?_
  refine s_val (some 74) (.bool true) (fun w => kr) kr ?_
  refine s_val (some 75) (.int .i64 0) (fun w => kr) kr ?_
  refine s_val (some 76) (.int .i64 0) (fun w => kr) kr ?_
  refine s_val (some 77) (.bool true) (fun w => kr) kr ?_
  refine s_val (some 78) (.bool true) (fun w => kr) kr ?_
  refine s_val (some 79) (.bool true) (fun w => kr) kr ?_
  refine s_val (some 80) (.int .i64 0) (fun w => kr) kr ?_
  refine s_val (some 81) (.int .i64 0) (fun w => kr) kr ?_
  refine s_val (some 82) (.bool true) (fun w => kr) kr ?_
  refine s_val (some 83) (.bool true) (fun w => kr) kr ?_
  refine s_val (some 84) (.bool true) (fun w => kr) kr ?_
  refine s_val (some 85) (.int .i64 0) (fun w => kr) kr ?_
  refine s_val (some 86) (.int .i64 0) (fun w => kr) kr ?_
  refine s_val (some 87) (.bool true) (fun w => kr) kr ?_
  refine s_val (some 88) (.bool true) (fun w => kr) kr ?_
  refine s_val (some 89) (.bool true) (fun w => kr) kr ?_
  refine s_val (some 90) (.int .i64 0) (fun w => kr) kr ?_
  refine s_val (some 91) (.int .i64 0) (fun w => kr) kr ?_
  refine s_val (some 92) (.bool true) (fun w => kr) kr ?_
  refine s_val (some 93) (.bool true) (fun w => kr) kr ?_
  refine s_val (some 94) (.bool true) (fun w => kr) kr ?_
  refine s_val (some 95) (.int .i64 0) (fun w => kr) kr ?_
  refine s_val (some 96) (.int .i64 0) (fun w => kr) kr ?_
  refine s_val (some 97) (.bool true) (fun w => kr) kr ?_
  refine s_val (some 98) (.bool true) (fun w => kr) kr ?_
  refine s_val (some 23) (.bool true) (fun w => kr) kr ?_
  refine s_nil ?_
  refine g_sreg [0, 1, 2, 3, 4, 5, 6, 7, 8, 9, 10, 11, 12, 13, 14, 15, 16, 17, 18, 19, 20] kr kr ?_
  refine s_call H23 (some 99) 12 #[] (.bool true) alive06_fn (fun w => kr) kr ?_
  intro w24 H24; clear H23
  refine s_val (some 100) (.bool true) (fun w => kr) kr ?_
  refine s_val (some 101) (.bool true) (fun w => kr) kr ?_
  refine s_val (some 102) (.bool true) (fun w => kr) kr ?_
  refine s_val (some 103) (.bool true) (fun w => kr) kr ?_
  refine s_val (some 104) (.bool true) (fun w => kr) kr ?_
  refine s_val (some 105) (.bool true) (fun w => kr) kr ?_
  refine s_val (some 106) (.bool true) (fun w => kr) kr ?_
  refine s_val (some 107) (.bool true) (fun w => kr) kr ?_
  refine s_val (some 108) (.bool true) (fun w => kr) kr ?_
  refine s_val (some 109) (.bool true) (fun w => kr) kr ?_
  refine s_load H24 (some 110) 26 (.tmp 9) 9 (G7 8).b (Value.cells (pv (Ec.ofPt (Ec.Pt.add (Ec.mulP Ec.G n) (Ec.mulP (Ec.mulP Ec.G k) m))))) 26 (0, 0) kr kr kr kr kr ?_
  refine s_load H24 (some 111) 26 (.tmp 15) 3 b6 (Value.cells (pv (Ec.ofPt (Ec.Pt.add (Ec.mulP Ec.G n) (Ec.mulP (Ec.mulP Ec.G k) m))))) 26 (0, 0) kr kr kr kr kr ?_
  refine s_opE (some 112) _ (.bool (decide ((Ec.ofPt (Ec.Pt.add (Ec.mulP Ec.G n) (Ec.mulP (Ec.mulP Ec.G k) m))) = (Ec.ofPt (Ec.Pt.add (Ec.mulP Ec.G n) (Ec.mulP (Ec.mulP Ec.G k) m)))))) (.bool true) kr (fun o w ho => eqP_run (x := (.tmp 110)) (y := (.tmp 111)) (Ec.ofPt (Ec.Pt.add (Ec.mulP Ec.G n) (Ec.mulP (Ec.mulP Ec.G k) m))) (Ec.ofPt (Ec.Pt.add (Ec.mulP Ec.G n) (Ec.mulP (Ec.mulP Ec.G k) m))) (Ec.ofPt_ok _) (Ec.ofPt_ok _) w ho kr kr) (by rw [decide_eq_true (p := (Ec.ofPt (Ec.Pt.add (Ec.mulP Ec.G n) (Ec.mulP (Ec.mulP Ec.G k) m))) = (Ec.ofPt (Ec.Pt.add (Ec.mulP Ec.G n) (Ec.mulP (Ec.mulP Ec.G k) m)))) rfl] <;> rfl) kr ?_
  refine s_val (some 113) (.bool true) (fun w => kr) kr ?_
  refine s_val (some 114) (.bool true) (fun w => kr) kr ?_
  refine s_load H24 (some 115) 26 (.tmp 9) 9 (G7 8).b (Value.cells (pv (Ec.ofPt (Ec.Pt.add (Ec.mulP Ec.G n) (Ec.mulP (Ec.mulP Ec.G k) m))))) 26 (0, 0) kr kr kr kr kr ?_
  refine s_load H24 (some 116) 26 (.tmp 21) 0 b9 (Value.cells (pv (Ec.ofPt (Ec.mulP Ec.G (fAdd n (fMul k m NR) NR))))) 26 (0, 0) kr kr kr kr kr ?_
  refine s_opE (some 117) _ (.bool (decide ((Ec.ofPt (Ec.Pt.add (Ec.mulP Ec.G n) (Ec.mulP (Ec.mulP Ec.G k) m))) = (Ec.ofPt (Ec.mulP Ec.G (fAdd n (fMul k m NR) NR)))))) (.bool true) kr (fun o w ho => eqP_run (x := (.tmp 115)) (y := (.tmp 116)) (Ec.ofPt (Ec.Pt.add (Ec.mulP Ec.G n) (Ec.mulP (Ec.mulP Ec.G k) m))) (Ec.ofPt (Ec.mulP Ec.G (fAdd n (fMul k m NR) NR))) (Ec.ofPt_ok _) (Ec.ofPt_ok _) w ho kr kr) (by rw [decide_eq_true (p := (Ec.ofPt (Ec.Pt.add (Ec.mulP Ec.G n) (Ec.mulP (Ec.mulP Ec.G k) m))) = (Ec.ofPt (Ec.mulP Ec.G (fAdd n (fMul k m NR) NR)))) (by rw [sum_at])] <;> rfl) kr ?_
  refine s_val (some 118) (.bool true) (fun w => kr) kr ?_
  refine s_val (some 6) (.bool true) (fun w => kr) kr ?_
  refine s_nil ?_
  refine g_ret kr ?_
  show ∃ vs, Res _ _ _ _ vs ∧ _
  refine ⟨[.bool true], (.tmp (.bool true) kr .nil), ?_, H24.below⟩
  rfl
end Go.Proofs.Ytljhbhhpfkmemaa
