/-
  The reference: To.
-/
import Derived.Test.YtljhbhhpfkmemaaNum
import Derived.Test.YtljhbhhpfkmemaaUlib
import Derived.Test.YtljhbhhpfkmemaaRefM
import Derived.Test.YtljhbhhpfkmemaaRefX
namespace Go.Proofs.Ytljhbhhpfkmemaa
open Go Go.RowKit
set_option linter.unusedVariables false
set_option maxRecDepth 100000 in
set_option maxHeartbeats 2000000 in
theorem to_fn (x : List Nat) (ba nx ca : Nat) (curA : Array Value) (hnx : nx = List.length x) (hA : Rw 1 curA ca nx (cellsD x)) (lx : List.length x ≤ 100000) (hx : Ok x) : FnP Try.prog 71 #[.slice (some ⟨ba, 0, none⟩) nx ca] (fun w => w.heap[ba]? = some (.cells curA 3 (0, 0))) (uv (vl x % big)) := by
  subst hnx
  have hd0 := ok_getD hx 0
  have hd1 := ok_getD hx 1
  have hd2 := ok_getD hx 2
  have hd3 := ok_getD hx 3
  have hd4 := ok_getD hx 4
  have hd5 := ok_getD hx 5
  have hd6 := ok_getD hx 6
  have hd7 := ok_getD hx 7
  have hd8 := ok_getD hx 8
  have hd9 := ok_getD hx 9
  have hd10 := ok_getD hx 10
  have hd11 := ok_getD hx 11
  have hd12 := ok_getD hx 12
  have hd13 := ok_getD hx 13
  have hd14 := ok_getD hx 14
  have hd15 := ok_getD hx 15
  refine FnP.intro (c := codeOf Try.f71) [.cell 2 24] 24 Try.func71 kr kr kr fun w hpre => ?_
  have H0 := St.start w
  refine g_sreg [0] kr kr ?_
  refine s_alloc H0 (some 2) 24 (.agg Z4) kr kr kr ?_
  intro b1 w1 H1; clear H0
  refine s_nil ?_
  refine g_sreg [0, 1, 2] kr kr ?_
  refine s_val (some 5) (.agg Z4) (fun w => kr) kr ?_
  refine s_alloc H1 (some 3) 24 (.agg Z4) kr kr kr ?_
  intro b2 w2 H2; clear H1
  refine s_store H2 0 [(b2, Od Z4 24), (b1, Od Z4 24)] 24 (.tmp 3) (.tmp 5) b2 (0) Z4 Z4 24 (.agg Z4) kr kr kr kr kr kr (of_decide_eq_true kr) kr kr ?_
  intro w3 H3; clear H2
  refine s_nil ?_
  refine g_seq kr ?_
  refine g_sreg [0] kr kr ?_
  refine s_val (some 4) (.int .i64 15) (fun w => kr) kr ?_
  refine s_nil ?_
  refine g_block 0 kr ?_
  refine g_first kr ?_
  refine g_seq kr ?_
  refine g_sreg [0, 1] kr kr ?_
  refine s_val (some 6) (.int .i64 15) (fun w => kr) kr ?_
  refine s_val (some 7) (.bool true) (fun w => kr) kr ?_
  refine s_nil ?_
  refine g_cond_t kr kr ?_
  refine g_skip kr ?_
  show WP _ _ _ _ _ _
  refine g_seq kr ?_
  refine g_block 1 kr ?_
  refine D2.g_draw0 [0, 1, 2, 3, 4, 5, 6, 7, 8, 9, 10, 11, 12, 13] [((some 10), fun _ => .int .i64 15), ((some 11), fun _ => .int .i64 3), ((some 12), fun _ => .int .i64 15), ((some 13), fun _ => .int .i64 3), ((some 14), fun _ => .pointer (some ⟨b2, 3, none⟩)), ((some 15), fun _ => .int .u64 0), ((some 16), fun _ => .int .u64 0), ((some 17), fun _ => .slice (some ⟨ba, 0, none⟩) (List.length x) ca), ((some 18), fun _ => .int .i64 15), ((some 19), fun _ => .int .i64 ((List.getD x 15 0 : Nat) : Int)), ((some 20), fun _ => .int .u64 ((List.getD x 15 0 : Nat) : Int)), ((some 21), fun _ => .int .u64 ((List.getD x 15 0 : Nat) : Int)), ((some 22), fun _ => .pointer (some ⟨b2, 3, none⟩)), (none, fun _ => undef)] (D2.Pre w.heap.size w (fun L g => [(true, (bif L 13 then (b2, Obj.cells #[.int .u64 0, .int .u64 0, .int .u64 0, .int .u64 ((List.getD x 15 0 : Nat) : Int)] 24 (0, 0)) else (b2, Od Z4 24))), (true, (b1, Od Z4 24))]) (fun L g => True)) kr kr kr ⟨D2.StE.of H3.drew _ kr, trivial⟩ ⟨?_, ?_, ?_, ?_, ?_, ?_, ?_, ?_, ?_, ?_, ?_, ?_, ?_, ?_, trivial⟩ ?_
  · exact D2.gv_val (fun _ _ _ h => h) (fun g w => kr)
  · exact D2.gv_val (fun _ _ _ h => h) (fun g w => kr)
  · exact D2.gv_val (fun _ _ _ h => h) (fun g w => kr)
  · exact D2.gv_val (fun _ _ _ h => h) (fun g w => kr)
  · exact D2.gv_val (fun _ _ _ h => h) (fun g w => kr)
  · exact D2.gv_load1 22 (.tmp 14) 0 (fun g => b2) (fun g => 3) (fun g => Z4) 24 (0, 0) (fun _ _ _ h => h) (fun g => kr) (fun g => kr) (fun L g hN => (by have hL13 : L 13 = false := (hN.post 13 kr); exact D2.ent_get' (p := true) (e := (bif L 13 then (b2, Obj.cells #[.int .u64 0, .int .u64 0, .int .u64 0, .int .u64 ((List.getD x 15 0 : Nat) : Int)] 24 (0, 0)) else (b2, Od Z4 24))) kr (by rfl) (by simp only [hL13, cond_true, cond_false] <;> rfl))) kr (fun L g hN hF => kr)
  · exact D2.gv_val (fun _ _ _ h => h) (fun g w => kr)
  · exact D2.gv_val (fun _ _ _ h => h) (fun g w => kr)
  · exact D2.gv_val (fun _ _ _ h => h) (fun g w => kr)
  · exact D2.gv_callP 63 (fun g => #[.slice (some ⟨ba, 0, none⟩) (List.length x) ca, .int .i64 15]) (fun g => fun w => w.heap[ba]? = some (.cells curA 3 (0, 0))) (fun _ _ _ h => h) (fun L g hN hF => by exact digit_fn x ba (List.length x) ca curA rfl hA (by omega) 15 (by omega)) (fun L g w hN hE hF => by exact (hE.old hpre (lt_of_heap hpre))) (fun g w => kr)
  · exact D2.gv_valE (fun _ _ _ h => h) (V' := .int .u64 (IntKind.u64.wrap (((List.getD x 15 0 : Nat) : Int)))) (fun g w => kr) (int_eq (wrapN_u64 (a := List.getD x 15 0) (by omega)))
  · exact D2.gv_valE (fun _ _ _ h => h) (V' := .int .u64 (IntKind.u64.wrap (0 + ((List.getD x 15 0 : Nat) : Int)))) (fun g w => kr) (int_eq (show IntKind.u64.wrap ((0 : Int) + ((List.getD x 15 0 : Nat) : Int)) = _ by rw [Int.zero_add]; exact wrapN_u64 (by omega)))
  · exact D2.gv_val (fun _ _ _ h => h) (fun g w => kr)
  · exact D2.gv_store 0 22 (.tmp 22) (.tmp 21) (fun g => b2) (fun g => 3) Z4 #[.int .u64 0, .int .u64 0, .int .u64 0, .int .u64 ((List.getD x 15 0 : Nat) : Int)] 24 (.int .u64 ((List.getD x 15 0 : Nat) : Int)) (fun g => kr) (fun g => kr) (fun g => kr) kr kr (fun g => (of_decide_eq_true kr)) (fun g => kr) (fun L g hN => ⟨(by have hL13 : L 13 = false := hN.1; exact D2.ent_get' (p := true) (e := (bif L 13 then (b2, Obj.cells #[.int .u64 0, .int .u64 0, .int .u64 0, .int .u64 ((List.getD x 15 0 : Nat) : Int)] 24 (0, 0)) else (b2, Od Z4 24))) kr (by rfl) (by simp only [hL13, cond_true, cond_false] <;> rfl)), kr⟩) (fun L g hN hF => hF)
  intro L0 G4 w4 hall HL; clear H3
  have H4 : St w.heap.size w w4 [(b2, Obj.cells #[.int .u64 0, .int .u64 0, .int .u64 0, .int .u64 ((List.getD x 15 0 : Nat) : Int)] 24 (0, 0)), (b1, Od Z4 24)] := by have e13 := hall 13 (Nat.le_of_ble_eq_true kr); have hS := D2.StE.st HL.1; simp only [e13, cond_true, D2.pres] at hS; exact hS
  clear HL hall
  show WP _ _ _ _ _ _
  refine g_reg0 [0, 1, 2] kr ?_
  refine s_val (some 8) (.int .i64 15) (fun w => kr) kr ?_
  refine s_val (some 9) (.int .i64 14) (fun w => kr) kr ?_
  refine s_val (some 4) (.int .i64 14) (fun w => kr) kr ?_
  refine s_nil ?_
  show WPL _ _ _ _ _ _
  refine g_next ?_
  refine g_seq kr ?_
  refine g_sreg [0, 1] kr kr ?_
  refine s_val (some 6) (.int .i64 14) (fun w => kr) kr ?_
  refine s_val (some 7) (.bool true) (fun w => kr) kr ?_
  refine s_nil ?_
  refine g_cond_t kr kr ?_
  refine g_skip kr ?_
  show WP _ _ _ _ _ _
  refine g_seq kr ?_
  refine g_block 1 kr ?_
  refine D2.g_draw0 [0, 1, 2, 3, 4, 5, 6, 7, 8, 9, 10, 11, 12, 13] [((some 10), fun _ => .int .i64 14), ((some 11), fun _ => .int .i64 3), ((some 12), fun _ => .int .i64 14), ((some 13), fun _ => .int .i64 3), ((some 14), fun _ => .pointer (some ⟨b2, 3, none⟩)), ((some 15), fun _ => .int .u64 ((List.getD x 15 0 : Nat) : Int)), ((some 16), fun _ => .int .u64 (((List.getD x 15 0) * 65536 : Nat) : Int)), ((some 17), fun _ => .slice (some ⟨ba, 0, none⟩) (List.length x) ca), ((some 18), fun _ => .int .i64 14), ((some 19), fun _ => .int .i64 ((List.getD x 14 0 : Nat) : Int)), ((some 20), fun _ => .int .u64 ((List.getD x 14 0 : Nat) : Int)), ((some 21), fun _ => .int .u64 ((((List.getD x 15 0) * 65536) + (List.getD x 14 0) : Nat) : Int)), ((some 22), fun _ => .pointer (some ⟨b2, 3, none⟩)), (none, fun _ => undef)] (D2.Pre w.heap.size w (fun L g => [(true, (bif L 13 then (b2, Obj.cells #[.int .u64 0, .int .u64 0, .int .u64 0, .int .u64 ((((List.getD x 15 0) * 65536) + (List.getD x 14 0) : Nat) : Int)] 24 (0, 0)) else (b2, Obj.cells #[.int .u64 0, .int .u64 0, .int .u64 0, .int .u64 ((List.getD x 15 0 : Nat) : Int)] 24 (0, 0)))), (true, (b1, Od Z4 24))]) (fun L g => True)) kr kr kr ⟨D2.StE.of H4.drew _ kr, trivial⟩ ⟨?_, ?_, ?_, ?_, ?_, ?_, ?_, ?_, ?_, ?_, ?_, ?_, ?_, ?_, trivial⟩ ?_
  · exact D2.gv_val (fun _ _ _ h => h) (fun g w => kr)
  · exact D2.gv_val (fun _ _ _ h => h) (fun g w => kr)
  · exact D2.gv_val (fun _ _ _ h => h) (fun g w => kr)
  · exact D2.gv_val (fun _ _ _ h => h) (fun g w => kr)
  · exact D2.gv_val (fun _ _ _ h => h) (fun g w => kr)
  · exact D2.gv_load1 22 (.tmp 14) 0 (fun g => b2) (fun g => 3) (fun g => #[.int .u64 0, .int .u64 0, .int .u64 0, .int .u64 ((List.getD x 15 0 : Nat) : Int)]) 24 (0, 0) (fun _ _ _ h => h) (fun g => kr) (fun g => kr) (fun L g hN => (by have hL13 : L 13 = false := (hN.post 13 kr); exact D2.ent_get' (p := true) (e := (bif L 13 then (b2, Obj.cells #[.int .u64 0, .int .u64 0, .int .u64 0, .int .u64 ((((List.getD x 15 0) * 65536) + (List.getD x 14 0) : Nat) : Int)] 24 (0, 0)) else (b2, Obj.cells #[.int .u64 0, .int .u64 0, .int .u64 0, .int .u64 ((List.getD x 15 0 : Nat) : Int)] 24 (0, 0)))) kr (by rfl) (by simp only [hL13, cond_true, cond_false] <;> rfl))) kr (fun L g hN hF => kr)
  · exact D2.gv_valE (fun _ _ _ h => h) (V' := .int .u64 (IntKind.u64.wrap (((List.getD x 15 0 : Nat) : Int) * 65536))) (fun g w => kr) (int_eq (wrapMul_u64 (a := List.getD x 15 0) (b := 65536) (by omega)))
  · exact D2.gv_val (fun _ _ _ h => h) (fun g w => kr)
  · exact D2.gv_val (fun _ _ _ h => h) (fun g w => kr)
  · exact D2.gv_callP 63 (fun g => #[.slice (some ⟨ba, 0, none⟩) (List.length x) ca, .int .i64 14]) (fun g => fun w => w.heap[ba]? = some (.cells curA 3 (0, 0))) (fun _ _ _ h => h) (fun L g hN hF => by exact digit_fn x ba (List.length x) ca curA rfl hA (by omega) 14 (by omega)) (fun L g w hN hE hF => by exact (hE.old hpre (lt_of_heap hpre))) (fun g w => kr)
  · exact D2.gv_valE (fun _ _ _ h => h) (V' := .int .u64 (IntKind.u64.wrap (((List.getD x 14 0 : Nat) : Int)))) (fun g w => kr) (int_eq (wrapN_u64 (a := List.getD x 14 0) (by omega)))
  · exact D2.gv_valE (fun _ _ _ h => h) (V' := .int .u64 (IntKind.u64.wrap ((((List.getD x 15 0) * 65536 : Nat) : Int) + ((List.getD x 14 0 : Nat) : Int)))) (fun g w => kr) (int_eq (wrapAdd_u64 (a := (List.getD x 15 0) * 65536) (b := List.getD x 14 0) (by omega)))
  · exact D2.gv_val (fun _ _ _ h => h) (fun g w => kr)
  · exact D2.gv_store 0 22 (.tmp 22) (.tmp 21) (fun g => b2) (fun g => 3) #[.int .u64 0, .int .u64 0, .int .u64 0, .int .u64 ((List.getD x 15 0 : Nat) : Int)] #[.int .u64 0, .int .u64 0, .int .u64 0, .int .u64 ((((List.getD x 15 0) * 65536) + (List.getD x 14 0) : Nat) : Int)] 24 (.int .u64 ((((List.getD x 15 0) * 65536) + (List.getD x 14 0) : Nat) : Int)) (fun g => kr) (fun g => kr) (fun g => kr) kr kr (fun g => (of_decide_eq_true kr)) (fun g => kr) (fun L g hN => ⟨(by have hL13 : L 13 = false := hN.1; exact D2.ent_get' (p := true) (e := (bif L 13 then (b2, Obj.cells #[.int .u64 0, .int .u64 0, .int .u64 0, .int .u64 ((((List.getD x 15 0) * 65536) + (List.getD x 14 0) : Nat) : Int)] 24 (0, 0)) else (b2, Obj.cells #[.int .u64 0, .int .u64 0, .int .u64 0, .int .u64 ((List.getD x 15 0 : Nat) : Int)] 24 (0, 0)))) kr (by rfl) (by simp only [hL13, cond_true, cond_false] <;> rfl)), kr⟩) (fun L g hN hF => hF)
  intro L0 G5 w5 hall HL; clear H4
  have H5 : St w.heap.size w w5 [(b2, Obj.cells #[.int .u64 0, .int .u64 0, .int .u64 0, .int .u64 ((((List.getD x 15 0) * 65536) + (List.getD x 14 0) : Nat) : Int)] 24 (0, 0)), (b1, Od Z4 24)] := by have e13 := hall 13 (Nat.le_of_ble_eq_true kr); have hS := D2.StE.st HL.1; simp only [e13, cond_true, D2.pres] at hS; exact hS
  clear HL hall
  show WP _ _ _ _ _ _
  refine g_reg0 [0, 1, 2] kr ?_
  refine s_val (some 8) (.int .i64 14) (fun w => kr) kr ?_
  refine s_val (some 9) (.int .i64 13) (fun w => kr) kr ?_
  refine s_val (some 4) (.int .i64 13) (fun w => kr) kr ?_
  refine s_nil ?_
  show WPL _ _ _ _ _ _
  refine g_next ?_
  refine g_seq kr ?_
  refine g_sreg [0, 1] kr kr ?_
  refine s_val (some 6) (.int .i64 13) (fun w => kr) kr ?_
  refine s_val (some 7) (.bool true) (fun w => kr) kr ?_
  refine s_nil ?_
  refine g_cond_t kr kr ?_
  refine g_skip kr ?_
  show WP _ _ _ _ _ _
  refine g_seq kr ?_
  refine g_block 1 kr ?_
  refine D2.g_draw0 [0, 1, 2, 3, 4, 5, 6, 7, 8, 9, 10, 11, 12, 13] [((some 10), fun _ => .int .i64 13), ((some 11), fun _ => .int .i64 3), ((some 12), fun _ => .int .i64 13), ((some 13), fun _ => .int .i64 3), ((some 14), fun _ => .pointer (some ⟨b2, 3, none⟩)), ((some 15), fun _ => .int .u64 ((((List.getD x 15 0) * 65536) + (List.getD x 14 0) : Nat) : Int)), ((some 16), fun _ => .int .u64 (((((List.getD x 15 0) * 65536) + (List.getD x 14 0)) * 65536 : Nat) : Int)), ((some 17), fun _ => .slice (some ⟨ba, 0, none⟩) (List.length x) ca), ((some 18), fun _ => .int .i64 13), ((some 19), fun _ => .int .i64 ((List.getD x 13 0 : Nat) : Int)), ((some 20), fun _ => .int .u64 ((List.getD x 13 0 : Nat) : Int)), ((some 21), fun _ => .int .u64 ((((((List.getD x 15 0) * 65536) + (List.getD x 14 0)) * 65536) + (List.getD x 13 0) : Nat) : Int)), ((some 22), fun _ => .pointer (some ⟨b2, 3, none⟩)), (none, fun _ => undef)] (D2.Pre w.heap.size w (fun L g => [(true, (bif L 13 then (b2, Obj.cells #[.int .u64 0, .int .u64 0, .int .u64 0, .int .u64 ((((((List.getD x 15 0) * 65536) + (List.getD x 14 0)) * 65536) + (List.getD x 13 0) : Nat) : Int)] 24 (0, 0)) else (b2, Obj.cells #[.int .u64 0, .int .u64 0, .int .u64 0, .int .u64 ((((List.getD x 15 0) * 65536) + (List.getD x 14 0) : Nat) : Int)] 24 (0, 0)))), (true, (b1, Od Z4 24))]) (fun L g => True)) kr kr kr ⟨D2.StE.of H5.drew _ kr, trivial⟩ ⟨?_, ?_, ?_, ?_, ?_, ?_, ?_, ?_, ?_, ?_, ?_, ?_, ?_, ?_, trivial⟩ ?_
  · exact D2.gv_val (fun _ _ _ h => h) (fun g w => kr)
  · exact D2.gv_val (fun _ _ _ h => h) (fun g w => kr)
  · exact D2.gv_val (fun _ _ _ h => h) (fun g w => kr)
  · exact D2.gv_val (fun _ _ _ h => h) (fun g w => kr)
  · exact D2.gv_val (fun _ _ _ h => h) (fun g w => kr)
  · exact D2.gv_load1 22 (.tmp 14) 0 (fun g => b2) (fun g => 3) (fun g => #[.int .u64 0, .int .u64 0, .int .u64 0, .int .u64 ((((List.getD x 15 0) * 65536) + (List.getD x 14 0) : Nat) : Int)]) 24 (0, 0) (fun _ _ _ h => h) (fun g => kr) (fun g => kr) (fun L g hN => (by have hL13 : L 13 = false := (hN.post 13 kr); exact D2.ent_get' (p := true) (e := (bif L 13 then (b2, Obj.cells #[.int .u64 0, .int .u64 0, .int .u64 0, .int .u64 ((((((List.getD x 15 0) * 65536) + (List.getD x 14 0)) * 65536) + (List.getD x 13 0) : Nat) : Int)] 24 (0, 0)) else (b2, Obj.cells #[.int .u64 0, .int .u64 0, .int .u64 0, .int .u64 ((((List.getD x 15 0) * 65536) + (List.getD x 14 0) : Nat) : Int)] 24 (0, 0)))) kr (by rfl) (by simp only [hL13, cond_true, cond_false] <;> rfl))) kr (fun L g hN hF => kr)
  · exact D2.gv_valE (fun _ _ _ h => h) (V' := .int .u64 (IntKind.u64.wrap (((((List.getD x 15 0) * 65536) + (List.getD x 14 0) : Nat) : Int) * 65536))) (fun g w => kr) (int_eq (wrapMul_u64 (a := ((List.getD x 15 0) * 65536) + (List.getD x 14 0)) (b := 65536) (by omega)))
  · exact D2.gv_val (fun _ _ _ h => h) (fun g w => kr)
  · exact D2.gv_val (fun _ _ _ h => h) (fun g w => kr)
  · exact D2.gv_callP 63 (fun g => #[.slice (some ⟨ba, 0, none⟩) (List.length x) ca, .int .i64 13]) (fun g => fun w => w.heap[ba]? = some (.cells curA 3 (0, 0))) (fun _ _ _ h => h) (fun L g hN hF => by exact digit_fn x ba (List.length x) ca curA rfl hA (by omega) 13 (by omega)) (fun L g w hN hE hF => by exact (hE.old hpre (lt_of_heap hpre))) (fun g w => kr)
  · exact D2.gv_valE (fun _ _ _ h => h) (V' := .int .u64 (IntKind.u64.wrap (((List.getD x 13 0 : Nat) : Int)))) (fun g w => kr) (int_eq (wrapN_u64 (a := List.getD x 13 0) (by omega)))
  · exact D2.gv_valE (fun _ _ _ h => h) (V' := .int .u64 (IntKind.u64.wrap ((((((List.getD x 15 0) * 65536) + (List.getD x 14 0)) * 65536 : Nat) : Int) + ((List.getD x 13 0 : Nat) : Int)))) (fun g w => kr) (int_eq (wrapAdd_u64 (a := (((List.getD x 15 0) * 65536) + (List.getD x 14 0)) * 65536) (b := List.getD x 13 0) (by omega)))
  · exact D2.gv_val (fun _ _ _ h => h) (fun g w => kr)
  · exact D2.gv_store 0 22 (.tmp 22) (.tmp 21) (fun g => b2) (fun g => 3) #[.int .u64 0, .int .u64 0, .int .u64 0, .int .u64 ((((List.getD x 15 0) * 65536) + (List.getD x 14 0) : Nat) : Int)] #[.int .u64 0, .int .u64 0, .int .u64 0, .int .u64 ((((((List.getD x 15 0) * 65536) + (List.getD x 14 0)) * 65536) + (List.getD x 13 0) : Nat) : Int)] 24 (.int .u64 ((((((List.getD x 15 0) * 65536) + (List.getD x 14 0)) * 65536) + (List.getD x 13 0) : Nat) : Int)) (fun g => kr) (fun g => kr) (fun g => kr) kr kr (fun g => (of_decide_eq_true kr)) (fun g => kr) (fun L g hN => ⟨(by have hL13 : L 13 = false := hN.1; exact D2.ent_get' (p := true) (e := (bif L 13 then (b2, Obj.cells #[.int .u64 0, .int .u64 0, .int .u64 0, .int .u64 ((((((List.getD x 15 0) * 65536) + (List.getD x 14 0)) * 65536) + (List.getD x 13 0) : Nat) : Int)] 24 (0, 0)) else (b2, Obj.cells #[.int .u64 0, .int .u64 0, .int .u64 0, .int .u64 ((((List.getD x 15 0) * 65536) + (List.getD x 14 0) : Nat) : Int)] 24 (0, 0)))) kr (by rfl) (by simp only [hL13, cond_true, cond_false] <;> rfl)), kr⟩) (fun L g hN hF => hF)
  intro L0 G6 w6 hall HL; clear H5
  have H6 : St w.heap.size w w6 [(b2, Obj.cells #[.int .u64 0, .int .u64 0, .int .u64 0, .int .u64 ((((((List.getD x 15 0) * 65536) + (List.getD x 14 0)) * 65536) + (List.getD x 13 0) : Nat) : Int)] 24 (0, 0)), (b1, Od Z4 24)] := by have e13 := hall 13 (Nat.le_of_ble_eq_true kr); have hS := D2.StE.st HL.1; simp only [e13, cond_true, D2.pres] at hS; exact hS
  clear HL hall
  show WP _ _ _ _ _ _
  refine g_reg0 [0, 1, 2] kr ?_
  refine s_val (some 8) (.int .i64 13) (fun w => kr) kr ?_
  refine s_val (some 9) (.int .i64 12) (fun w => kr) kr ?_
  refine s_val (some 4) (.int .i64 12) (fun w => kr) kr ?_
  refine s_nil ?_
  show WPL _ _ _ _ _ _
  refine g_next ?_
  refine g_seq kr ?_
  refine g_sreg [0, 1] kr kr ?_
  refine s_val (some 6) (.int .i64 12) (fun w => kr) kr ?_
  refine s_val (some 7) (.bool true) (fun w => kr) kr ?_
  refine s_nil ?_
  refine g_cond_t kr kr ?_
  refine g_skip kr ?_
  show WP _ _ _ _ _ _
  refine g_seq kr ?_
  refine g_block 1 kr ?_
  refine D2.g_draw0 [0, 1, 2, 3, 4, 5, 6, 7, 8, 9, 10, 11, 12, 13] [((some 10), fun _ => .int .i64 12), ((some 11), fun _ => .int .i64 3), ((some 12), fun _ => .int .i64 12), ((some 13), fun _ => .int .i64 3), ((some 14), fun _ => .pointer (some ⟨b2, 3, none⟩)), ((some 15), fun _ => .int .u64 ((((((List.getD x 15 0) * 65536) + (List.getD x 14 0)) * 65536) + (List.getD x 13 0) : Nat) : Int)), ((some 16), fun _ => .int .u64 (((((((List.getD x 15 0) * 65536) + (List.getD x 14 0)) * 65536) + (List.getD x 13 0)) * 65536 : Nat) : Int)), ((some 17), fun _ => .slice (some ⟨ba, 0, none⟩) (List.length x) ca), ((some 18), fun _ => .int .i64 12), ((some 19), fun _ => .int .i64 ((List.getD x 12 0 : Nat) : Int)), ((some 20), fun _ => .int .u64 ((List.getD x 12 0 : Nat) : Int)), ((some 21), fun _ => .int .u64 ((((((((List.getD x 15 0) * 65536) + (List.getD x 14 0)) * 65536) + (List.getD x 13 0)) * 65536) + (List.getD x 12 0) : Nat) : Int)), ((some 22), fun _ => .pointer (some ⟨b2, 3, none⟩)), (none, fun _ => undef)] (D2.Pre w.heap.size w (fun L g => [(true, (bif L 13 then (b2, Obj.cells #[.int .u64 0, .int .u64 0, .int .u64 0, .int .u64 ((((((((List.getD x 15 0) * 65536) + (List.getD x 14 0)) * 65536) + (List.getD x 13 0)) * 65536) + (List.getD x 12 0) : Nat) : Int)] 24 (0, 0)) else (b2, Obj.cells #[.int .u64 0, .int .u64 0, .int .u64 0, .int .u64 ((((((List.getD x 15 0) * 65536) + (List.getD x 14 0)) * 65536) + (List.getD x 13 0) : Nat) : Int)] 24 (0, 0)))), (true, (b1, Od Z4 24))]) (fun L g => True)) kr kr kr ⟨D2.StE.of H6.drew _ kr, trivial⟩ ⟨?_, ?_, ?_, ?_, ?_, ?_, ?_, ?_, ?_, ?_, ?_, ?_, ?_, ?_, trivial⟩ ?_
  · exact D2.gv_val (fun _ _ _ h => h) (fun g w => kr)
  · exact D2.gv_val (fun _ _ _ h => h) (fun g w => kr)
  · exact D2.gv_val (fun _ _ _ h => h) (fun g w => kr)
  · exact D2.gv_val (fun _ _ _ h => h) (fun g w => kr)
  · exact D2.gv_val (fun _ _ _ h => h) (fun g w => kr)
  · exact D2.gv_load1 22 (.tmp 14) 0 (fun g => b2) (fun g => 3) (fun g => #[.int .u64 0, .int .u64 0, .int .u64 0, .int .u64 ((((((List.getD x 15 0) * 65536) + (List.getD x 14 0)) * 65536) + (List.getD x 13 0) : Nat) : Int)]) 24 (0, 0) (fun _ _ _ h => h) (fun g => kr) (fun g => kr) (fun L g hN => (by have hL13 : L 13 = false := (hN.post 13 kr); exact D2.ent_get' (p := true) (e := (bif L 13 then (b2, Obj.cells #[.int .u64 0, .int .u64 0, .int .u64 0, .int .u64 ((((((((List.getD x 15 0) * 65536) + (List.getD x 14 0)) * 65536) + (List.getD x 13 0)) * 65536) + (List.getD x 12 0) : Nat) : Int)] 24 (0, 0)) else (b2, Obj.cells #[.int .u64 0, .int .u64 0, .int .u64 0, .int .u64 ((((((List.getD x 15 0) * 65536) + (List.getD x 14 0)) * 65536) + (List.getD x 13 0) : Nat) : Int)] 24 (0, 0)))) kr (by rfl) (by simp only [hL13, cond_true, cond_false] <;> rfl))) kr (fun L g hN hF => kr)
  · exact D2.gv_valE (fun _ _ _ h => h) (V' := .int .u64 (IntKind.u64.wrap (((((((List.getD x 15 0) * 65536) + (List.getD x 14 0)) * 65536) + (List.getD x 13 0) : Nat) : Int) * 65536))) (fun g w => kr) (int_eq (wrapMul_u64 (a := ((((List.getD x 15 0) * 65536) + (List.getD x 14 0)) * 65536) + (List.getD x 13 0)) (b := 65536) (by omega)))
  · exact D2.gv_val (fun _ _ _ h => h) (fun g w => kr)
  · exact D2.gv_val (fun _ _ _ h => h) (fun g w => kr)
  · exact D2.gv_callP 63 (fun g => #[.slice (some ⟨ba, 0, none⟩) (List.length x) ca, .int .i64 12]) (fun g => fun w => w.heap[ba]? = some (.cells curA 3 (0, 0))) (fun _ _ _ h => h) (fun L g hN hF => by exact digit_fn x ba (List.length x) ca curA rfl hA (by omega) 12 (by omega)) (fun L g w hN hE hF => by exact (hE.old hpre (lt_of_heap hpre))) (fun g w => kr)
  · exact D2.gv_valE (fun _ _ _ h => h) (V' := .int .u64 (IntKind.u64.wrap (((List.getD x 12 0 : Nat) : Int)))) (fun g w => kr) (int_eq (wrapN_u64 (a := List.getD x 12 0) (by omega)))
  · exact D2.gv_valE (fun _ _ _ h => h) (V' := .int .u64 (IntKind.u64.wrap ((((((((List.getD x 15 0) * 65536) + (List.getD x 14 0)) * 65536) + (List.getD x 13 0)) * 65536 : Nat) : Int) + ((List.getD x 12 0 : Nat) : Int)))) (fun g w => kr) (int_eq (wrapAdd_u64 (a := (((((List.getD x 15 0) * 65536) + (List.getD x 14 0)) * 65536) + (List.getD x 13 0)) * 65536) (b := List.getD x 12 0) (by omega)))
  · exact D2.gv_val (fun _ _ _ h => h) (fun g w => kr)
  · exact D2.gv_store 0 22 (.tmp 22) (.tmp 21) (fun g => b2) (fun g => 3) #[.int .u64 0, .int .u64 0, .int .u64 0, .int .u64 ((((((List.getD x 15 0) * 65536) + (List.getD x 14 0)) * 65536) + (List.getD x 13 0) : Nat) : Int)] #[.int .u64 0, .int .u64 0, .int .u64 0, .int .u64 ((((((((List.getD x 15 0) * 65536) + (List.getD x 14 0)) * 65536) + (List.getD x 13 0)) * 65536) + (List.getD x 12 0) : Nat) : Int)] 24 (.int .u64 ((((((((List.getD x 15 0) * 65536) + (List.getD x 14 0)) * 65536) + (List.getD x 13 0)) * 65536) + (List.getD x 12 0) : Nat) : Int)) (fun g => kr) (fun g => kr) (fun g => kr) kr kr (fun g => (of_decide_eq_true kr)) (fun g => kr) (fun L g hN => ⟨(by have hL13 : L 13 = false := hN.1; exact D2.ent_get' (p := true) (e := (bif L 13 then (b2, Obj.cells #[.int .u64 0, .int .u64 0, .int .u64 0, .int .u64 ((((((((List.getD x 15 0) * 65536) + (List.getD x 14 0)) * 65536) + (List.getD x 13 0)) * 65536) + (List.getD x 12 0) : Nat) : Int)] 24 (0, 0)) else (b2, Obj.cells #[.int .u64 0, .int .u64 0, .int .u64 0, .int .u64 ((((((List.getD x 15 0) * 65536) + (List.getD x 14 0)) * 65536) + (List.getD x 13 0) : Nat) : Int)] 24 (0, 0)))) kr (by rfl) (by simp only [hL13, cond_true, cond_false] <;> rfl)), kr⟩) (fun L g hN hF => hF)
  intro L0 G7 w7 hall HL; clear H6
  have H7 : St w.heap.size w w7 [(b2, Obj.cells #[.int .u64 0, .int .u64 0, .int .u64 0, .int .u64 ((((((((List.getD x 15 0) * 65536) + (List.getD x 14 0)) * 65536) + (List.getD x 13 0)) * 65536) + (List.getD x 12 0) : Nat) : Int)] 24 (0, 0)), (b1, Od Z4 24)] := by have e13 := hall 13 (Nat.le_of_ble_eq_true kr); have hS := D2.StE.st HL.1; simp only [e13, cond_true, D2.pres] at hS; exact hS
  clear HL hall
  show WP _ _ _ _ _ _
  refine g_reg0 [0, 1, 2] kr ?_
  refine s_val (some 8) (.int .i64 12) (fun w => kr) kr ?_
  refine s_val (some 9) (.int .i64 11) (fun w => kr) kr ?_
  refine s_val (some 4) (.int .i64 11) (fun w => kr) kr ?_
  refine s_nil ?_
  show WPL _ _ _ _ _ _
  refine g_next ?_
  refine g_seq kr ?_
  refine g_sreg [0, 1] kr kr ?_
  refine s_val (some 6) (.int .i64 11) (fun w => kr) kr ?_
  refine s_val (some 7) (.bool true) (fun w => kr) kr ?_
  refine s_nil ?_
  refine g_cond_t kr kr ?_
  refine g_skip kr ?_
  show WP _ _ _ _ _ _
  refine g_seq kr ?_
  refine g_block 1 kr ?_
  refine D2.g_draw0 [0, 1, 2, 3, 4, 5, 6, 7, 8, 9, 10, 11, 12, 13] [((some 10), fun _ => .int .i64 11), ((some 11), fun _ => .int .i64 2), ((some 12), fun _ => .int .i64 11), ((some 13), fun _ => .int .i64 2), ((some 14), fun _ => .pointer (some ⟨b2, 2, none⟩)), ((some 15), fun _ => .int .u64 0), ((some 16), fun _ => .int .u64 0), ((some 17), fun _ => .slice (some ⟨ba, 0, none⟩) (List.length x) ca), ((some 18), fun _ => .int .i64 11), ((some 19), fun _ => .int .i64 ((List.getD x 11 0 : Nat) : Int)), ((some 20), fun _ => .int .u64 ((List.getD x 11 0 : Nat) : Int)), ((some 21), fun _ => .int .u64 ((List.getD x 11 0 : Nat) : Int)), ((some 22), fun _ => .pointer (some ⟨b2, 2, none⟩)), (none, fun _ => undef)] (D2.Pre w.heap.size w (fun L g => [(true, (bif L 13 then (b2, Obj.cells #[.int .u64 0, .int .u64 0, .int .u64 ((List.getD x 11 0 : Nat) : Int), .int .u64 ((((((((List.getD x 15 0) * 65536) + (List.getD x 14 0)) * 65536) + (List.getD x 13 0)) * 65536) + (List.getD x 12 0) : Nat) : Int)] 24 (0, 0)) else (b2, Obj.cells #[.int .u64 0, .int .u64 0, .int .u64 0, .int .u64 ((((((((List.getD x 15 0) * 65536) + (List.getD x 14 0)) * 65536) + (List.getD x 13 0)) * 65536) + (List.getD x 12 0) : Nat) : Int)] 24 (0, 0)))), (true, (b1, Od Z4 24))]) (fun L g => True)) kr kr kr ⟨D2.StE.of H7.drew _ kr, trivial⟩ ⟨?_, ?_, ?_, ?_, ?_, ?_, ?_, ?_, ?_, ?_, ?_, ?_, ?_, ?_, trivial⟩ ?_
  · exact D2.gv_val (fun _ _ _ h => h) (fun g w => kr)
  · exact D2.gv_val (fun _ _ _ h => h) (fun g w => kr)
  · exact D2.gv_val (fun _ _ _ h => h) (fun g w => kr)
  · exact D2.gv_val (fun _ _ _ h => h) (fun g w => kr)
  · exact D2.gv_val (fun _ _ _ h => h) (fun g w => kr)
  · exact D2.gv_load1 22 (.tmp 14) 0 (fun g => b2) (fun g => 2) (fun g => #[.int .u64 0, .int .u64 0, .int .u64 0, .int .u64 ((((((((List.getD x 15 0) * 65536) + (List.getD x 14 0)) * 65536) + (List.getD x 13 0)) * 65536) + (List.getD x 12 0) : Nat) : Int)]) 24 (0, 0) (fun _ _ _ h => h) (fun g => kr) (fun g => kr) (fun L g hN => (by have hL13 : L 13 = false := (hN.post 13 kr); exact D2.ent_get' (p := true) (e := (bif L 13 then (b2, Obj.cells #[.int .u64 0, .int .u64 0, .int .u64 ((List.getD x 11 0 : Nat) : Int), .int .u64 ((((((((List.getD x 15 0) * 65536) + (List.getD x 14 0)) * 65536) + (List.getD x 13 0)) * 65536) + (List.getD x 12 0) : Nat) : Int)] 24 (0, 0)) else (b2, Obj.cells #[.int .u64 0, .int .u64 0, .int .u64 0, .int .u64 ((((((((List.getD x 15 0) * 65536) + (List.getD x 14 0)) * 65536) + (List.getD x 13 0)) * 65536) + (List.getD x 12 0) : Nat) : Int)] 24 (0, 0)))) kr (by rfl) (by simp only [hL13, cond_true, cond_false] <;> rfl))) kr (fun L g hN hF => kr)
  · exact D2.gv_val (fun _ _ _ h => h) (fun g w => kr)
  · exact D2.gv_val (fun _ _ _ h => h) (fun g w => kr)
  · exact D2.gv_val (fun _ _ _ h => h) (fun g w => kr)
  · exact D2.gv_callP 63 (fun g => #[.slice (some ⟨ba, 0, none⟩) (List.length x) ca, .int .i64 11]) (fun g => fun w => w.heap[ba]? = some (.cells curA 3 (0, 0))) (fun _ _ _ h => h) (fun L g hN hF => by exact digit_fn x ba (List.length x) ca curA rfl hA (by omega) 11 (by omega)) (fun L g w hN hE hF => by exact (hE.old hpre (lt_of_heap hpre))) (fun g w => kr)
  · exact D2.gv_valE (fun _ _ _ h => h) (V' := .int .u64 (IntKind.u64.wrap (((List.getD x 11 0 : Nat) : Int)))) (fun g w => kr) (int_eq (wrapN_u64 (a := List.getD x 11 0) (by omega)))
  · exact D2.gv_valE (fun _ _ _ h => h) (V' := .int .u64 (IntKind.u64.wrap (0 + ((List.getD x 11 0 : Nat) : Int)))) (fun g w => kr) (int_eq (show IntKind.u64.wrap ((0 : Int) + ((List.getD x 11 0 : Nat) : Int)) = _ by rw [Int.zero_add]; exact wrapN_u64 (by omega)))
  · exact D2.gv_val (fun _ _ _ h => h) (fun g w => kr)
  · exact D2.gv_store 0 22 (.tmp 22) (.tmp 21) (fun g => b2) (fun g => 2) #[.int .u64 0, .int .u64 0, .int .u64 0, .int .u64 ((((((((List.getD x 15 0) * 65536) + (List.getD x 14 0)) * 65536) + (List.getD x 13 0)) * 65536) + (List.getD x 12 0) : Nat) : Int)] #[.int .u64 0, .int .u64 0, .int .u64 ((List.getD x 11 0 : Nat) : Int), .int .u64 ((((((((List.getD x 15 0) * 65536) + (List.getD x 14 0)) * 65536) + (List.getD x 13 0)) * 65536) + (List.getD x 12 0) : Nat) : Int)] 24 (.int .u64 ((List.getD x 11 0 : Nat) : Int)) (fun g => kr) (fun g => kr) (fun g => kr) kr kr (fun g => (of_decide_eq_true kr)) (fun g => kr) (fun L g hN => ⟨(by have hL13 : L 13 = false := hN.1; exact D2.ent_get' (p := true) (e := (bif L 13 then (b2, Obj.cells #[.int .u64 0, .int .u64 0, .int .u64 ((List.getD x 11 0 : Nat) : Int), .int .u64 ((((((((List.getD x 15 0) * 65536) + (List.getD x 14 0)) * 65536) + (List.getD x 13 0)) * 65536) + (List.getD x 12 0) : Nat) : Int)] 24 (0, 0)) else (b2, Obj.cells #[.int .u64 0, .int .u64 0, .int .u64 0, .int .u64 ((((((((List.getD x 15 0) * 65536) + (List.getD x 14 0)) * 65536) + (List.getD x 13 0)) * 65536) + (List.getD x 12 0) : Nat) : Int)] 24 (0, 0)))) kr (by rfl) (by simp only [hL13, cond_true, cond_false] <;> rfl)), kr⟩) (fun L g hN hF => hF)
  intro L0 G8 w8 hall HL; clear H7
  have H8 : St w.heap.size w w8 [(b2, Obj.cells #[.int .u64 0, .int .u64 0, .int .u64 ((List.getD x 11 0 : Nat) : Int), .int .u64 ((((((((List.getD x 15 0) * 65536) + (List.getD x 14 0)) * 65536) + (List.getD x 13 0)) * 65536) + (List.getD x 12 0) : Nat) : Int)] 24 (0, 0)), (b1, Od Z4 24)] := by have e13 := hall 13 (Nat.le_of_ble_eq_true kr); have hS := D2.StE.st HL.1; simp only [e13, cond_true, D2.pres] at hS; exact hS
  clear HL hall
  show WP _ _ _ _ _ _
  refine g_reg0 [0, 1, 2] kr ?_
  refine s_val (some 8) (.int .i64 11) (fun w => kr) kr ?_
  refine s_val (some 9) (.int .i64 10) (fun w => kr) kr ?_
  refine s_val (some 4) (.int .i64 10) (fun w => kr) kr ?_
  refine s_nil ?_
  show WPL _ _ _ _ _ _
  refine g_next ?_
  refine g_seq kr ?_
  refine g_sreg [0, 1] kr kr ?_
  refine s_val (some 6) (.int .i64 10) (fun w => kr) kr ?_
  refine s_val (some 7) (.bool true) (fun w => kr) kr ?_
  refine s_nil ?_
  refine g_cond_t kr kr ?_
  refine g_skip kr ?_
  show WP _ _ _ _ _ _
  refine g_seq kr ?_
  refine g_block 1 kr ?_
  refine D2.g_draw0 [0, 1, 2, 3, 4, 5, 6, 7, 8, 9, 10, 11, 12, 13] [((some 10), fun _ => .int .i64 10), ((some 11), fun _ => .int .i64 2), ((some 12), fun _ => .int .i64 10), ((some 13), fun _ => .int .i64 2), ((some 14), fun _ => .pointer (some ⟨b2, 2, none⟩)), ((some 15), fun _ => .int .u64 ((List.getD x 11 0 : Nat) : Int)), ((some 16), fun _ => .int .u64 (((List.getD x 11 0) * 65536 : Nat) : Int)), ((some 17), fun _ => .slice (some ⟨ba, 0, none⟩) (List.length x) ca), ((some 18), fun _ => .int .i64 10), ((some 19), fun _ => .int .i64 ((List.getD x 10 0 : Nat) : Int)), ((some 20), fun _ => .int .u64 ((List.getD x 10 0 : Nat) : Int)), ((some 21), fun _ => .int .u64 ((((List.getD x 11 0) * 65536) + (List.getD x 10 0) : Nat) : Int)), ((some 22), fun _ => .pointer (some ⟨b2, 2, none⟩)), (none, fun _ => undef)] (D2.Pre w.heap.size w (fun L g => [(true, (bif L 13 then (b2, Obj.cells #[.int .u64 0, .int .u64 0, .int .u64 ((((List.getD x 11 0) * 65536) + (List.getD x 10 0) : Nat) : Int), .int .u64 ((((((((List.getD x 15 0) * 65536) + (List.getD x 14 0)) * 65536) + (List.getD x 13 0)) * 65536) + (List.getD x 12 0) : Nat) : Int)] 24 (0, 0)) else (b2, Obj.cells #[.int .u64 0, .int .u64 0, .int .u64 ((List.getD x 11 0 : Nat) : Int), .int .u64 ((((((((List.getD x 15 0) * 65536) + (List.getD x 14 0)) * 65536) + (List.getD x 13 0)) * 65536) + (List.getD x 12 0) : Nat) : Int)] 24 (0, 0)))), (true, (b1, Od Z4 24))]) (fun L g => True)) kr kr kr ⟨D2.StE.of H8.drew _ kr, trivial⟩ ⟨?_, ?_, ?_, ?_, ?_, ?_, ?_, ?_, ?_, ?_, ?_, ?_, ?_, ?_, trivial⟩ ?_
  · exact D2.gv_val (fun _ _ _ h => h) (fun g w => kr)
  · exact D2.gv_val (fun _ _ _ h => h) (fun g w => kr)
  · exact D2.gv_val (fun _ _ _ h => h) (fun g w => kr)
  · exact D2.gv_val (fun _ _ _ h => h) (fun g w => kr)
  · exact D2.gv_val (fun _ _ _ h => h) (fun g w => kr)
  · exact D2.gv_load1 22 (.tmp 14) 0 (fun g => b2) (fun g => 2) (fun g => #[.int .u64 0, .int .u64 0, .int .u64 ((List.getD x 11 0 : Nat) : Int), .int .u64 ((((((((List.getD x 15 0) * 65536) + (List.getD x 14 0)) * 65536) + (List.getD x 13 0)) * 65536) + (List.getD x 12 0) : Nat) : Int)]) 24 (0, 0) (fun _ _ _ h => h) (fun g => kr) (fun g => kr) (fun L g hN => (by have hL13 : L 13 = false := (hN.post 13 kr); exact D2.ent_get' (p := true) (e := (bif L 13 then (b2, Obj.cells #[.int .u64 0, .int .u64 0, .int .u64 ((((List.getD x 11 0) * 65536) + (List.getD x 10 0) : Nat) : Int), .int .u64 ((((((((List.getD x 15 0) * 65536) + (List.getD x 14 0)) * 65536) + (List.getD x 13 0)) * 65536) + (List.getD x 12 0) : Nat) : Int)] 24 (0, 0)) else (b2, Obj.cells #[.int .u64 0, .int .u64 0, .int .u64 ((List.getD x 11 0 : Nat) : Int), .int .u64 ((((((((List.getD x 15 0) * 65536) + (List.getD x 14 0)) * 65536) + (List.getD x 13 0)) * 65536) + (List.getD x 12 0) : Nat) : Int)] 24 (0, 0)))) kr (by rfl) (by simp only [hL13, cond_true, cond_false] <;> rfl))) kr (fun L g hN hF => kr)
  · exact D2.gv_valE (fun _ _ _ h => h) (V' := .int .u64 (IntKind.u64.wrap (((List.getD x 11 0 : Nat) : Int) * 65536))) (fun g w => kr) (int_eq (wrapMul_u64 (a := List.getD x 11 0) (b := 65536) (by omega)))
  · exact D2.gv_val (fun _ _ _ h => h) (fun g w => kr)
  · exact D2.gv_val (fun _ _ _ h => h) (fun g w => kr)
  · exact D2.gv_callP 63 (fun g => #[.slice (some ⟨ba, 0, none⟩) (List.length x) ca, .int .i64 10]) (fun g => fun w => w.heap[ba]? = some (.cells curA 3 (0, 0))) (fun _ _ _ h => h) (fun L g hN hF => by exact digit_fn x ba (List.length x) ca curA rfl hA (by omega) 10 (by omega)) (fun L g w hN hE hF => by exact (hE.old hpre (lt_of_heap hpre))) (fun g w => kr)
  · exact D2.gv_valE (fun _ _ _ h => h) (V' := .int .u64 (IntKind.u64.wrap (((List.getD x 10 0 : Nat) : Int)))) (fun g w => kr) (int_eq (wrapN_u64 (a := List.getD x 10 0) (by omega)))
  · exact D2.gv_valE (fun _ _ _ h => h) (V' := .int .u64 (IntKind.u64.wrap ((((List.getD x 11 0) * 65536 : Nat) : Int) + ((List.getD x 10 0 : Nat) : Int)))) (fun g w => kr) (int_eq (wrapAdd_u64 (a := (List.getD x 11 0) * 65536) (b := List.getD x 10 0) (by omega)))
  · exact D2.gv_val (fun _ _ _ h => h) (fun g w => kr)
  · exact D2.gv_store 0 22 (.tmp 22) (.tmp 21) (fun g => b2) (fun g => 2) #[.int .u64 0, .int .u64 0, .int .u64 ((List.getD x 11 0 : Nat) : Int), .int .u64 ((((((((List.getD x 15 0) * 65536) + (List.getD x 14 0)) * 65536) + (List.getD x 13 0)) * 65536) + (List.getD x 12 0) : Nat) : Int)] #[.int .u64 0, .int .u64 0, .int .u64 ((((List.getD x 11 0) * 65536) + (List.getD x 10 0) : Nat) : Int), .int .u64 ((((((((List.getD x 15 0) * 65536) + (List.getD x 14 0)) * 65536) + (List.getD x 13 0)) * 65536) + (List.getD x 12 0) : Nat) : Int)] 24 (.int .u64 ((((List.getD x 11 0) * 65536) + (List.getD x 10 0) : Nat) : Int)) (fun g => kr) (fun g => kr) (fun g => kr) kr kr (fun g => (of_decide_eq_true kr)) (fun g => kr) (fun L g hN => ⟨(by have hL13 : L 13 = false := hN.1; exact D2.ent_get' (p := true) (e := (bif L 13 then (b2, Obj.cells #[.int .u64 0, .int .u64 0, .int .u64 ((((List.getD x 11 0) * 65536) + (List.getD x 10 0) : Nat) : Int), .int .u64 ((((((((List.getD x 15 0) * 65536) + (List.getD x 14 0)) * 65536) + (List.getD x 13 0)) * 65536) + (List.getD x 12 0) : Nat) : Int)] 24 (0, 0)) else (b2, Obj.cells #[.int .u64 0, .int .u64 0, .int .u64 ((List.getD x 11 0 : Nat) : Int), .int .u64 ((((((((List.getD x 15 0) * 65536) + (List.getD x 14 0)) * 65536) + (List.getD x 13 0)) * 65536) + (List.getD x 12 0) : Nat) : Int)] 24 (0, 0)))) kr (by rfl) (by simp only [hL13, cond_true, cond_false] <;> rfl)), kr⟩) (fun L g hN hF => hF)
  intro L0 G9 w9 hall HL; clear H8
  have H9 : St w.heap.size w w9 [(b2, Obj.cells #[.int .u64 0, .int .u64 0, .int .u64 ((((List.getD x 11 0) * 65536) + (List.getD x 10 0) : Nat) : Int), .int .u64 ((((((((List.getD x 15 0) * 65536) + (List.getD x 14 0)) * 65536) + (List.getD x 13 0)) * 65536) + (List.getD x 12 0) : Nat) : Int)] 24 (0, 0)), (b1, Od Z4 24)] := by have e13 := hall 13 (Nat.le_of_ble_eq_true kr); have hS := D2.StE.st HL.1; simp only [e13, cond_true, D2.pres] at hS; exact hS
  clear HL hall
  show WP _ _ _ _ _ _
  refine g_reg0 [0, 1, 2] kr ?_
  refine s_val (some 8) (.int .i64 10) (fun w => kr) kr ?_
  refine s_val (some 9) (.int .i64 9) (fun w => kr) kr ?_
  refine s_val (some 4) (.int .i64 9) (fun w => kr) kr ?_
  refine s_nil ?_
  show WPL _ _ _ _ _ _
  refine g_next ?_
  refine g_seq kr ?_
  refine g_sreg [0, 1] kr kr ?_
  refine s_val (some 6) (.int .i64 9) (fun w => kr) kr ?_
  refine s_val (some 7) (.bool true) (fun w => kr) kr ?_
  refine s_nil ?_
  refine g_cond_t kr kr ?_
  refine g_skip kr ?_
  show WP _ _ _ _ _ _
  refine g_seq kr ?_
  refine g_block 1 kr ?_
  refine D2.g_draw0 [0, 1, 2, 3, 4, 5, 6, 7, 8, 9, 10, 11, 12, 13] [((some 10), fun _ => .int .i64 9), ((some 11), fun _ => .int .i64 2), ((some 12), fun _ => .int .i64 9), ((some 13), fun _ => .int .i64 2), ((some 14), fun _ => .pointer (some ⟨b2, 2, none⟩)), ((some 15), fun _ => .int .u64 ((((List.getD x 11 0) * 65536) + (List.getD x 10 0) : Nat) : Int)), ((some 16), fun _ => .int .u64 (((((List.getD x 11 0) * 65536) + (List.getD x 10 0)) * 65536 : Nat) : Int)), ((some 17), fun _ => .slice (some ⟨ba, 0, none⟩) (List.length x) ca), ((some 18), fun _ => .int .i64 9), ((some 19), fun _ => .int .i64 ((List.getD x 9 0 : Nat) : Int)), ((some 20), fun _ => .int .u64 ((List.getD x 9 0 : Nat) : Int)), ((some 21), fun _ => .int .u64 ((((((List.getD x 11 0) * 65536) + (List.getD x 10 0)) * 65536) + (List.getD x 9 0) : Nat) : Int)), ((some 22), fun _ => .pointer (some ⟨b2, 2, none⟩)), (none, fun _ => undef)] (D2.Pre w.heap.size w (fun L g => [(true, (bif L 13 then (b2, Obj.cells #[.int .u64 0, .int .u64 0, .int .u64 ((((((List.getD x 11 0) * 65536) + (List.getD x 10 0)) * 65536) + (List.getD x 9 0) : Nat) : Int), .int .u64 ((((((((List.getD x 15 0) * 65536) + (List.getD x 14 0)) * 65536) + (List.getD x 13 0)) * 65536) + (List.getD x 12 0) : Nat) : Int)] 24 (0, 0)) else (b2, Obj.cells #[.int .u64 0, .int .u64 0, .int .u64 ((((List.getD x 11 0) * 65536) + (List.getD x 10 0) : Nat) : Int), .int .u64 ((((((((List.getD x 15 0) * 65536) + (List.getD x 14 0)) * 65536) + (List.getD x 13 0)) * 65536) + (List.getD x 12 0) : Nat) : Int)] 24 (0, 0)))), (true, (b1, Od Z4 24))]) (fun L g => True)) kr kr kr ⟨D2.StE.of H9.drew _ kr, trivial⟩ ⟨?_, ?_, ?_, ?_, ?_, ?_, ?_, ?_, ?_, ?_, ?_, ?_, ?_, ?_, trivial⟩ ?_
  · exact D2.gv_val (fun _ _ _ h => h) (fun g w => kr)
  · exact D2.gv_val (fun _ _ _ h => h) (fun g w => kr)
  · exact D2.gv_val (fun _ _ _ h => h) (fun g w => kr)
  · exact D2.gv_val (fun _ _ _ h => h) (fun g w => kr)
  · exact D2.gv_val (fun _ _ _ h => h) (fun g w => kr)
  · exact D2.gv_load1 22 (.tmp 14) 0 (fun g => b2) (fun g => 2) (fun g => #[.int .u64 0, .int .u64 0, .int .u64 ((((List.getD x 11 0) * 65536) + (List.getD x 10 0) : Nat) : Int), .int .u64 ((((((((List.getD x 15 0) * 65536) + (List.getD x 14 0)) * 65536) + (List.getD x 13 0)) * 65536) + (List.getD x 12 0) : Nat) : Int)]) 24 (0, 0) (fun _ _ _ h => h) (fun g => kr) (fun g => kr) (fun L g hN => (by have hL13 : L 13 = false := (hN.post 13 kr); exact D2.ent_get' (p := true) (e := (bif L 13 then (b2, Obj.cells #[.int .u64 0, .int .u64 0, .int .u64 ((((((List.getD x 11 0) * 65536) + (List.getD x 10 0)) * 65536) + (List.getD x 9 0) : Nat) : Int), .int .u64 ((((((((List.getD x 15 0) * 65536) + (List.getD x 14 0)) * 65536) + (List.getD x 13 0)) * 65536) + (List.getD x 12 0) : Nat) : Int)] 24 (0, 0)) else (b2, Obj.cells #[.int .u64 0, .int .u64 0, .int .u64 ((((List.getD x 11 0) * 65536) + (List.getD x 10 0) : Nat) : Int), .int .u64 ((((((((List.getD x 15 0) * 65536) + (List.getD x 14 0)) * 65536) + (List.getD x 13 0)) * 65536) + (List.getD x 12 0) : Nat) : Int)] 24 (0, 0)))) kr (by rfl) (by simp only [hL13, cond_true, cond_false] <;> rfl))) kr (fun L g hN hF => kr)
  · exact D2.gv_valE (fun _ _ _ h => h) (V' := .int .u64 (IntKind.u64.wrap (((((List.getD x 11 0) * 65536) + (List.getD x 10 0) : Nat) : Int) * 65536))) (fun g w => kr) (int_eq (wrapMul_u64 (a := ((List.getD x 11 0) * 65536) + (List.getD x 10 0)) (b := 65536) (by omega)))
  · exact D2.gv_val (fun _ _ _ h => h) (fun g w => kr)
  · exact D2.gv_val (fun _ _ _ h => h) (fun g w => kr)
  · exact D2.gv_callP 63 (fun g => #[.slice (some ⟨ba, 0, none⟩) (List.length x) ca, .int .i64 9]) (fun g => fun w => w.heap[ba]? = some (.cells curA 3 (0, 0))) (fun _ _ _ h => h) (fun L g hN hF => by exact digit_fn x ba (List.length x) ca curA rfl hA (by omega) 9 (by omega)) (fun L g w hN hE hF => by exact (hE.old hpre (lt_of_heap hpre))) (fun g w => kr)
  · exact D2.gv_valE (fun _ _ _ h => h) (V' := .int .u64 (IntKind.u64.wrap (((List.getD x 9 0 : Nat) : Int)))) (fun g w => kr) (int_eq (wrapN_u64 (a := List.getD x 9 0) (by omega)))
  · exact D2.gv_valE (fun _ _ _ h => h) (V' := .int .u64 (IntKind.u64.wrap ((((((List.getD x 11 0) * 65536) + (List.getD x 10 0)) * 65536 : Nat) : Int) + ((List.getD x 9 0 : Nat) : Int)))) (fun g w => kr) (int_eq (wrapAdd_u64 (a := (((List.getD x 11 0) * 65536) + (List.getD x 10 0)) * 65536) (b := List.getD x 9 0) (by omega)))
  · exact D2.gv_val (fun _ _ _ h => h) (fun g w => kr)
  · exact D2.gv_store 0 22 (.tmp 22) (.tmp 21) (fun g => b2) (fun g => 2) #[.int .u64 0, .int .u64 0, .int .u64 ((((List.getD x 11 0) * 65536) + (List.getD x 10 0) : Nat) : Int), .int .u64 ((((((((List.getD x 15 0) * 65536) + (List.getD x 14 0)) * 65536) + (List.getD x 13 0)) * 65536) + (List.getD x 12 0) : Nat) : Int)] #[.int .u64 0, .int .u64 0, .int .u64 ((((((List.getD x 11 0) * 65536) + (List.getD x 10 0)) * 65536) + (List.getD x 9 0) : Nat) : Int), .int .u64 ((((((((List.getD x 15 0) * 65536) + (List.getD x 14 0)) * 65536) + (List.getD x 13 0)) * 65536) + (List.getD x 12 0) : Nat) : Int)] 24 (.int .u64 ((((((List.getD x 11 0) * 65536) + (List.getD x 10 0)) * 65536) + (List.getD x 9 0) : Nat) : Int)) (fun g => kr) (fun g => kr) (fun g => kr) kr kr (fun g => (of_decide_eq_true kr)) (fun g => kr) (fun L g hN => ⟨(by have hL13 : L 13 = false := hN.1; exact D2.ent_get' (p := true) (e := (bif L 13 then (b2, Obj.cells #[.int .u64 0, .int .u64 0, .int .u64 ((((((List.getD x 11 0) * 65536) + (List.getD x 10 0)) * 65536) + (List.getD x 9 0) : Nat) : Int), .int .u64 ((((((((List.getD x 15 0) * 65536) + (List.getD x 14 0)) * 65536) + (List.getD x 13 0)) * 65536) + (List.getD x 12 0) : Nat) : Int)] 24 (0, 0)) else (b2, Obj.cells #[.int .u64 0, .int .u64 0, .int .u64 ((((List.getD x 11 0) * 65536) + (List.getD x 10 0) : Nat) : Int), .int .u64 ((((((((List.getD x 15 0) * 65536) + (List.getD x 14 0)) * 65536) + (List.getD x 13 0)) * 65536) + (List.getD x 12 0) : Nat) : Int)] 24 (0, 0)))) kr (by rfl) (by simp only [hL13, cond_true, cond_false] <;> rfl)), kr⟩) (fun L g hN hF => hF)
  intro L0 G10 w10 hall HL; clear H9
  have H10 : St w.heap.size w w10 [(b2, Obj.cells #[.int .u64 0, .int .u64 0, .int .u64 ((((((List.getD x 11 0) * 65536) + (List.getD x 10 0)) * 65536) + (List.getD x 9 0) : Nat) : Int), .int .u64 ((((((((List.getD x 15 0) * 65536) + (List.getD x 14 0)) * 65536) + (List.getD x 13 0)) * 65536) + (List.getD x 12 0) : Nat) : Int)] 24 (0, 0)), (b1, Od Z4 24)] := by have e13 := hall 13 (Nat.le_of_ble_eq_true kr); have hS := D2.StE.st HL.1; simp only [e13, cond_true, D2.pres] at hS; exact hS
  clear HL hall
  show WP _ _ _ _ _ _
  refine g_reg0 [0, 1, 2] kr ?_
  refine s_val (some 8) (.int .i64 9) (fun w => kr) kr ?_
  refine s_val (some 9) (.int .i64 8) (fun w => kr) kr ?_
  refine s_val (some 4) (.int .i64 8) (fun w => kr) kr ?_
  refine s_nil ?_
  show WPL _ _ _ _ _ _
  refine g_next ?_
  refine g_seq kr ?_
  refine g_sreg [0, 1] kr kr ?_
  refine s_val (some 6) (.int .i64 8) (fun w => kr) kr ?_
  refine s_val (some 7) (.bool true) (fun w => kr) kr ?_
  refine s_nil ?_
  refine g_cond_t kr kr ?_
  refine g_skip kr ?_
  show WP _ _ _ _ _ _
  refine g_seq kr ?_
  refine g_block 1 kr ?_
  refine D2.g_draw0 [0, 1, 2, 3, 4, 5, 6, 7, 8, 9, 10, 11, 12, 13] [((some 10), fun _ => .int .i64 8), ((some 11), fun _ => .int .i64 2), ((some 12), fun _ => .int .i64 8), ((some 13), fun _ => .int .i64 2), ((some 14), fun _ => .pointer (some ⟨b2, 2, none⟩)), ((some 15), fun _ => .int .u64 ((((((List.getD x 11 0) * 65536) + (List.getD x 10 0)) * 65536) + (List.getD x 9 0) : Nat) : Int)), ((some 16), fun _ => .int .u64 (((((((List.getD x 11 0) * 65536) + (List.getD x 10 0)) * 65536) + (List.getD x 9 0)) * 65536 : Nat) : Int)), ((some 17), fun _ => .slice (some ⟨ba, 0, none⟩) (List.length x) ca), ((some 18), fun _ => .int .i64 8), ((some 19), fun _ => .int .i64 ((List.getD x 8 0 : Nat) : Int)), ((some 20), fun _ => .int .u64 ((List.getD x 8 0 : Nat) : Int)), ((some 21), fun _ => .int .u64 ((((((((List.getD x 11 0) * 65536) + (List.getD x 10 0)) * 65536) + (List.getD x 9 0)) * 65536) + (List.getD x 8 0) : Nat) : Int)), ((some 22), fun _ => .pointer (some ⟨b2, 2, none⟩)), (none, fun _ => undef)] (D2.Pre w.heap.size w (fun L g => [(true, (bif L 13 then (b2, Obj.cells #[.int .u64 0, .int .u64 0, .int .u64 ((((((((List.getD x 11 0) * 65536) + (List.getD x 10 0)) * 65536) + (List.getD x 9 0)) * 65536) + (List.getD x 8 0) : Nat) : Int), .int .u64 ((((((((List.getD x 15 0) * 65536) + (List.getD x 14 0)) * 65536) + (List.getD x 13 0)) * 65536) + (List.getD x 12 0) : Nat) : Int)] 24 (0, 0)) else (b2, Obj.cells #[.int .u64 0, .int .u64 0, .int .u64 ((((((List.getD x 11 0) * 65536) + (List.getD x 10 0)) * 65536) + (List.getD x 9 0) : Nat) : Int), .int .u64 ((((((((List.getD x 15 0) * 65536) + (List.getD x 14 0)) * 65536) + (List.getD x 13 0)) * 65536) + (List.getD x 12 0) : Nat) : Int)] 24 (0, 0)))), (true, (b1, Od Z4 24))]) (fun L g => True)) kr kr kr ⟨D2.StE.of H10.drew _ kr, trivial⟩ ⟨?_, ?_, ?_, ?_, ?_, ?_, ?_, ?_, ?_, ?_, ?_, ?_, ?_, ?_, trivial⟩ ?_
  · exact D2.gv_val (fun _ _ _ h => h) (fun g w => kr)
  · exact D2.gv_val (fun _ _ _ h => h) (fun g w => kr)
  · exact D2.gv_val (fun _ _ _ h => h) (fun g w => kr)
  · exact D2.gv_val (fun _ _ _ h => h) (fun g w => kr)
  · exact D2.gv_val (fun _ _ _ h => h) (fun g w => kr)
  · exact D2.gv_load1 22 (.tmp 14) 0 (fun g => b2) (fun g => 2) (fun g => #[.int .u64 0, .int .u64 0, .int .u64 ((((((List.getD x 11 0) * 65536) + (List.getD x 10 0)) * 65536) + (List.getD x 9 0) : Nat) : Int), .int .u64 ((((((((List.getD x 15 0) * 65536) + (List.getD x 14 0)) * 65536) + (List.getD x 13 0)) * 65536) + (List.getD x 12 0) : Nat) : Int)]) 24 (0, 0) (fun _ _ _ h => h) (fun g => kr) (fun g => kr) (fun L g hN => (by have hL13 : L 13 = false := (hN.post 13 kr); exact D2.ent_get' (p := true) (e := (bif L 13 then (b2, Obj.cells #[.int .u64 0, .int .u64 0, .int .u64 ((((((((List.getD x 11 0) * 65536) + (List.getD x 10 0)) * 65536) + (List.getD x 9 0)) * 65536) + (List.getD x 8 0) : Nat) : Int), .int .u64 ((((((((List.getD x 15 0) * 65536) + (List.getD x 14 0)) * 65536) + (List.getD x 13 0)) * 65536) + (List.getD x 12 0) : Nat) : Int)] 24 (0, 0)) else (b2, Obj.cells #[.int .u64 0, .int .u64 0, .int .u64 ((((((List.getD x 11 0) * 65536) + (List.getD x 10 0)) * 65536) + (List.getD x 9 0) : Nat) : Int), .int .u64 ((((((((List.getD x 15 0) * 65536) + (List.getD x 14 0)) * 65536) + (List.getD x 13 0)) * 65536) + (List.getD x 12 0) : Nat) : Int)] 24 (0, 0)))) kr (by rfl) (by simp only [hL13, cond_true, cond_false] <;> rfl))) kr (fun L g hN hF => kr)
  · exact D2.gv_valE (fun _ _ _ h => h) (V' := .int .u64 (IntKind.u64.wrap (((((((List.getD x 11 0) * 65536) + (List.getD x 10 0)) * 65536) + (List.getD x 9 0) : Nat) : Int) * 65536))) (fun g w => kr) (int_eq (wrapMul_u64 (a := ((((List.getD x 11 0) * 65536) + (List.getD x 10 0)) * 65536) + (List.getD x 9 0)) (b := 65536) (by omega)))
  · exact D2.gv_val (fun _ _ _ h => h) (fun g w => kr)
  · exact D2.gv_val (fun _ _ _ h => h) (fun g w => kr)
  · exact D2.gv_callP 63 (fun g => #[.slice (some ⟨ba, 0, none⟩) (List.length x) ca, .int .i64 8]) (fun g => fun w => w.heap[ba]? = some (.cells curA 3 (0, 0))) (fun _ _ _ h => h) (fun L g hN hF => by exact digit_fn x ba (List.length x) ca curA rfl hA (by omega) 8 (by omega)) (fun L g w hN hE hF => by exact (hE.old hpre (lt_of_heap hpre))) (fun g w => kr)
  · exact D2.gv_valE (fun _ _ _ h => h) (V' := .int .u64 (IntKind.u64.wrap (((List.getD x 8 0 : Nat) : Int)))) (fun g w => kr) (int_eq (wrapN_u64 (a := List.getD x 8 0) (by omega)))
  · exact D2.gv_valE (fun _ _ _ h => h) (V' := .int .u64 (IntKind.u64.wrap ((((((((List.getD x 11 0) * 65536) + (List.getD x 10 0)) * 65536) + (List.getD x 9 0)) * 65536 : Nat) : Int) + ((List.getD x 8 0 : Nat) : Int)))) (fun g w => kr) (int_eq (wrapAdd_u64 (a := (((((List.getD x 11 0) * 65536) + (List.getD x 10 0)) * 65536) + (List.getD x 9 0)) * 65536) (b := List.getD x 8 0) (by omega)))
  · exact D2.gv_val (fun _ _ _ h => h) (fun g w => kr)
  · exact D2.gv_store 0 22 (.tmp 22) (.tmp 21) (fun g => b2) (fun g => 2) #[.int .u64 0, .int .u64 0, .int .u64 ((((((List.getD x 11 0) * 65536) + (List.getD x 10 0)) * 65536) + (List.getD x 9 0) : Nat) : Int), .int .u64 ((((((((List.getD x 15 0) * 65536) + (List.getD x 14 0)) * 65536) + (List.getD x 13 0)) * 65536) + (List.getD x 12 0) : Nat) : Int)] #[.int .u64 0, .int .u64 0, .int .u64 ((((((((List.getD x 11 0) * 65536) + (List.getD x 10 0)) * 65536) + (List.getD x 9 0)) * 65536) + (List.getD x 8 0) : Nat) : Int), .int .u64 ((((((((List.getD x 15 0) * 65536) + (List.getD x 14 0)) * 65536) + (List.getD x 13 0)) * 65536) + (List.getD x 12 0) : Nat) : Int)] 24 (.int .u64 ((((((((List.getD x 11 0) * 65536) + (List.getD x 10 0)) * 65536) + (List.getD x 9 0)) * 65536) + (List.getD x 8 0) : Nat) : Int)) (fun g => kr) (fun g => kr) (fun g => kr) kr kr (fun g => (of_decide_eq_true kr)) (fun g => kr) (fun L g hN => ⟨(by have hL13 : L 13 = false := hN.1; exact D2.ent_get' (p := true) (e := (bif L 13 then (b2, Obj.cells #[.int .u64 0, .int .u64 0, .int .u64 ((((((((List.getD x 11 0) * 65536) + (List.getD x 10 0)) * 65536) + (List.getD x 9 0)) * 65536) + (List.getD x 8 0) : Nat) : Int), .int .u64 ((((((((List.getD x 15 0) * 65536) + (List.getD x 14 0)) * 65536) + (List.getD x 13 0)) * 65536) + (List.getD x 12 0) : Nat) : Int)] 24 (0, 0)) else (b2, Obj.cells #[.int .u64 0, .int .u64 0, .int .u64 ((((((List.getD x 11 0) * 65536) + (List.getD x 10 0)) * 65536) + (List.getD x 9 0) : Nat) : Int), .int .u64 ((((((((List.getD x 15 0) * 65536) + (List.getD x 14 0)) * 65536) + (List.getD x 13 0)) * 65536) + (List.getD x 12 0) : Nat) : Int)] 24 (0, 0)))) kr (by rfl) (by simp only [hL13, cond_true, cond_false] <;> rfl)), kr⟩) (fun L g hN hF => hF)
  intro L0 G11 w11 hall HL; clear H10
  have H11 : St w.heap.size w w11 [(b2, Obj.cells #[.int .u64 0, .int .u64 0, .int .u64 ((((((((List.getD x 11 0) * 65536) + (List.getD x 10 0)) * 65536) + (List.getD x 9 0)) * 65536) + (List.getD x 8 0) : Nat) : Int), .int .u64 ((((((((List.getD x 15 0) * 65536) + (List.getD x 14 0)) * 65536) + (List.getD x 13 0)) * 65536) + (List.getD x 12 0) : Nat) : Int)] 24 (0, 0)), (b1, Od Z4 24)] := by have e13 := hall 13 (Nat.le_of_ble_eq_true kr); have hS := D2.StE.st HL.1; simp only [e13, cond_true, D2.pres] at hS; exact hS
  clear HL hall
  show WP _ _ _ _ _ _
  refine g_reg0 [0, 1, 2] kr ?_
  refine s_val (some 8) (.int .i64 8) (fun w => kr) kr ?_
  refine s_val (some 9) (.int .i64 7) (fun w => kr) kr ?_
  refine s_val (some 4) (.int .i64 7) (fun w => kr) kr ?_
  refine s_nil ?_
  show WPL _ _ _ _ _ _
  refine g_next ?_
  refine g_seq kr ?_
  refine g_sreg [0, 1] kr kr ?_
  refine s_val (some 6) (.int .i64 7) (fun w => kr) kr ?_
  refine s_val (some 7) (.bool true) (fun w => kr) kr ?_
  refine s_nil ?_
  refine g_cond_t kr kr ?_
  refine g_skip kr ?_
  show WP _ _ _ _ _ _
  refine g_seq kr ?_
  refine g_block 1 kr ?_
  refine D2.g_draw0 [0, 1, 2, 3, 4, 5, 6, 7, 8, 9, 10, 11, 12, 13] [((some 10), fun _ => .int .i64 7), ((some 11), fun _ => .int .i64 1), ((some 12), fun _ => .int .i64 7), ((some 13), fun _ => .int .i64 1), ((some 14), fun _ => .pointer (some ⟨b2, 1, none⟩)), ((some 15), fun _ => .int .u64 0), ((some 16), fun _ => .int .u64 0), ((some 17), fun _ => .slice (some ⟨ba, 0, none⟩) (List.length x) ca), ((some 18), fun _ => .int .i64 7), ((some 19), fun _ => .int .i64 ((List.getD x 7 0 : Nat) : Int)), ((some 20), fun _ => .int .u64 ((List.getD x 7 0 : Nat) : Int)), ((some 21), fun _ => .int .u64 ((List.getD x 7 0 : Nat) : Int)), ((some 22), fun _ => .pointer (some ⟨b2, 1, none⟩)), (none, fun _ => undef)] (D2.Pre w.heap.size w (fun L g => [(true, (bif L 13 then (b2, Obj.cells #[.int .u64 0, .int .u64 ((List.getD x 7 0 : Nat) : Int), .int .u64 ((((((((List.getD x 11 0) * 65536) + (List.getD x 10 0)) * 65536) + (List.getD x 9 0)) * 65536) + (List.getD x 8 0) : Nat) : Int), .int .u64 ((((((((List.getD x 15 0) * 65536) + (List.getD x 14 0)) * 65536) + (List.getD x 13 0)) * 65536) + (List.getD x 12 0) : Nat) : Int)] 24 (0, 0)) else (b2, Obj.cells #[.int .u64 0, .int .u64 0, .int .u64 ((((((((List.getD x 11 0) * 65536) + (List.getD x 10 0)) * 65536) + (List.getD x 9 0)) * 65536) + (List.getD x 8 0) : Nat) : Int), .int .u64 ((((((((List.getD x 15 0) * 65536) + (List.getD x 14 0)) * 65536) + (List.getD x 13 0)) * 65536) + (List.getD x 12 0) : Nat) : Int)] 24 (0, 0)))), (true, (b1, Od Z4 24))]) (fun L g => True)) kr kr kr ⟨D2.StE.of H11.drew _ kr, trivial⟩ ⟨?_, ?_, ?_, ?_, ?_, ?_, ?_, ?_, ?_, ?_, ?_, ?_, ?_, ?_, trivial⟩ ?_
  · exact D2.gv_val (fun _ _ _ h => h) (fun g w => kr)
  · exact D2.gv_val (fun _ _ _ h => h) (fun g w => kr)
  · exact D2.gv_val (fun _ _ _ h => h) (fun g w => kr)
  · exact D2.gv_val (fun _ _ _ h => h) (fun g w => kr)
  · exact D2.gv_val (fun _ _ _ h => h) (fun g w => kr)
  · exact D2.gv_load1 22 (.tmp 14) 0 (fun g => b2) (fun g => 1) (fun g => #[.int .u64 0, .int .u64 0, .int .u64 ((((((((List.getD x 11 0) * 65536) + (List.getD x 10 0)) * 65536) + (List.getD x 9 0)) * 65536) + (List.getD x 8 0) : Nat) : Int), .int .u64 ((((((((List.getD x 15 0) * 65536) + (List.getD x 14 0)) * 65536) + (List.getD x 13 0)) * 65536) + (List.getD x 12 0) : Nat) : Int)]) 24 (0, 0) (fun _ _ _ h => h) (fun g => kr) (fun g => kr) (fun L g hN => (by have hL13 : L 13 = false := (hN.post 13 kr); exact D2.ent_get' (p := true) (e := (bif L 13 then (b2, Obj.cells #[.int .u64 0, .int .u64 ((List.getD x 7 0 : Nat) : Int), .int .u64 ((((((((List.getD x 11 0) * 65536) + (List.getD x 10 0)) * 65536) + (List.getD x 9 0)) * 65536) + (List.getD x 8 0) : Nat) : Int), .int .u64 ((((((((List.getD x 15 0) * 65536) + (List.getD x 14 0)) * 65536) + (List.getD x 13 0)) * 65536) + (List.getD x 12 0) : Nat) : Int)] 24 (0, 0)) else (b2, Obj.cells #[.int .u64 0, .int .u64 0, .int .u64 ((((((((List.getD x 11 0) * 65536) + (List.getD x 10 0)) * 65536) + (List.getD x 9 0)) * 65536) + (List.getD x 8 0) : Nat) : Int), .int .u64 ((((((((List.getD x 15 0) * 65536) + (List.getD x 14 0)) * 65536) + (List.getD x 13 0)) * 65536) + (List.getD x 12 0) : Nat) : Int)] 24 (0, 0)))) kr (by rfl) (by simp only [hL13, cond_true, cond_false] <;> rfl))) kr (fun L g hN hF => kr)
  · exact D2.gv_val (fun _ _ _ h => h) (fun g w => kr)
  · exact D2.gv_val (fun _ _ _ h => h) (fun g w => kr)
  · exact D2.gv_val (fun _ _ _ h => h) (fun g w => kr)
  · exact D2.gv_callP 63 (fun g => #[.slice (some ⟨ba, 0, none⟩) (List.length x) ca, .int .i64 7]) (fun g => fun w => w.heap[ba]? = some (.cells curA 3 (0, 0))) (fun _ _ _ h => h) (fun L g hN hF => by exact digit_fn x ba (List.length x) ca curA rfl hA (by omega) 7 (by omega)) (fun L g w hN hE hF => by exact (hE.old hpre (lt_of_heap hpre))) (fun g w => kr)
  · exact D2.gv_valE (fun _ _ _ h => h) (V' := .int .u64 (IntKind.u64.wrap (((List.getD x 7 0 : Nat) : Int)))) (fun g w => kr) (int_eq (wrapN_u64 (a := List.getD x 7 0) (by omega)))
  · exact D2.gv_valE (fun _ _ _ h => h) (V' := .int .u64 (IntKind.u64.wrap (0 + ((List.getD x 7 0 : Nat) : Int)))) (fun g w => kr) (int_eq (show IntKind.u64.wrap ((0 : Int) + ((List.getD x 7 0 : Nat) : Int)) = _ by rw [Int.zero_add]; exact wrapN_u64 (by omega)))
  · exact D2.gv_val (fun _ _ _ h => h) (fun g w => kr)
  · exact D2.gv_store 0 22 (.tmp 22) (.tmp 21) (fun g => b2) (fun g => 1) #[.int .u64 0, .int .u64 0, .int .u64 ((((((((List.getD x 11 0) * 65536) + (List.getD x 10 0)) * 65536) + (List.getD x 9 0)) * 65536) + (List.getD x 8 0) : Nat) : Int), .int .u64 ((((((((List.getD x 15 0) * 65536) + (List.getD x 14 0)) * 65536) + (List.getD x 13 0)) * 65536) + (List.getD x 12 0) : Nat) : Int)] #[.int .u64 0, .int .u64 ((List.getD x 7 0 : Nat) : Int), .int .u64 ((((((((List.getD x 11 0) * 65536) + (List.getD x 10 0)) * 65536) + (List.getD x 9 0)) * 65536) + (List.getD x 8 0) : Nat) : Int), .int .u64 ((((((((List.getD x 15 0) * 65536) + (List.getD x 14 0)) * 65536) + (List.getD x 13 0)) * 65536) + (List.getD x 12 0) : Nat) : Int)] 24 (.int .u64 ((List.getD x 7 0 : Nat) : Int)) (fun g => kr) (fun g => kr) (fun g => kr) kr kr (fun g => (of_decide_eq_true kr)) (fun g => kr) (fun L g hN => ⟨(by have hL13 : L 13 = false := hN.1; exact D2.ent_get' (p := true) (e := (bif L 13 then (b2, Obj.cells #[.int .u64 0, .int .u64 ((List.getD x 7 0 : Nat) : Int), .int .u64 ((((((((List.getD x 11 0) * 65536) + (List.getD x 10 0)) * 65536) + (List.getD x 9 0)) * 65536) + (List.getD x 8 0) : Nat) : Int), .int .u64 ((((((((List.getD x 15 0) * 65536) + (List.getD x 14 0)) * 65536) + (List.getD x 13 0)) * 65536) + (List.getD x 12 0) : Nat) : Int)] 24 (0, 0)) else (b2, Obj.cells #[.int .u64 0, .int .u64 0, .int .u64 ((((((((List.getD x 11 0) * 65536) + (List.getD x 10 0)) * 65536) + (List.getD x 9 0)) * 65536) + (List.getD x 8 0) : Nat) : Int), .int .u64 ((((((((List.getD x 15 0) * 65536) + (List.getD x 14 0)) * 65536) + (List.getD x 13 0)) * 65536) + (List.getD x 12 0) : Nat) : Int)] 24 (0, 0)))) kr (by rfl) (by simp only [hL13, cond_true, cond_false] <;> rfl)), kr⟩) (fun L g hN hF => hF)
  intro L0 G12 w12 hall HL; clear H11
  have H12 : St w.heap.size w w12 [(b2, Obj.cells #[.int .u64 0, .int .u64 ((List.getD x 7 0 : Nat) : Int), .int .u64 ((((((((List.getD x 11 0) * 65536) + (List.getD x 10 0)) * 65536) + (List.getD x 9 0)) * 65536) + (List.getD x 8 0) : Nat) : Int), .int .u64 ((((((((List.getD x 15 0) * 65536) + (List.getD x 14 0)) * 65536) + (List.getD x 13 0)) * 65536) + (List.getD x 12 0) : Nat) : Int)] 24 (0, 0)), (b1, Od Z4 24)] := by have e13 := hall 13 (Nat.le_of_ble_eq_true kr); have hS := D2.StE.st HL.1; simp only [e13, cond_true, D2.pres] at hS; exact hS
  clear HL hall
  show WP _ _ _ _ _ _
  refine g_reg0 [0, 1, 2] kr ?_
  refine s_val (some 8) (.int .i64 7) (fun w => kr) kr ?_
  refine s_val (some 9) (.int .i64 6) (fun w => kr) kr ?_
  refine s_val (some 4) (.int .i64 6) (fun w => kr) kr ?_
  refine s_nil ?_
  show WPL _ _ _ _ _ _
  refine g_next ?_
  refine g_seq kr ?_
  refine g_sreg [0, 1] kr kr ?_
  refine s_val (some 6) (.int .i64 6) (fun w => kr) kr ?_
  refine s_val (some 7) (.bool true) (fun w => kr) kr ?_
  refine s_nil ?_
  refine g_cond_t kr kr ?_
  refine g_skip kr ?_
  show WP _ _ _ _ _ _
  refine g_seq kr ?_
  refine g_block 1 kr ?_
  refine D2.g_draw0 [0, 1, 2, 3, 4, 5, 6, 7, 8, 9, 10, 11, 12, 13] [((some 10), fun _ => .int .i64 6), ((some 11), fun _ => .int .i64 1), ((some 12), fun _ => .int .i64 6), ((some 13), fun _ => .int .i64 1), ((some 14), fun _ => .pointer (some ⟨b2, 1, none⟩)), ((some 15), fun _ => .int .u64 ((List.getD x 7 0 : Nat) : Int)), ((some 16), fun _ => .int .u64 (((List.getD x 7 0) * 65536 : Nat) : Int)), ((some 17), fun _ => .slice (some ⟨ba, 0, none⟩) (List.length x) ca), ((some 18), fun _ => .int .i64 6), ((some 19), fun _ => .int .i64 ((List.getD x 6 0 : Nat) : Int)), ((some 20), fun _ => .int .u64 ((List.getD x 6 0 : Nat) : Int)), ((some 21), fun _ => .int .u64 ((((List.getD x 7 0) * 65536) + (List.getD x 6 0) : Nat) : Int)), ((some 22), fun _ => .pointer (some ⟨b2, 1, none⟩)), (none, fun _ => undef)] (D2.Pre w.heap.size w (fun L g => [(true, (bif L 13 then (b2, Obj.cells #[.int .u64 0, .int .u64 ((((List.getD x 7 0) * 65536) + (List.getD x 6 0) : Nat) : Int), .int .u64 ((((((((List.getD x 11 0) * 65536) + (List.getD x 10 0)) * 65536) + (List.getD x 9 0)) * 65536) + (List.getD x 8 0) : Nat) : Int), .int .u64 ((((((((List.getD x 15 0) * 65536) + (List.getD x 14 0)) * 65536) + (List.getD x 13 0)) * 65536) + (List.getD x 12 0) : Nat) : Int)] 24 (0, 0)) else (b2, Obj.cells #[.int .u64 0, .int .u64 ((List.getD x 7 0 : Nat) : Int), .int .u64 ((((((((List.getD x 11 0) * 65536) + (List.getD x 10 0)) * 65536) + (List.getD x 9 0)) * 65536) + (List.getD x 8 0) : Nat) : Int), .int .u64 ((((((((List.getD x 15 0) * 65536) + (List.getD x 14 0)) * 65536) + (List.getD x 13 0)) * 65536) + (List.getD x 12 0) : Nat) : Int)] 24 (0, 0)))), (true, (b1, Od Z4 24))]) (fun L g => True)) kr kr kr ⟨D2.StE.of H12.drew _ kr, trivial⟩ ⟨?_, ?_, ?_, ?_, ?_, ?_, ?_, ?_, ?_, ?_, ?_, ?_, ?_, ?_, trivial⟩ ?_
  · exact D2.gv_val (fun _ _ _ h => h) (fun g w => kr)
  · exact D2.gv_val (fun _ _ _ h => h) (fun g w => kr)
  · exact D2.gv_val (fun _ _ _ h => h) (fun g w => kr)
  · exact D2.gv_val (fun _ _ _ h => h) (fun g w => kr)
  · exact D2.gv_val (fun _ _ _ h => h) (fun g w => kr)
  · exact D2.gv_load1 22 (.tmp 14) 0 (fun g => b2) (fun g => 1) (fun g => #[.int .u64 0, .int .u64 ((List.getD x 7 0 : Nat) : Int), .int .u64 ((((((((List.getD x 11 0) * 65536) + (List.getD x 10 0)) * 65536) + (List.getD x 9 0)) * 65536) + (List.getD x 8 0) : Nat) : Int), .int .u64 ((((((((List.getD x 15 0) * 65536) + (List.getD x 14 0)) * 65536) + (List.getD x 13 0)) * 65536) + (List.getD x 12 0) : Nat) : Int)]) 24 (0, 0) (fun _ _ _ h => h) (fun g => kr) (fun g => kr) (fun L g hN => (by have hL13 : L 13 = false := (hN.post 13 kr); exact D2.ent_get' (p := true) (e := (bif L 13 then (b2, Obj.cells #[.int .u64 0, .int .u64 ((((List.getD x 7 0) * 65536) + (List.getD x 6 0) : Nat) : Int), .int .u64 ((((((((List.getD x 11 0) * 65536) + (List.getD x 10 0)) * 65536) + (List.getD x 9 0)) * 65536) + (List.getD x 8 0) : Nat) : Int), .int .u64 ((((((((List.getD x 15 0) * 65536) + (List.getD x 14 0)) * 65536) + (List.getD x 13 0)) * 65536) + (List.getD x 12 0) : Nat) : Int)] 24 (0, 0)) else (b2, Obj.cells #[.int .u64 0, .int .u64 ((List.getD x 7 0 : Nat) : Int), .int .u64 ((((((((List.getD x 11 0) * 65536) + (List.getD x 10 0)) * 65536) + (List.getD x 9 0)) * 65536) + (List.getD x 8 0) : Nat) : Int), .int .u64 ((((((((List.getD x 15 0) * 65536) + (List.getD x 14 0)) * 65536) + (List.getD x 13 0)) * 65536) + (List.getD x 12 0) : Nat) : Int)] 24 (0, 0)))) kr (by rfl) (by simp only [hL13, cond_true, cond_false] <;> rfl))) kr (fun L g hN hF => kr)
  · exact D2.gv_valE (fun _ _ _ h => h) (V' := .int .u64 (IntKind.u64.wrap (((List.getD x 7 0 : Nat) : Int) * 65536))) (fun g w => kr) (int_eq (wrapMul_u64 (a := List.getD x 7 0) (b := 65536) (by omega)))
  · exact D2.gv_val (fun _ _ _ h => h) (fun g w => kr)
  · exact D2.gv_val (fun _ _ _ h => h) (fun g w => kr)
  · exact D2.gv_callP 63 (fun g => #[.slice (some ⟨ba, 0, none⟩) (List.length x) ca, .int .i64 6]) (fun g => fun w => w.heap[ba]? = some (.cells curA 3 (0, 0))) (fun _ _ _ h => h) (fun L g hN hF => by exact digit_fn x ba (List.length x) ca curA rfl hA (by omega) 6 (by omega)) (fun L g w hN hE hF => by exact (hE.old hpre (lt_of_heap hpre))) (fun g w => kr)
  · exact D2.gv_valE (fun _ _ _ h => h) (V' := .int .u64 (IntKind.u64.wrap (((List.getD x 6 0 : Nat) : Int)))) (fun g w => kr) (int_eq (wrapN_u64 (a := List.getD x 6 0) (by omega)))
  · exact D2.gv_valE (fun _ _ _ h => h) (V' := .int .u64 (IntKind.u64.wrap ((((List.getD x 7 0) * 65536 : Nat) : Int) + ((List.getD x 6 0 : Nat) : Int)))) (fun g w => kr) (int_eq (wrapAdd_u64 (a := (List.getD x 7 0) * 65536) (b := List.getD x 6 0) (by omega)))
  · exact D2.gv_val (fun _ _ _ h => h) (fun g w => kr)
  · exact D2.gv_store 0 22 (.tmp 22) (.tmp 21) (fun g => b2) (fun g => 1) #[.int .u64 0, .int .u64 ((List.getD x 7 0 : Nat) : Int), .int .u64 ((((((((List.getD x 11 0) * 65536) + (List.getD x 10 0)) * 65536) + (List.getD x 9 0)) * 65536) + (List.getD x 8 0) : Nat) : Int), .int .u64 ((((((((List.getD x 15 0) * 65536) + (List.getD x 14 0)) * 65536) + (List.getD x 13 0)) * 65536) + (List.getD x 12 0) : Nat) : Int)] #[.int .u64 0, .int .u64 ((((List.getD x 7 0) * 65536) + (List.getD x 6 0) : Nat) : Int), .int .u64 ((((((((List.getD x 11 0) * 65536) + (List.getD x 10 0)) * 65536) + (List.getD x 9 0)) * 65536) + (List.getD x 8 0) : Nat) : Int), .int .u64 ((((((((List.getD x 15 0) * 65536) + (List.getD x 14 0)) * 65536) + (List.getD x 13 0)) * 65536) + (List.getD x 12 0) : Nat) : Int)] 24 (.int .u64 ((((List.getD x 7 0) * 65536) + (List.getD x 6 0) : Nat) : Int)) (fun g => kr) (fun g => kr) (fun g => kr) kr kr (fun g => (of_decide_eq_true kr)) (fun g => kr) (fun L g hN => ⟨(by have hL13 : L 13 = false := hN.1; exact D2.ent_get' (p := true) (e := (bif L 13 then (b2, Obj.cells #[.int .u64 0, .int .u64 ((((List.getD x 7 0) * 65536) + (List.getD x 6 0) : Nat) : Int), .int .u64 ((((((((List.getD x 11 0) * 65536) + (List.getD x 10 0)) * 65536) + (List.getD x 9 0)) * 65536) + (List.getD x 8 0) : Nat) : Int), .int .u64 ((((((((List.getD x 15 0) * 65536) + (List.getD x 14 0)) * 65536) + (List.getD x 13 0)) * 65536) + (List.getD x 12 0) : Nat) : Int)] 24 (0, 0)) else (b2, Obj.cells #[.int .u64 0, .int .u64 ((List.getD x 7 0 : Nat) : Int), .int .u64 ((((((((List.getD x 11 0) * 65536) + (List.getD x 10 0)) * 65536) + (List.getD x 9 0)) * 65536) + (List.getD x 8 0) : Nat) : Int), .int .u64 ((((((((List.getD x 15 0) * 65536) + (List.getD x 14 0)) * 65536) + (List.getD x 13 0)) * 65536) + (List.getD x 12 0) : Nat) : Int)] 24 (0, 0)))) kr (by rfl) (by simp only [hL13, cond_true, cond_false] <;> rfl)), kr⟩) (fun L g hN hF => hF)
  intro L0 G13 w13 hall HL; clear H12
  have H13 : St w.heap.size w w13 [(b2, Obj.cells #[.int .u64 0, .int .u64 ((((List.getD x 7 0) * 65536) + (List.getD x 6 0) : Nat) : Int), .int .u64 ((((((((List.getD x 11 0) * 65536) + (List.getD x 10 0)) * 65536) + (List.getD x 9 0)) * 65536) + (List.getD x 8 0) : Nat) : Int), .int .u64 ((((((((List.getD x 15 0) * 65536) + (List.getD x 14 0)) * 65536) + (List.getD x 13 0)) * 65536) + (List.getD x 12 0) : Nat) : Int)] 24 (0, 0)), (b1, Od Z4 24)] := by have e13 := hall 13 (Nat.le_of_ble_eq_true kr); have hS := D2.StE.st HL.1; simp only [e13, cond_true, D2.pres] at hS; exact hS
  clear HL hall
  show WP _ _ _ _ _ _
  refine g_reg0 [0, 1, 2] kr ?_
  refine s_val (some 8) (.int .i64 6) (fun w => kr) kr ?_
  refine s_val (some 9) (.int .i64 5) (fun w => kr) kr ?_
  refine s_val (some 4) (.int .i64 5) (fun w => kr) kr ?_
  refine s_nil ?_
  show WPL _ _ _ _ _ _
  refine g_next ?_
  refine g_seq kr ?_
  refine g_sreg [0, 1] kr kr ?_
  refine s_val (some 6) (.int .i64 5) (fun w => kr) kr ?_
  refine s_val (some 7) (.bool true) (fun w => kr) kr ?_
  refine s_nil ?_
  refine g_cond_t kr kr ?_
  refine g_skip kr ?_
  show WP _ _ _ _ _ _
  refine g_seq kr ?_
  refine g_block 1 kr ?_
  refine D2.g_draw0 [0, 1, 2, 3, 4, 5, 6, 7, 8, 9, 10, 11, 12, 13] [((some 10), fun _ => .int .i64 5), ((some 11), fun _ => .int .i64 1), ((some 12), fun _ => .int .i64 5), ((some 13), fun _ => .int .i64 1), ((some 14), fun _ => .pointer (some ⟨b2, 1, none⟩)), ((some 15), fun _ => .int .u64 ((((List.getD x 7 0) * 65536) + (List.getD x 6 0) : Nat) : Int)), ((some 16), fun _ => .int .u64 (((((List.getD x 7 0) * 65536) + (List.getD x 6 0)) * 65536 : Nat) : Int)), ((some 17), fun _ => .slice (some ⟨ba, 0, none⟩) (List.length x) ca), ((some 18), fun _ => .int .i64 5), ((some 19), fun _ => .int .i64 ((List.getD x 5 0 : Nat) : Int)), ((some 20), fun _ => .int .u64 ((List.getD x 5 0 : Nat) : Int)), ((some 21), fun _ => .int .u64 ((((((List.getD x 7 0) * 65536) + (List.getD x 6 0)) * 65536) + (List.getD x 5 0) : Nat) : Int)), ((some 22), fun _ => .pointer (some ⟨b2, 1, none⟩)), (none, fun _ => undef)] (D2.Pre w.heap.size w (fun L g => [(true, (bif L 13 then (b2, Obj.cells #[.int .u64 0, .int .u64 ((((((List.getD x 7 0) * 65536) + (List.getD x 6 0)) * 65536) + (List.getD x 5 0) : Nat) : Int), .int .u64 ((((((((List.getD x 11 0) * 65536) + (List.getD x 10 0)) * 65536) + (List.getD x 9 0)) * 65536) + (List.getD x 8 0) : Nat) : Int), .int .u64 ((((((((List.getD x 15 0) * 65536) + (List.getD x 14 0)) * 65536) + (List.getD x 13 0)) * 65536) + (List.getD x 12 0) : Nat) : Int)] 24 (0, 0)) else (b2, Obj.cells #[.int .u64 0, .int .u64 ((((List.getD x 7 0) * 65536) + (List.getD x 6 0) : Nat) : Int), .int .u64 ((((((((List.getD x 11 0) * 65536) + (List.getD x 10 0)) * 65536) + (List.getD x 9 0)) * 65536) + (List.getD x 8 0) : Nat) : Int), .int .u64 ((((((((List.getD x 15 0) * 65536) + (List.getD x 14 0)) * 65536) + (List.getD x 13 0)) * 65536) + (List.getD x 12 0) : Nat) : Int)] 24 (0, 0)))), (true, (b1, Od Z4 24))]) (fun L g => True)) kr kr kr ⟨D2.StE.of H13.drew _ kr, trivial⟩ ⟨?_, ?_, ?_, ?_, ?_, ?_, ?_, ?_, ?_, ?_, ?_, ?_, ?_, ?_, trivial⟩ ?_
  · exact D2.gv_val (fun _ _ _ h => h) (fun g w => kr)
  · exact D2.gv_val (fun _ _ _ h => h) (fun g w => kr)
  · exact D2.gv_val (fun _ _ _ h => h) (fun g w => kr)
  · exact D2.gv_val (fun _ _ _ h => h) (fun g w => kr)
  · exact D2.gv_val (fun _ _ _ h => h) (fun g w => kr)
  · exact D2.gv_load1 22 (.tmp 14) 0 (fun g => b2) (fun g => 1) (fun g => #[.int .u64 0, .int .u64 ((((List.getD x 7 0) * 65536) + (List.getD x 6 0) : Nat) : Int), .int .u64 ((((((((List.getD x 11 0) * 65536) + (List.getD x 10 0)) * 65536) + (List.getD x 9 0)) * 65536) + (List.getD x 8 0) : Nat) : Int), .int .u64 ((((((((List.getD x 15 0) * 65536) + (List.getD x 14 0)) * 65536) + (List.getD x 13 0)) * 65536) + (List.getD x 12 0) : Nat) : Int)]) 24 (0, 0) (fun _ _ _ h => h) (fun g => kr) (fun g => kr) (fun L g hN => (by have hL13 : L 13 = false := (hN.post 13 kr); exact D2.ent_get' (p := true) (e := (bif L 13 then (b2, Obj.cells #[.int .u64 0, .int .u64 ((((((List.getD x 7 0) * 65536) + (List.getD x 6 0)) * 65536) + (List.getD x 5 0) : Nat) : Int), .int .u64 ((((((((List.getD x 11 0) * 65536) + (List.getD x 10 0)) * 65536) + (List.getD x 9 0)) * 65536) + (List.getD x 8 0) : Nat) : Int), .int .u64 ((((((((List.getD x 15 0) * 65536) + (List.getD x 14 0)) * 65536) + (List.getD x 13 0)) * 65536) + (List.getD x 12 0) : Nat) : Int)] 24 (0, 0)) else (b2, Obj.cells #[.int .u64 0, .int .u64 ((((List.getD x 7 0) * 65536) + (List.getD x 6 0) : Nat) : Int), .int .u64 ((((((((List.getD x 11 0) * 65536) + (List.getD x 10 0)) * 65536) + (List.getD x 9 0)) * 65536) + (List.getD x 8 0) : Nat) : Int), .int .u64 ((((((((List.getD x 15 0) * 65536) + (List.getD x 14 0)) * 65536) + (List.getD x 13 0)) * 65536) + (List.getD x 12 0) : Nat) : Int)] 24 (0, 0)))) kr (by rfl) (by simp only [hL13, cond_true, cond_false] <;> rfl))) kr (fun L g hN hF => kr)
  · exact D2.gv_valE (fun _ _ _ h => h) (V' := .int .u64 (IntKind.u64.wrap (((((List.getD x 7 0) * 65536) + (List.getD x 6 0) : Nat) : Int) * 65536))) (fun g w => kr) (int_eq (wrapMul_u64 (a := ((List.getD x 7 0) * 65536) + (List.getD x 6 0)) (b := 65536) (by omega)))
  · exact D2.gv_val (fun _ _ _ h => h) (fun g w => kr)
  · exact D2.gv_val (fun _ _ _ h => h) (fun g w => kr)
  · exact D2.gv_callP 63 (fun g => #[.slice (some ⟨ba, 0, none⟩) (List.length x) ca, .int .i64 5]) (fun g => fun w => w.heap[ba]? = some (.cells curA 3 (0, 0))) (fun _ _ _ h => h) (fun L g hN hF => by exact digit_fn x ba (List.length x) ca curA rfl hA (by omega) 5 (by omega)) (fun L g w hN hE hF => by exact (hE.old hpre (lt_of_heap hpre))) (fun g w => kr)
  · exact D2.gv_valE (fun _ _ _ h => h) (V' := .int .u64 (IntKind.u64.wrap (((List.getD x 5 0 : Nat) : Int)))) (fun g w => kr) (int_eq (wrapN_u64 (a := List.getD x 5 0) (by omega)))
  · exact D2.gv_valE (fun _ _ _ h => h) (V' := .int .u64 (IntKind.u64.wrap ((((((List.getD x 7 0) * 65536) + (List.getD x 6 0)) * 65536 : Nat) : Int) + ((List.getD x 5 0 : Nat) : Int)))) (fun g w => kr) (int_eq (wrapAdd_u64 (a := (((List.getD x 7 0) * 65536) + (List.getD x 6 0)) * 65536) (b := List.getD x 5 0) (by omega)))
  · exact D2.gv_val (fun _ _ _ h => h) (fun g w => kr)
  · exact D2.gv_store 0 22 (.tmp 22) (.tmp 21) (fun g => b2) (fun g => 1) #[.int .u64 0, .int .u64 ((((List.getD x 7 0) * 65536) + (List.getD x 6 0) : Nat) : Int), .int .u64 ((((((((List.getD x 11 0) * 65536) + (List.getD x 10 0)) * 65536) + (List.getD x 9 0)) * 65536) + (List.getD x 8 0) : Nat) : Int), .int .u64 ((((((((List.getD x 15 0) * 65536) + (List.getD x 14 0)) * 65536) + (List.getD x 13 0)) * 65536) + (List.getD x 12 0) : Nat) : Int)] #[.int .u64 0, .int .u64 ((((((List.getD x 7 0) * 65536) + (List.getD x 6 0)) * 65536) + (List.getD x 5 0) : Nat) : Int), .int .u64 ((((((((List.getD x 11 0) * 65536) + (List.getD x 10 0)) * 65536) + (List.getD x 9 0)) * 65536) + (List.getD x 8 0) : Nat) : Int), .int .u64 ((((((((List.getD x 15 0) * 65536) + (List.getD x 14 0)) * 65536) + (List.getD x 13 0)) * 65536) + (List.getD x 12 0) : Nat) : Int)] 24 (.int .u64 ((((((List.getD x 7 0) * 65536) + (List.getD x 6 0)) * 65536) + (List.getD x 5 0) : Nat) : Int)) (fun g => kr) (fun g => kr) (fun g => kr) kr kr (fun g => (of_decide_eq_true kr)) (fun g => kr) (fun L g hN => ⟨(by have hL13 : L 13 = false := hN.1; exact D2.ent_get' (p := true) (e := (bif L 13 then (b2, Obj.cells #[.int .u64 0, .int .u64 ((((((List.getD x 7 0) * 65536) + (List.getD x 6 0)) * 65536) + (List.getD x 5 0) : Nat) : Int), .int .u64 ((((((((List.getD x 11 0) * 65536) + (List.getD x 10 0)) * 65536) + (List.getD x 9 0)) * 65536) + (List.getD x 8 0) : Nat) : Int), .int .u64 ((((((((List.getD x 15 0) * 65536) + (List.getD x 14 0)) * 65536) + (List.getD x 13 0)) * 65536) + (List.getD x 12 0) : Nat) : Int)] 24 (0, 0)) else (b2, Obj.cells #[.int .u64 0, .int .u64 ((((List.getD x 7 0) * 65536) + (List.getD x 6 0) : Nat) : Int), .int .u64 ((((((((List.getD x 11 0) * 65536) + (List.getD x 10 0)) * 65536) + (List.getD x 9 0)) * 65536) + (List.getD x 8 0) : Nat) : Int), .int .u64 ((((((((List.getD x 15 0) * 65536) + (List.getD x 14 0)) * 65536) + (List.getD x 13 0)) * 65536) + (List.getD x 12 0) : Nat) : Int)] 24 (0, 0)))) kr (by rfl) (by simp only [hL13, cond_true, cond_false] <;> rfl)), kr⟩) (fun L g hN hF => hF)
  intro L0 G14 w14 hall HL; clear H13
  have H14 : St w.heap.size w w14 [(b2, Obj.cells #[.int .u64 0, .int .u64 ((((((List.getD x 7 0) * 65536) + (List.getD x 6 0)) * 65536) + (List.getD x 5 0) : Nat) : Int), .int .u64 ((((((((List.getD x 11 0) * 65536) + (List.getD x 10 0)) * 65536) + (List.getD x 9 0)) * 65536) + (List.getD x 8 0) : Nat) : Int), .int .u64 ((((((((List.getD x 15 0) * 65536) + (List.getD x 14 0)) * 65536) + (List.getD x 13 0)) * 65536) + (List.getD x 12 0) : Nat) : Int)] 24 (0, 0)), (b1, Od Z4 24)] := by have e13 := hall 13 (Nat.le_of_ble_eq_true kr); have hS := D2.StE.st HL.1; simp only [e13, cond_true, D2.pres] at hS; exact hS
  clear HL hall
  show WP _ _ _ _ _ _
  refine g_reg0 [0, 1, 2] kr ?_
  refine s_val (some 8) (.int .i64 5) (fun w => kr) kr ?_
  refine s_val (some 9) (.int .i64 4) (fun w => kr) kr ?_
  refine s_val (some 4) (.int .i64 4) (fun w => kr) kr ?_
  refine s_nil ?_
  show WPL _ _ _ _ _ _
  refine g_next ?_
  refine g_seq kr ?_
  refine g_sreg [0, 1] kr kr ?_
  refine s_val (some 6) (.int .i64 4) (fun w => kr) kr ?_
  refine s_val (some 7) (.bool true) (fun w => kr) kr ?_
  refine s_nil ?_
  refine g_cond_t kr kr ?_
  refine g_skip kr ?_
  show WP _ _ _ _ _ _
  refine g_seq kr ?_
  refine g_block 1 kr ?_
  refine D2.g_draw0 [0, 1, 2, 3, 4, 5, 6, 7, 8, 9, 10, 11, 12, 13] [((some 10), fun _ => .int .i64 4), ((some 11), fun _ => .int .i64 1), ((some 12), fun _ => .int .i64 4), ((some 13), fun _ => .int .i64 1), ((some 14), fun _ => .pointer (some ⟨b2, 1, none⟩)), ((some 15), fun _ => .int .u64 ((((((List.getD x 7 0) * 65536) + (List.getD x 6 0)) * 65536) + (List.getD x 5 0) : Nat) : Int)), ((some 16), fun _ => .int .u64 (((((((List.getD x 7 0) * 65536) + (List.getD x 6 0)) * 65536) + (List.getD x 5 0)) * 65536 : Nat) : Int)), ((some 17), fun _ => .slice (some ⟨ba, 0, none⟩) (List.length x) ca), ((some 18), fun _ => .int .i64 4), ((some 19), fun _ => .int .i64 ((List.getD x 4 0 : Nat) : Int)), ((some 20), fun _ => .int .u64 ((List.getD x 4 0 : Nat) : Int)), ((some 21), fun _ => .int .u64 ((((((((List.getD x 7 0) * 65536) + (List.getD x 6 0)) * 65536) + (List.getD x 5 0)) * 65536) + (List.getD x 4 0) : Nat) : Int)), ((some 22), fun _ => .pointer (some ⟨b2, 1, none⟩)), (none, fun _ => undef)] (D2.Pre w.heap.size w (fun L g => [(true, (bif L 13 then (b2, Obj.cells #[.int .u64 0, .int .u64 ((((((((List.getD x 7 0) * 65536) + (List.getD x 6 0)) * 65536) + (List.getD x 5 0)) * 65536) + (List.getD x 4 0) : Nat) : Int), .int .u64 ((((((((List.getD x 11 0) * 65536) + (List.getD x 10 0)) * 65536) + (List.getD x 9 0)) * 65536) + (List.getD x 8 0) : Nat) : Int), .int .u64 ((((((((List.getD x 15 0) * 65536) + (List.getD x 14 0)) * 65536) + (List.getD x 13 0)) * 65536) + (List.getD x 12 0) : Nat) : Int)] 24 (0, 0)) else (b2, Obj.cells #[.int .u64 0, .int .u64 ((((((List.getD x 7 0) * 65536) + (List.getD x 6 0)) * 65536) + (List.getD x 5 0) : Nat) : Int), .int .u64 ((((((((List.getD x 11 0) * 65536) + (List.getD x 10 0)) * 65536) + (List.getD x 9 0)) * 65536) + (List.getD x 8 0) : Nat) : Int), .int .u64 ((((((((List.getD x 15 0) * 65536) + (List.getD x 14 0)) * 65536) + (List.getD x 13 0)) * 65536) + (List.getD x 12 0) : Nat) : Int)] 24 (0, 0)))), (true, (b1, Od Z4 24))]) (fun L g => True)) kr kr kr ⟨D2.StE.of H14.drew _ kr, trivial⟩ ⟨?_, ?_, ?_, ?_, ?_, ?_, ?_, ?_, ?_, ?_, ?_, ?_, ?_, ?_, trivial⟩ ?_
  · exact D2.gv_val (fun _ _ _ h => h) (fun g w => kr)
  · exact D2.gv_val (fun _ _ _ h => h) (fun g w => kr)
  · exact D2.gv_val (fun _ _ _ h => h) (fun g w => kr)
  · exact D2.gv_val (fun _ _ _ h => h) (fun g w => kr)
  · exact D2.gv_val (fun _ _ _ h => h) (fun g w => kr)
  · exact D2.gv_load1 22 (.tmp 14) 0 (fun g => b2) (fun g => 1) (fun g => #[.int .u64 0, .int .u64 ((((((List.getD x 7 0) * 65536) + (List.getD x 6 0)) * 65536) + (List.getD x 5 0) : Nat) : Int), .int .u64 ((((((((List.getD x 11 0) * 65536) + (List.getD x 10 0)) * 65536) + (List.getD x 9 0)) * 65536) + (List.getD x 8 0) : Nat) : Int), .int .u64 ((((((((List.getD x 15 0) * 65536) + (List.getD x 14 0)) * 65536) + (List.getD x 13 0)) * 65536) + (List.getD x 12 0) : Nat) : Int)]) 24 (0, 0) (fun _ _ _ h => h) (fun g => kr) (fun g => kr) (fun L g hN => (by have hL13 : L 13 = false := (hN.post 13 kr); exact D2.ent_get' (p := true) (e := (bif L 13 then (b2, Obj.cells #[.int .u64 0, .int .u64 ((((((((List.getD x 7 0) * 65536) + (List.getD x 6 0)) * 65536) + (List.getD x 5 0)) * 65536) + (List.getD x 4 0) : Nat) : Int), .int .u64 ((((((((List.getD x 11 0) * 65536) + (List.getD x 10 0)) * 65536) + (List.getD x 9 0)) * 65536) + (List.getD x 8 0) : Nat) : Int), .int .u64 ((((((((List.getD x 15 0) * 65536) + (List.getD x 14 0)) * 65536) + (List.getD x 13 0)) * 65536) + (List.getD x 12 0) : Nat) : Int)] 24 (0, 0)) else (b2, Obj.cells #[.int .u64 0, .int .u64 ((((((List.getD x 7 0) * 65536) + (List.getD x 6 0)) * 65536) + (List.getD x 5 0) : Nat) : Int), .int .u64 ((((((((List.getD x 11 0) * 65536) + (List.getD x 10 0)) * 65536) + (List.getD x 9 0)) * 65536) + (List.getD x 8 0) : Nat) : Int), .int .u64 ((((((((List.getD x 15 0) * 65536) + (List.getD x 14 0)) * 65536) + (List.getD x 13 0)) * 65536) + (List.getD x 12 0) : Nat) : Int)] 24 (0, 0)))) kr (by rfl) (by simp only [hL13, cond_true, cond_false] <;> rfl))) kr (fun L g hN hF => kr)
  · exact D2.gv_valE (fun _ _ _ h => h) (V' := .int .u64 (IntKind.u64.wrap (((((((List.getD x 7 0) * 65536) + (List.getD x 6 0)) * 65536) + (List.getD x 5 0) : Nat) : Int) * 65536))) (fun g w => kr) (int_eq (wrapMul_u64 (a := ((((List.getD x 7 0) * 65536) + (List.getD x 6 0)) * 65536) + (List.getD x 5 0)) (b := 65536) (by omega)))
  · exact D2.gv_val (fun _ _ _ h => h) (fun g w => kr)
  · exact D2.gv_val (fun _ _ _ h => h) (fun g w => kr)
  · exact D2.gv_callP 63 (fun g => #[.slice (some ⟨ba, 0, none⟩) (List.length x) ca, .int .i64 4]) (fun g => fun w => w.heap[ba]? = some (.cells curA 3 (0, 0))) (fun _ _ _ h => h) (fun L g hN hF => by exact digit_fn x ba (List.length x) ca curA rfl hA (by omega) 4 (by omega)) (fun L g w hN hE hF => by exact (hE.old hpre (lt_of_heap hpre))) (fun g w => kr)
  · exact D2.gv_valE (fun _ _ _ h => h) (V' := .int .u64 (IntKind.u64.wrap (((List.getD x 4 0 : Nat) : Int)))) (fun g w => kr) (int_eq (wrapN_u64 (a := List.getD x 4 0) (by omega)))
  · exact D2.gv_valE (fun _ _ _ h => h) (V' := .int .u64 (IntKind.u64.wrap ((((((((List.getD x 7 0) * 65536) + (List.getD x 6 0)) * 65536) + (List.getD x 5 0)) * 65536 : Nat) : Int) + ((List.getD x 4 0 : Nat) : Int)))) (fun g w => kr) (int_eq (wrapAdd_u64 (a := (((((List.getD x 7 0) * 65536) + (List.getD x 6 0)) * 65536) + (List.getD x 5 0)) * 65536) (b := List.getD x 4 0) (by omega)))
  · exact D2.gv_val (fun _ _ _ h => h) (fun g w => kr)
  · exact D2.gv_store 0 22 (.tmp 22) (.tmp 21) (fun g => b2) (fun g => 1) #[.int .u64 0, .int .u64 ((((((List.getD x 7 0) * 65536) + (List.getD x 6 0)) * 65536) + (List.getD x 5 0) : Nat) : Int), .int .u64 ((((((((List.getD x 11 0) * 65536) + (List.getD x 10 0)) * 65536) + (List.getD x 9 0)) * 65536) + (List.getD x 8 0) : Nat) : Int), .int .u64 ((((((((List.getD x 15 0) * 65536) + (List.getD x 14 0)) * 65536) + (List.getD x 13 0)) * 65536) + (List.getD x 12 0) : Nat) : Int)] #[.int .u64 0, .int .u64 ((((((((List.getD x 7 0) * 65536) + (List.getD x 6 0)) * 65536) + (List.getD x 5 0)) * 65536) + (List.getD x 4 0) : Nat) : Int), .int .u64 ((((((((List.getD x 11 0) * 65536) + (List.getD x 10 0)) * 65536) + (List.getD x 9 0)) * 65536) + (List.getD x 8 0) : Nat) : Int), .int .u64 ((((((((List.getD x 15 0) * 65536) + (List.getD x 14 0)) * 65536) + (List.getD x 13 0)) * 65536) + (List.getD x 12 0) : Nat) : Int)] 24 (.int .u64 ((((((((List.getD x 7 0) * 65536) + (List.getD x 6 0)) * 65536) + (List.getD x 5 0)) * 65536) + (List.getD x 4 0) : Nat) : Int)) (fun g => kr) (fun g => kr) (fun g => kr) kr kr (fun g => (of_decide_eq_true kr)) (fun g => kr) (fun L g hN => ⟨(by have hL13 : L 13 = false := hN.1; exact D2.ent_get' (p := true) (e := (bif L 13 then (b2, Obj.cells #[.int .u64 0, .int .u64 ((((((((List.getD x 7 0) * 65536) + (List.getD x 6 0)) * 65536) + (List.getD x 5 0)) * 65536) + (List.getD x 4 0) : Nat) : Int), .int .u64 ((((((((List.getD x 11 0) * 65536) + (List.getD x 10 0)) * 65536) + (List.getD x 9 0)) * 65536) + (List.getD x 8 0) : Nat) : Int), .int .u64 ((((((((List.getD x 15 0) * 65536) + (List.getD x 14 0)) * 65536) + (List.getD x 13 0)) * 65536) + (List.getD x 12 0) : Nat) : Int)] 24 (0, 0)) else (b2, Obj.cells #[.int .u64 0, .int .u64 ((((((List.getD x 7 0) * 65536) + (List.getD x 6 0)) * 65536) + (List.getD x 5 0) : Nat) : Int), .int .u64 ((((((((List.getD x 11 0) * 65536) + (List.getD x 10 0)) * 65536) + (List.getD x 9 0)) * 65536) + (List.getD x 8 0) : Nat) : Int), .int .u64 ((((((((List.getD x 15 0) * 65536) + (List.getD x 14 0)) * 65536) + (List.getD x 13 0)) * 65536) + (List.getD x 12 0) : Nat) : Int)] 24 (0, 0)))) kr (by rfl) (by simp only [hL13, cond_true, cond_false] <;> rfl)), kr⟩) (fun L g hN hF => hF)
  intro L0 G15 w15 hall HL; clear H14
  have H15 : St w.heap.size w w15 [(b2, Obj.cells #[.int .u64 0, .int .u64 ((((((((List.getD x 7 0) * 65536) + (List.getD x 6 0)) * 65536) + (List.getD x 5 0)) * 65536) + (List.getD x 4 0) : Nat) : Int), .int .u64 ((((((((List.getD x 11 0) * 65536) + (List.getD x 10 0)) * 65536) + (List.getD x 9 0)) * 65536) + (List.getD x 8 0) : Nat) : Int), .int .u64 ((((((((List.getD x 15 0) * 65536) + (List.getD x 14 0)) * 65536) + (List.getD x 13 0)) * 65536) + (List.getD x 12 0) : Nat) : Int)] 24 (0, 0)), (b1, Od Z4 24)] := by have e13 := hall 13 (Nat.le_of_ble_eq_true kr); have hS := D2.StE.st HL.1; simp only [e13, cond_true, D2.pres] at hS; exact hS
  clear HL hall
  show WP _ _ _ _ _ _
  refine g_reg0 [0, 1, 2] kr ?_
  refine s_val (some 8) (.int .i64 4) (fun w => kr) kr ?_
  refine s_val (some 9) (.int .i64 3) (fun w => kr) kr ?_
  refine s_val (some 4) (.int .i64 3) (fun w => kr) kr ?_
  refine s_nil ?_
  show WPL _ _ _ _ _ _
  refine g_next ?_
  refine g_seq kr ?_
  refine g_sreg [0, 1] kr kr ?_
  refine s_val (some 6) (.int .i64 3) (fun w => kr) kr ?_
  refine s_val (some 7) (.bool true) (fun w => kr) kr ?_
  refine s_nil ?_
  refine g_cond_t kr kr ?_
  refine g_skip kr ?_
  show WP _ _ _ _ _ _
  refine g_seq kr ?_
  refine g_block 1 kr ?_
  refine D2.g_draw0 [0, 1, 2, 3, 4, 5, 6, 7, 8, 9, 10, 11, 12, 13] [((some 10), fun _ => .int .i64 3), ((some 11), fun _ => .int .i64 0), ((some 12), fun _ => .int .i64 3), ((some 13), fun _ => .int .i64 0), ((some 14), fun _ => .pointer (some ⟨b2, 0, none⟩)), ((some 15), fun _ => .int .u64 0), ((some 16), fun _ => .int .u64 0), ((some 17), fun _ => .slice (some ⟨ba, 0, none⟩) (List.length x) ca), ((some 18), fun _ => .int .i64 3), ((some 19), fun _ => .int .i64 ((List.getD x 3 0 : Nat) : Int)), ((some 20), fun _ => .int .u64 ((List.getD x 3 0 : Nat) : Int)), ((some 21), fun _ => .int .u64 ((List.getD x 3 0 : Nat) : Int)), ((some 22), fun _ => .pointer (some ⟨b2, 0, none⟩)), (none, fun _ => undef)] (D2.Pre w.heap.size w (fun L g => [(true, (bif L 13 then (b2, Obj.cells #[.int .u64 ((List.getD x 3 0 : Nat) : Int), .int .u64 ((((((((List.getD x 7 0) * 65536) + (List.getD x 6 0)) * 65536) + (List.getD x 5 0)) * 65536) + (List.getD x 4 0) : Nat) : Int), .int .u64 ((((((((List.getD x 11 0) * 65536) + (List.getD x 10 0)) * 65536) + (List.getD x 9 0)) * 65536) + (List.getD x 8 0) : Nat) : Int), .int .u64 ((((((((List.getD x 15 0) * 65536) + (List.getD x 14 0)) * 65536) + (List.getD x 13 0)) * 65536) + (List.getD x 12 0) : Nat) : Int)] 24 (0, 0)) else (b2, Obj.cells #[.int .u64 0, .int .u64 ((((((((List.getD x 7 0) * 65536) + (List.getD x 6 0)) * 65536) + (List.getD x 5 0)) * 65536) + (List.getD x 4 0) : Nat) : Int), .int .u64 ((((((((List.getD x 11 0) * 65536) + (List.getD x 10 0)) * 65536) + (List.getD x 9 0)) * 65536) + (List.getD x 8 0) : Nat) : Int), .int .u64 ((((((((List.getD x 15 0) * 65536) + (List.getD x 14 0)) * 65536) + (List.getD x 13 0)) * 65536) + (List.getD x 12 0) : Nat) : Int)] 24 (0, 0)))), (true, (b1, Od Z4 24))]) (fun L g => True)) kr kr kr ⟨D2.StE.of H15.drew _ kr, trivial⟩ ⟨?_, ?_, ?_, ?_, ?_, ?_, ?_, ?_, ?_, ?_, ?_, ?_, ?_, ?_, trivial⟩ ?_
  · exact D2.gv_val (fun _ _ _ h => h) (fun g w => kr)
  · exact D2.gv_val (fun _ _ _ h => h) (fun g w => kr)
  · exact D2.gv_val (fun _ _ _ h => h) (fun g w => kr)
  · exact D2.gv_val (fun _ _ _ h => h) (fun g w => kr)
  · exact D2.gv_val (fun _ _ _ h => h) (fun g w => kr)
  · exact D2.gv_load1 22 (.tmp 14) 0 (fun g => b2) (fun g => 0) (fun g => #[.int .u64 0, .int .u64 ((((((((List.getD x 7 0) * 65536) + (List.getD x 6 0)) * 65536) + (List.getD x 5 0)) * 65536) + (List.getD x 4 0) : Nat) : Int), .int .u64 ((((((((List.getD x 11 0) * 65536) + (List.getD x 10 0)) * 65536) + (List.getD x 9 0)) * 65536) + (List.getD x 8 0) : Nat) : Int), .int .u64 ((((((((List.getD x 15 0) * 65536) + (List.getD x 14 0)) * 65536) + (List.getD x 13 0)) * 65536) + (List.getD x 12 0) : Nat) : Int)]) 24 (0, 0) (fun _ _ _ h => h) (fun g => kr) (fun g => kr) (fun L g hN => (by have hL13 : L 13 = false := (hN.post 13 kr); exact D2.ent_get' (p := true) (e := (bif L 13 then (b2, Obj.cells #[.int .u64 ((List.getD x 3 0 : Nat) : Int), .int .u64 ((((((((List.getD x 7 0) * 65536) + (List.getD x 6 0)) * 65536) + (List.getD x 5 0)) * 65536) + (List.getD x 4 0) : Nat) : Int), .int .u64 ((((((((List.getD x 11 0) * 65536) + (List.getD x 10 0)) * 65536) + (List.getD x 9 0)) * 65536) + (List.getD x 8 0) : Nat) : Int), .int .u64 ((((((((List.getD x 15 0) * 65536) + (List.getD x 14 0)) * 65536) + (List.getD x 13 0)) * 65536) + (List.getD x 12 0) : Nat) : Int)] 24 (0, 0)) else (b2, Obj.cells #[.int .u64 0, .int .u64 ((((((((List.getD x 7 0) * 65536) + (List.getD x 6 0)) * 65536) + (List.getD x 5 0)) * 65536) + (List.getD x 4 0) : Nat) : Int), .int .u64 ((((((((List.getD x 11 0) * 65536) + (List.getD x 10 0)) * 65536) + (List.getD x 9 0)) * 65536) + (List.getD x 8 0) : Nat) : Int), .int .u64 ((((((((List.getD x 15 0) * 65536) + (List.getD x 14 0)) * 65536) + (List.getD x 13 0)) * 65536) + (List.getD x 12 0) : Nat) : Int)] 24 (0, 0)))) kr (by rfl) (by simp only [hL13, cond_true, cond_false] <;> rfl))) kr (fun L g hN hF => kr)
  · exact D2.gv_val (fun _ _ _ h => h) (fun g w => kr)
  · exact D2.gv_val (fun _ _ _ h => h) (fun g w => kr)
  · exact D2.gv_val (fun _ _ _ h => h) (fun g w => kr)
  · exact D2.gv_callP 63 (fun g => #[.slice (some ⟨ba, 0, none⟩) (List.length x) ca, .int .i64 3]) (fun g => fun w => w.heap[ba]? = some (.cells curA 3 (0, 0))) (fun _ _ _ h => h) (fun L g hN hF => by exact digit_fn x ba (List.length x) ca curA rfl hA (by omega) 3 (by omega)) (fun L g w hN hE hF => by exact (hE.old hpre (lt_of_heap hpre))) (fun g w => kr)
  · exact D2.gv_valE (fun _ _ _ h => h) (V' := .int .u64 (IntKind.u64.wrap (((List.getD x 3 0 : Nat) : Int)))) (fun g w => kr) (int_eq (wrapN_u64 (a := List.getD x 3 0) (by omega)))
  · exact D2.gv_valE (fun _ _ _ h => h) (V' := .int .u64 (IntKind.u64.wrap (0 + ((List.getD x 3 0 : Nat) : Int)))) (fun g w => kr) (int_eq (show IntKind.u64.wrap ((0 : Int) + ((List.getD x 3 0 : Nat) : Int)) = _ by rw [Int.zero_add]; exact wrapN_u64 (by omega)))
  · exact D2.gv_val (fun _ _ _ h => h) (fun g w => kr)
  · exact D2.gv_store 0 22 (.tmp 22) (.tmp 21) (fun g => b2) (fun g => 0) #[.int .u64 0, .int .u64 ((((((((List.getD x 7 0) * 65536) + (List.getD x 6 0)) * 65536) + (List.getD x 5 0)) * 65536) + (List.getD x 4 0) : Nat) : Int), .int .u64 ((((((((List.getD x 11 0) * 65536) + (List.getD x 10 0)) * 65536) + (List.getD x 9 0)) * 65536) + (List.getD x 8 0) : Nat) : Int), .int .u64 ((((((((List.getD x 15 0) * 65536) + (List.getD x 14 0)) * 65536) + (List.getD x 13 0)) * 65536) + (List.getD x 12 0) : Nat) : Int)] #[.int .u64 ((List.getD x 3 0 : Nat) : Int), .int .u64 ((((((((List.getD x 7 0) * 65536) + (List.getD x 6 0)) * 65536) + (List.getD x 5 0)) * 65536) + (List.getD x 4 0) : Nat) : Int), .int .u64 ((((((((List.getD x 11 0) * 65536) + (List.getD x 10 0)) * 65536) + (List.getD x 9 0)) * 65536) + (List.getD x 8 0) : Nat) : Int), .int .u64 ((((((((List.getD x 15 0) * 65536) + (List.getD x 14 0)) * 65536) + (List.getD x 13 0)) * 65536) + (List.getD x 12 0) : Nat) : Int)] 24 (.int .u64 ((List.getD x 3 0 : Nat) : Int)) (fun g => kr) (fun g => kr) (fun g => kr) kr kr (fun g => (of_decide_eq_true kr)) (fun g => kr) (fun L g hN => ⟨(by have hL13 : L 13 = false := hN.1; exact D2.ent_get' (p := true) (e := (bif L 13 then (b2, Obj.cells #[.int .u64 ((List.getD x 3 0 : Nat) : Int), .int .u64 ((((((((List.getD x 7 0) * 65536) + (List.getD x 6 0)) * 65536) + (List.getD x 5 0)) * 65536) + (List.getD x 4 0) : Nat) : Int), .int .u64 ((((((((List.getD x 11 0) * 65536) + (List.getD x 10 0)) * 65536) + (List.getD x 9 0)) * 65536) + (List.getD x 8 0) : Nat) : Int), .int .u64 ((((((((List.getD x 15 0) * 65536) + (List.getD x 14 0)) * 65536) + (List.getD x 13 0)) * 65536) + (List.getD x 12 0) : Nat) : Int)] 24 (0, 0)) else (b2, Obj.cells #[.int .u64 0, .int .u64 ((((((((List.getD x 7 0) * 65536) + (List.getD x 6 0)) * 65536) + (List.getD x 5 0)) * 65536) + (List.getD x 4 0) : Nat) : Int), .int .u64 ((((((((List.getD x 11 0) * 65536) + (List.getD x 10 0)) * 65536) + (List.getD x 9 0)) * 65536) + (List.getD x 8 0) : Nat) : Int), .int .u64 ((((((((List.getD x 15 0) * 65536) + (List.getD x 14 0)) * 65536) + (List.getD x 13 0)) * 65536) + (List.getD x 12 0) : Nat) : Int)] 24 (0, 0)))) kr (by rfl) (by simp only [hL13, cond_true, cond_false] <;> rfl)), kr⟩) (fun L g hN hF => hF)
  intro L0 G16 w16 hall HL; clear H15
  have H16 : St w.heap.size w w16 [(b2, Obj.cells #[.int .u64 ((List.getD x 3 0 : Nat) : Int), .int .u64 ((((((((List.getD x 7 0) * 65536) + (List.getD x 6 0)) * 65536) + (List.getD x 5 0)) * 65536) + (List.getD x 4 0) : Nat) : Int), .int .u64 ((((((((List.getD x 11 0) * 65536) + (List.getD x 10 0)) * 65536) + (List.getD x 9 0)) * 65536) + (List.getD x 8 0) : Nat) : Int), .int .u64 ((((((((List.getD x 15 0) * 65536) + (List.getD x 14 0)) * 65536) + (List.getD x 13 0)) * 65536) + (List.getD x 12 0) : Nat) : Int)] 24 (0, 0)), (b1, Od Z4 24)] := by have e13 := hall 13 (Nat.le_of_ble_eq_true kr); have hS := D2.StE.st HL.1; simp only [e13, cond_true, D2.pres] at hS; exact hS
  clear HL hall
  show WP _ _ _ _ _ _
  refine g_reg0 [0, 1, 2] kr ?_
  refine s_val (some 8) (.int .i64 3) (fun w => kr) kr ?_
  refine s_val (some 9) (.int .i64 2) (fun w => kr) kr ?_
  refine s_val (some 4) (.int .i64 2) (fun w => kr) kr ?_
  refine s_nil ?_
  show WPL _ _ _ _ _ _
  refine g_next ?_
  refine g_seq kr ?_
  refine g_sreg [0, 1] kr kr ?_
  refine s_val (some 6) (.int .i64 2) (fun w => kr) kr ?_
  refine s_val (some 7) (.bool true) (fun w => kr) kr ?_
  refine s_nil ?_
  refine g_cond_t kr kr ?_
  refine g_skip kr ?_
  show WP _ _ _ _ _ _
  refine g_seq kr ?_
  refine g_block 1 kr ?_
  refine D2.g_draw0 [0, 1, 2, 3, 4, 5, 6, 7, 8, 9, 10, 11, 12, 13] [((some 10), fun _ => .int .i64 2), ((some 11), fun _ => .int .i64 0), ((some 12), fun _ => .int .i64 2), ((some 13), fun _ => .int .i64 0), ((some 14), fun _ => .pointer (some ⟨b2, 0, none⟩)), ((some 15), fun _ => .int .u64 ((List.getD x 3 0 : Nat) : Int)), ((some 16), fun _ => .int .u64 (((List.getD x 3 0) * 65536 : Nat) : Int)), ((some 17), fun _ => .slice (some ⟨ba, 0, none⟩) (List.length x) ca), ((some 18), fun _ => .int .i64 2), ((some 19), fun _ => .int .i64 ((List.getD x 2 0 : Nat) : Int)), ((some 20), fun _ => .int .u64 ((List.getD x 2 0 : Nat) : Int)), ((some 21), fun _ => .int .u64 ((((List.getD x 3 0) * 65536) + (List.getD x 2 0) : Nat) : Int)), ((some 22), fun _ => .pointer (some ⟨b2, 0, none⟩)), (none, fun _ => undef)] (D2.Pre w.heap.size w (fun L g => [(true, (bif L 13 then (b2, Obj.cells #[.int .u64 ((((List.getD x 3 0) * 65536) + (List.getD x 2 0) : Nat) : Int), .int .u64 ((((((((List.getD x 7 0) * 65536) + (List.getD x 6 0)) * 65536) + (List.getD x 5 0)) * 65536) + (List.getD x 4 0) : Nat) : Int), .int .u64 ((((((((List.getD x 11 0) * 65536) + (List.getD x 10 0)) * 65536) + (List.getD x 9 0)) * 65536) + (List.getD x 8 0) : Nat) : Int), .int .u64 ((((((((List.getD x 15 0) * 65536) + (List.getD x 14 0)) * 65536) + (List.getD x 13 0)) * 65536) + (List.getD x 12 0) : Nat) : Int)] 24 (0, 0)) else (b2, Obj.cells #[.int .u64 ((List.getD x 3 0 : Nat) : Int), .int .u64 ((((((((List.getD x 7 0) * 65536) + (List.getD x 6 0)) * 65536) + (List.getD x 5 0)) * 65536) + (List.getD x 4 0) : Nat) : Int), .int .u64 ((((((((List.getD x 11 0) * 65536) + (List.getD x 10 0)) * 65536) + (List.getD x 9 0)) * 65536) + (List.getD x 8 0) : Nat) : Int), .int .u64 ((((((((List.getD x 15 0) * 65536) + (List.getD x 14 0)) * 65536) + (List.getD x 13 0)) * 65536) + (List.getD x 12 0) : Nat) : Int)] 24 (0, 0)))), (true, (b1, Od Z4 24))]) (fun L g => True)) kr kr kr ⟨D2.StE.of H16.drew _ kr, trivial⟩ ⟨?_, ?_, ?_, ?_, ?_, ?_, ?_, ?_, ?_, ?_, ?_, ?_, ?_, ?_, trivial⟩ ?_
  · exact D2.gv_val (fun _ _ _ h => h) (fun g w => kr)
  · exact D2.gv_val (fun _ _ _ h => h) (fun g w => kr)
  · exact D2.gv_val (fun _ _ _ h => h) (fun g w => kr)
  · exact D2.gv_val (fun _ _ _ h => h) (fun g w => kr)
  · exact D2.gv_val (fun _ _ _ h => h) (fun g w => kr)
  · exact D2.gv_load1 22 (.tmp 14) 0 (fun g => b2) (fun g => 0) (fun g => #[.int .u64 ((List.getD x 3 0 : Nat) : Int), .int .u64 ((((((((List.getD x 7 0) * 65536) + (List.getD x 6 0)) * 65536) + (List.getD x 5 0)) * 65536) + (List.getD x 4 0) : Nat) : Int), .int .u64 ((((((((List.getD x 11 0) * 65536) + (List.getD x 10 0)) * 65536) + (List.getD x 9 0)) * 65536) + (List.getD x 8 0) : Nat) : Int), .int .u64 ((((((((List.getD x 15 0) * 65536) + (List.getD x 14 0)) * 65536) + (List.getD x 13 0)) * 65536) + (List.getD x 12 0) : Nat) : Int)]) 24 (0, 0) (fun _ _ _ h => h) (fun g => kr) (fun g => kr) (fun L g hN => (by have hL13 : L 13 = false := (hN.post 13 kr); exact D2.ent_get' (p := true) (e := (bif L 13 then (b2, Obj.cells #[.int .u64 ((((List.getD x 3 0) * 65536) + (List.getD x 2 0) : Nat) : Int), .int .u64 ((((((((List.getD x 7 0) * 65536) + (List.getD x 6 0)) * 65536) + (List.getD x 5 0)) * 65536) + (List.getD x 4 0) : Nat) : Int), .int .u64 ((((((((List.getD x 11 0) * 65536) + (List.getD x 10 0)) * 65536) + (List.getD x 9 0)) * 65536) + (List.getD x 8 0) : Nat) : Int), .int .u64 ((((((((List.getD x 15 0) * 65536) + (List.getD x 14 0)) * 65536) + (List.getD x 13 0)) * 65536) + (List.getD x 12 0) : Nat) : Int)] 24 (0, 0)) else (b2, Obj.cells #[.int .u64 ((List.getD x 3 0 : Nat) : Int), .int .u64 ((((((((List.getD x 7 0) * 65536) + (List.getD x 6 0)) * 65536) + (List.getD x 5 0)) * 65536) + (List.getD x 4 0) : Nat) : Int), .int .u64 ((((((((List.getD x 11 0) * 65536) + (List.getD x 10 0)) * 65536) + (List.getD x 9 0)) * 65536) + (List.getD x 8 0) : Nat) : Int), .int .u64 ((((((((List.getD x 15 0) * 65536) + (List.getD x 14 0)) * 65536) + (List.getD x 13 0)) * 65536) + (List.getD x 12 0) : Nat) : Int)] 24 (0, 0)))) kr (by rfl) (by simp only [hL13, cond_true, cond_false] <;> rfl))) kr (fun L g hN hF => kr)
  · exact D2.gv_valE (fun _ _ _ h => h) (V' := .int .u64 (IntKind.u64.wrap (((List.getD x 3 0 : Nat) : Int) * 65536))) (fun g w => kr) (int_eq (wrapMul_u64 (a := List.getD x 3 0) (b := 65536) (by omega)))
  · exact D2.gv_val (fun _ _ _ h => h) (fun g w => kr)
  · exact D2.gv_val (fun _ _ _ h => h) (fun g w => kr)
  · exact D2.gv_callP 63 (fun g => #[.slice (some ⟨ba, 0, none⟩) (List.length x) ca, .int .i64 2]) (fun g => fun w => w.heap[ba]? = some (.cells curA 3 (0, 0))) (fun _ _ _ h => h) (fun L g hN hF => by exact digit_fn x ba (List.length x) ca curA rfl hA (by omega) 2 (by omega)) (fun L g w hN hE hF => by exact (hE.old hpre (lt_of_heap hpre))) (fun g w => kr)
  · exact D2.gv_valE (fun _ _ _ h => h) (V' := .int .u64 (IntKind.u64.wrap (((List.getD x 2 0 : Nat) : Int)))) (fun g w => kr) (int_eq (wrapN_u64 (a := List.getD x 2 0) (by omega)))
  · exact D2.gv_valE (fun _ _ _ h => h) (V' := .int .u64 (IntKind.u64.wrap ((((List.getD x 3 0) * 65536 : Nat) : Int) + ((List.getD x 2 0 : Nat) : Int)))) (fun g w => kr) (int_eq (wrapAdd_u64 (a := (List.getD x 3 0) * 65536) (b := List.getD x 2 0) (by omega)))
  · exact D2.gv_val (fun _ _ _ h => h) (fun g w => kr)
  · exact D2.gv_store 0 22 (.tmp 22) (.tmp 21) (fun g => b2) (fun g => 0) #[.int .u64 ((List.getD x 3 0 : Nat) : Int), .int .u64 ((((((((List.getD x 7 0) * 65536) + (List.getD x 6 0)) * 65536) + (List.getD x 5 0)) * 65536) + (List.getD x 4 0) : Nat) : Int), .int .u64 ((((((((List.getD x 11 0) * 65536) + (List.getD x 10 0)) * 65536) + (List.getD x 9 0)) * 65536) + (List.getD x 8 0) : Nat) : Int), .int .u64 ((((((((List.getD x 15 0) * 65536) + (List.getD x 14 0)) * 65536) + (List.getD x 13 0)) * 65536) + (List.getD x 12 0) : Nat) : Int)] #[.int .u64 ((((List.getD x 3 0) * 65536) + (List.getD x 2 0) : Nat) : Int), .int .u64 ((((((((List.getD x 7 0) * 65536) + (List.getD x 6 0)) * 65536) + (List.getD x 5 0)) * 65536) + (List.getD x 4 0) : Nat) : Int), .int .u64 ((((((((List.getD x 11 0) * 65536) + (List.getD x 10 0)) * 65536) + (List.getD x 9 0)) * 65536) + (List.getD x 8 0) : Nat) : Int), .int .u64 ((((((((List.getD x 15 0) * 65536) + (List.getD x 14 0)) * 65536) + (List.getD x 13 0)) * 65536) + (List.getD x 12 0) : Nat) : Int)] 24 (.int .u64 ((((List.getD x 3 0) * 65536) + (List.getD x 2 0) : Nat) : Int)) (fun g => kr) (fun g => kr) (fun g => kr) kr kr (fun g => (of_decide_eq_true kr)) (fun g => kr) (fun L g hN => ⟨(by have hL13 : L 13 = false := hN.1; exact D2.ent_get' (p := true) (e := (bif L 13 then (b2, Obj.cells #[.int .u64 ((((List.getD x 3 0) * 65536) + (List.getD x 2 0) : Nat) : Int), .int .u64 ((((((((List.getD x 7 0) * 65536) + (List.getD x 6 0)) * 65536) + (List.getD x 5 0)) * 65536) + (List.getD x 4 0) : Nat) : Int), .int .u64 ((((((((List.getD x 11 0) * 65536) + (List.getD x 10 0)) * 65536) + (List.getD x 9 0)) * 65536) + (List.getD x 8 0) : Nat) : Int), .int .u64 ((((((((List.getD x 15 0) * 65536) + (List.getD x 14 0)) * 65536) + (List.getD x 13 0)) * 65536) + (List.getD x 12 0) : Nat) : Int)] 24 (0, 0)) else (b2, Obj.cells #[.int .u64 ((List.getD x 3 0 : Nat) : Int), .int .u64 ((((((((List.getD x 7 0) * 65536) + (List.getD x 6 0)) * 65536) + (List.getD x 5 0)) * 65536) + (List.getD x 4 0) : Nat) : Int), .int .u64 ((((((((List.getD x 11 0) * 65536) + (List.getD x 10 0)) * 65536) + (List.getD x 9 0)) * 65536) + (List.getD x 8 0) : Nat) : Int), .int .u64 ((((((((List.getD x 15 0) * 65536) + (List.getD x 14 0)) * 65536) + (List.getD x 13 0)) * 65536) + (List.getD x 12 0) : Nat) : Int)] 24 (0, 0)))) kr (by rfl) (by simp only [hL13, cond_true, cond_false] <;> rfl)), kr⟩) (fun L g hN hF => hF)
  intro L0 G17 w17 hall HL; clear H16
  have H17 : St w.heap.size w w17 [(b2, Obj.cells #[.int .u64 ((((List.getD x 3 0) * 65536) + (List.getD x 2 0) : Nat) : Int), .int .u64 ((((((((List.getD x 7 0) * 65536) + (List.getD x 6 0)) * 65536) + (List.getD x 5 0)) * 65536) + (List.getD x 4 0) : Nat) : Int), .int .u64 ((((((((List.getD x 11 0) * 65536) + (List.getD x 10 0)) * 65536) + (List.getD x 9 0)) * 65536) + (List.getD x 8 0) : Nat) : Int), .int .u64 ((((((((List.getD x 15 0) * 65536) + (List.getD x 14 0)) * 65536) + (List.getD x 13 0)) * 65536) + (List.getD x 12 0) : Nat) : Int)] 24 (0, 0)), (b1, Od Z4 24)] := by have e13 := hall 13 (Nat.le_of_ble_eq_true kr); have hS := D2.StE.st HL.1; simp only [e13, cond_true, D2.pres] at hS; exact hS
  clear HL hall
  show WP _ _ _ _ _ _
  refine g_reg0 [0, 1, 2] kr ?_
  refine s_val (some 8) (.int .i64 2) (fun w => kr) kr ?_
  refine s_val (some 9) (.int .i64 1) (fun w => kr) kr ?_
  refine s_val (some 4) (.int .i64 1) (fun w => kr) kr ?_
  refine s_nil ?_
  show WPL _ _ _ _ _ _
  refine g_next ?_
  refine g_seq kr ?_
  refine g_sreg [0, 1] kr kr ?_
  refine s_val (some 6) (.int .i64 1) (fun w => kr) kr ?_
  refine s_val (some 7) (.bool true) (fun w => kr) kr ?_
  refine s_nil ?_
  refine g_cond_t kr kr ?_
  refine g_skip kr ?_
  show WP _ _ _ _ _ _
  refine g_seq kr ?_
  refine g_block 1 kr ?_
  refine D2.g_draw0 [0, 1, 2, 3, 4, 5, 6, 7, 8, 9, 10, 11, 12, 13] [((some 10), fun _ => .int .i64 1), ((some 11), fun _ => .int .i64 0), ((some 12), fun _ => .int .i64 1), ((some 13), fun _ => .int .i64 0), ((some 14), fun _ => .pointer (some ⟨b2, 0, none⟩)), ((some 15), fun _ => .int .u64 ((((List.getD x 3 0) * 65536) + (List.getD x 2 0) : Nat) : Int)), ((some 16), fun _ => .int .u64 (((((List.getD x 3 0) * 65536) + (List.getD x 2 0)) * 65536 : Nat) : Int)), ((some 17), fun _ => .slice (some ⟨ba, 0, none⟩) (List.length x) ca), ((some 18), fun _ => .int .i64 1), ((some 19), fun _ => .int .i64 ((List.getD x 1 0 : Nat) : Int)), ((some 20), fun _ => .int .u64 ((List.getD x 1 0 : Nat) : Int)), ((some 21), fun _ => .int .u64 ((((((List.getD x 3 0) * 65536) + (List.getD x 2 0)) * 65536) + (List.getD x 1 0) : Nat) : Int)), ((some 22), fun _ => .pointer (some ⟨b2, 0, none⟩)), (none, fun _ => undef)] (D2.Pre w.heap.size w (fun L g => [(true, (bif L 13 then (b2, Obj.cells #[.int .u64 ((((((List.getD x 3 0) * 65536) + (List.getD x 2 0)) * 65536) + (List.getD x 1 0) : Nat) : Int), .int .u64 ((((((((List.getD x 7 0) * 65536) + (List.getD x 6 0)) * 65536) + (List.getD x 5 0)) * 65536) + (List.getD x 4 0) : Nat) : Int), .int .u64 ((((((((List.getD x 11 0) * 65536) + (List.getD x 10 0)) * 65536) + (List.getD x 9 0)) * 65536) + (List.getD x 8 0) : Nat) : Int), .int .u64 ((((((((List.getD x 15 0) * 65536) + (List.getD x 14 0)) * 65536) + (List.getD x 13 0)) * 65536) + (List.getD x 12 0) : Nat) : Int)] 24 (0, 0)) else (b2, Obj.cells #[.int .u64 ((((List.getD x 3 0) * 65536) + (List.getD x 2 0) : Nat) : Int), .int .u64 ((((((((List.getD x 7 0) * 65536) + (List.getD x 6 0)) * 65536) + (List.getD x 5 0)) * 65536) + (List.getD x 4 0) : Nat) : Int), .int .u64 ((((((((List.getD x 11 0) * 65536) + (List.getD x 10 0)) * 65536) + (List.getD x 9 0)) * 65536) + (List.getD x 8 0) : Nat) : Int), .int .u64 ((((((((List.getD x 15 0) * 65536) + (List.getD x 14 0)) * 65536) + (List.getD x 13 0)) * 65536) + (List.getD x 12 0) : Nat) : Int)] 24 (0, 0)))), (true, (b1, Od Z4 24))]) (fun L g => True)) kr kr kr ⟨D2.StE.of H17.drew _ kr, trivial⟩ ⟨?_, ?_, ?_, ?_, ?_, ?_, ?_, ?_, ?_, ?_, ?_, ?_, ?_, ?_, trivial⟩ ?_
  · exact D2.gv_val (fun _ _ _ h => h) (fun g w => kr)
  · exact D2.gv_val (fun _ _ _ h => h) (fun g w => kr)
  · exact D2.gv_val (fun _ _ _ h => h) (fun g w => kr)
  · exact D2.gv_val (fun _ _ _ h => h) (fun g w => kr)
  · exact D2.gv_val (fun _ _ _ h => h) (fun g w => kr)
  · exact D2.gv_load1 22 (.tmp 14) 0 (fun g => b2) (fun g => 0) (fun g => #[.int .u64 ((((List.getD x 3 0) * 65536) + (List.getD x 2 0) : Nat) : Int), .int .u64 ((((((((List.getD x 7 0) * 65536) + (List.getD x 6 0)) * 65536) + (List.getD x 5 0)) * 65536) + (List.getD x 4 0) : Nat) : Int), .int .u64 ((((((((List.getD x 11 0) * 65536) + (List.getD x 10 0)) * 65536) + (List.getD x 9 0)) * 65536) + (List.getD x 8 0) : Nat) : Int), .int .u64 ((((((((List.getD x 15 0) * 65536) + (List.getD x 14 0)) * 65536) + (List.getD x 13 0)) * 65536) + (List.getD x 12 0) : Nat) : Int)]) 24 (0, 0) (fun _ _ _ h => h) (fun g => kr) (fun g => kr) (fun L g hN => (by have hL13 : L 13 = false := (hN.post 13 kr); exact D2.ent_get' (p := true) (e := (bif L 13 then (b2, Obj.cells #[.int .u64 ((((((List.getD x 3 0) * 65536) + (List.getD x 2 0)) * 65536) + (List.getD x 1 0) : Nat) : Int), .int .u64 ((((((((List.getD x 7 0) * 65536) + (List.getD x 6 0)) * 65536) + (List.getD x 5 0)) * 65536) + (List.getD x 4 0) : Nat) : Int), .int .u64 ((((((((List.getD x 11 0) * 65536) + (List.getD x 10 0)) * 65536) + (List.getD x 9 0)) * 65536) + (List.getD x 8 0) : Nat) : Int), .int .u64 ((((((((List.getD x 15 0) * 65536) + (List.getD x 14 0)) * 65536) + (List.getD x 13 0)) * 65536) + (List.getD x 12 0) : Nat) : Int)] 24 (0, 0)) else (b2, Obj.cells #[.int .u64 ((((List.getD x 3 0) * 65536) + (List.getD x 2 0) : Nat) : Int), .int .u64 ((((((((List.getD x 7 0) * 65536) + (List.getD x 6 0)) * 65536) + (List.getD x 5 0)) * 65536) + (List.getD x 4 0) : Nat) : Int), .int .u64 ((((((((List.getD x 11 0) * 65536) + (List.getD x 10 0)) * 65536) + (List.getD x 9 0)) * 65536) + (List.getD x 8 0) : Nat) : Int), .int .u64 ((((((((List.getD x 15 0) * 65536) + (List.getD x 14 0)) * 65536) + (List.getD x 13 0)) * 65536) + (List.getD x 12 0) : Nat) : Int)] 24 (0, 0)))) kr (by rfl) (by simp only [hL13, cond_true, cond_false] <;> rfl))) kr (fun L g hN hF => kr)
  · exact D2.gv_valE (fun _ _ _ h => h) (V' := .int .u64 (IntKind.u64.wrap (((((List.getD x 3 0) * 65536) + (List.getD x 2 0) : Nat) : Int) * 65536))) (fun g w => kr) (int_eq (wrapMul_u64 (a := ((List.getD x 3 0) * 65536) + (List.getD x 2 0)) (b := 65536) (by omega)))
  · exact D2.gv_val (fun _ _ _ h => h) (fun g w => kr)
  · exact D2.gv_val (fun _ _ _ h => h) (fun g w => kr)
  · exact D2.gv_callP 63 (fun g => #[.slice (some ⟨ba, 0, none⟩) (List.length x) ca, .int .i64 1]) (fun g => fun w => w.heap[ba]? = some (.cells curA 3 (0, 0))) (fun _ _ _ h => h) (fun L g hN hF => by exact digit_fn x ba (List.length x) ca curA rfl hA (by omega) 1 (by omega)) (fun L g w hN hE hF => by exact (hE.old hpre (lt_of_heap hpre))) (fun g w => kr)
  · exact D2.gv_valE (fun _ _ _ h => h) (V' := .int .u64 (IntKind.u64.wrap (((List.getD x 1 0 : Nat) : Int)))) (fun g w => kr) (int_eq (wrapN_u64 (a := List.getD x 1 0) (by omega)))
  · exact D2.gv_valE (fun _ _ _ h => h) (V' := .int .u64 (IntKind.u64.wrap ((((((List.getD x 3 0) * 65536) + (List.getD x 2 0)) * 65536 : Nat) : Int) + ((List.getD x 1 0 : Nat) : Int)))) (fun g w => kr) (int_eq (wrapAdd_u64 (a := (((List.getD x 3 0) * 65536) + (List.getD x 2 0)) * 65536) (b := List.getD x 1 0) (by omega)))
  · exact D2.gv_val (fun _ _ _ h => h) (fun g w => kr)
  · exact D2.gv_store 0 22 (.tmp 22) (.tmp 21) (fun g => b2) (fun g => 0) #[.int .u64 ((((List.getD x 3 0) * 65536) + (List.getD x 2 0) : Nat) : Int), .int .u64 ((((((((List.getD x 7 0) * 65536) + (List.getD x 6 0)) * 65536) + (List.getD x 5 0)) * 65536) + (List.getD x 4 0) : Nat) : Int), .int .u64 ((((((((List.getD x 11 0) * 65536) + (List.getD x 10 0)) * 65536) + (List.getD x 9 0)) * 65536) + (List.getD x 8 0) : Nat) : Int), .int .u64 ((((((((List.getD x 15 0) * 65536) + (List.getD x 14 0)) * 65536) + (List.getD x 13 0)) * 65536) + (List.getD x 12 0) : Nat) : Int)] #[.int .u64 ((((((List.getD x 3 0) * 65536) + (List.getD x 2 0)) * 65536) + (List.getD x 1 0) : Nat) : Int), .int .u64 ((((((((List.getD x 7 0) * 65536) + (List.getD x 6 0)) * 65536) + (List.getD x 5 0)) * 65536) + (List.getD x 4 0) : Nat) : Int), .int .u64 ((((((((List.getD x 11 0) * 65536) + (List.getD x 10 0)) * 65536) + (List.getD x 9 0)) * 65536) + (List.getD x 8 0) : Nat) : Int), .int .u64 ((((((((List.getD x 15 0) * 65536) + (List.getD x 14 0)) * 65536) + (List.getD x 13 0)) * 65536) + (List.getD x 12 0) : Nat) : Int)] 24 (.int .u64 ((((((List.getD x 3 0) * 65536) + (List.getD x 2 0)) * 65536) + (List.getD x 1 0) : Nat) : Int)) (fun g => kr) (fun g => kr) (fun g => kr) kr kr (fun g => (of_decide_eq_true kr)) (fun g => kr) (fun L g hN => ⟨(by have hL13 : L 13 = false := hN.1; exact D2.ent_get' (p := true) (e := (bif L 13 then (b2, Obj.cells #[.int .u64 ((((((List.getD x 3 0) * 65536) + (List.getD x 2 0)) * 65536) + (List.getD x 1 0) : Nat) : Int), .int .u64 ((((((((List.getD x 7 0) * 65536) + (List.getD x 6 0)) * 65536) + (List.getD x 5 0)) * 65536) + (List.getD x 4 0) : Nat) : Int), .int .u64 ((((((((List.getD x 11 0) * 65536) + (List.getD x 10 0)) * 65536) + (List.getD x 9 0)) * 65536) + (List.getD x 8 0) : Nat) : Int), .int .u64 ((((((((List.getD x 15 0) * 65536) + (List.getD x 14 0)) * 65536) + (List.getD x 13 0)) * 65536) + (List.getD x 12 0) : Nat) : Int)] 24 (0, 0)) else (b2, Obj.cells #[.int .u64 ((((List.getD x 3 0) * 65536) + (List.getD x 2 0) : Nat) : Int), .int .u64 ((((((((List.getD x 7 0) * 65536) + (List.getD x 6 0)) * 65536) + (List.getD x 5 0)) * 65536) + (List.getD x 4 0) : Nat) : Int), .int .u64 ((((((((List.getD x 11 0) * 65536) + (List.getD x 10 0)) * 65536) + (List.getD x 9 0)) * 65536) + (List.getD x 8 0) : Nat) : Int), .int .u64 ((((((((List.getD x 15 0) * 65536) + (List.getD x 14 0)) * 65536) + (List.getD x 13 0)) * 65536) + (List.getD x 12 0) : Nat) : Int)] 24 (0, 0)))) kr (by rfl) (by simp only [hL13, cond_true, cond_false] <;> rfl)), kr⟩) (fun L g hN hF => hF)
  intro L0 G18 w18 hall HL; clear H17
  have H18 : St w.heap.size w w18 [(b2, Obj.cells #[.int .u64 ((((((List.getD x 3 0) * 65536) + (List.getD x 2 0)) * 65536) + (List.getD x 1 0) : Nat) : Int), .int .u64 ((((((((List.getD x 7 0) * 65536) + (List.getD x 6 0)) * 65536) + (List.getD x 5 0)) * 65536) + (List.getD x 4 0) : Nat) : Int), .int .u64 ((((((((List.getD x 11 0) * 65536) + (List.getD x 10 0)) * 65536) + (List.getD x 9 0)) * 65536) + (List.getD x 8 0) : Nat) : Int), .int .u64 ((((((((List.getD x 15 0) * 65536) + (List.getD x 14 0)) * 65536) + (List.getD x 13 0)) * 65536) + (List.getD x 12 0) : Nat) : Int)] 24 (0, 0)), (b1, Od Z4 24)] := by have e13 := hall 13 (Nat.le_of_ble_eq_true kr); have hS := D2.StE.st HL.1; simp only [e13, cond_true, D2.pres] at hS; exact hS
  clear HL hall
  show WP _ _ _ _ _ _
  refine g_reg0 [0, 1, 2] kr ?_
  refine s_val (some 8) (.int .i64 1) (fun w => kr) kr ?_
  refine s_val (some 9) (.int .i64 0) (fun w => kr) kr ?_
  refine s_val (some 4) (.int .i64 0) (fun w => kr) kr ?_
  refine s_nil ?_
  show WPL _ _ _ _ _ _
  refine g_next ?_
  refine g_seq kr ?_
  refine g_sreg [0, 1] kr kr ?_
  refine s_val (some 6) (.int .i64 0) (fun w => kr) kr ?_
  refine s_val (some 7) (.bool true) (fun w => kr) kr ?_
  refine s_nil ?_
  refine g_cond_t kr kr ?_
  refine g_skip kr ?_
  show WP _ _ _ _ _ _
  refine g_seq kr ?_
  refine g_block 1 kr ?_
  refine D2.g_draw0 [0, 1, 2, 3, 4, 5, 6, 7, 8, 9, 10, 11, 12, 13] [((some 10), fun _ => .int .i64 0), ((some 11), fun _ => .int .i64 0), ((some 12), fun _ => .int .i64 0), ((some 13), fun _ => .int .i64 0), ((some 14), fun _ => .pointer (some ⟨b2, 0, none⟩)), ((some 15), fun _ => .int .u64 ((((((List.getD x 3 0) * 65536) + (List.getD x 2 0)) * 65536) + (List.getD x 1 0) : Nat) : Int)), ((some 16), fun _ => .int .u64 (((((((List.getD x 3 0) * 65536) + (List.getD x 2 0)) * 65536) + (List.getD x 1 0)) * 65536 : Nat) : Int)), ((some 17), fun _ => .slice (some ⟨ba, 0, none⟩) (List.length x) ca), ((some 18), fun _ => .int .i64 0), ((some 19), fun _ => .int .i64 ((List.getD x 0 0 : Nat) : Int)), ((some 20), fun _ => .int .u64 ((List.getD x 0 0 : Nat) : Int)), ((some 21), fun _ => .int .u64 ((((((((List.getD x 3 0) * 65536) + (List.getD x 2 0)) * 65536) + (List.getD x 1 0)) * 65536) + (List.getD x 0 0) : Nat) : Int)), ((some 22), fun _ => .pointer (some ⟨b2, 0, none⟩)), (none, fun _ => undef)] (D2.Pre w.heap.size w (fun L g => [(true, (bif L 13 then (b2, Obj.cells #[.int .u64 ((((((((List.getD x 3 0) * 65536) + (List.getD x 2 0)) * 65536) + (List.getD x 1 0)) * 65536) + (List.getD x 0 0) : Nat) : Int), .int .u64 ((((((((List.getD x 7 0) * 65536) + (List.getD x 6 0)) * 65536) + (List.getD x 5 0)) * 65536) + (List.getD x 4 0) : Nat) : Int), .int .u64 ((((((((List.getD x 11 0) * 65536) + (List.getD x 10 0)) * 65536) + (List.getD x 9 0)) * 65536) + (List.getD x 8 0) : Nat) : Int), .int .u64 ((((((((List.getD x 15 0) * 65536) + (List.getD x 14 0)) * 65536) + (List.getD x 13 0)) * 65536) + (List.getD x 12 0) : Nat) : Int)] 24 (0, 0)) else (b2, Obj.cells #[.int .u64 ((((((List.getD x 3 0) * 65536) + (List.getD x 2 0)) * 65536) + (List.getD x 1 0) : Nat) : Int), .int .u64 ((((((((List.getD x 7 0) * 65536) + (List.getD x 6 0)) * 65536) + (List.getD x 5 0)) * 65536) + (List.getD x 4 0) : Nat) : Int), .int .u64 ((((((((List.getD x 11 0) * 65536) + (List.getD x 10 0)) * 65536) + (List.getD x 9 0)) * 65536) + (List.getD x 8 0) : Nat) : Int), .int .u64 ((((((((List.getD x 15 0) * 65536) + (List.getD x 14 0)) * 65536) + (List.getD x 13 0)) * 65536) + (List.getD x 12 0) : Nat) : Int)] 24 (0, 0)))), (true, (b1, Od Z4 24))]) (fun L g => True)) kr kr kr ⟨D2.StE.of H18.drew _ kr, trivial⟩ ⟨?_, ?_, ?_, ?_, ?_, ?_, ?_, ?_, ?_, ?_, ?_, ?_, ?_, ?_, trivial⟩ ?_
  · exact D2.gv_val (fun _ _ _ h => h) (fun g w => kr)
  · exact D2.gv_val (fun _ _ _ h => h) (fun g w => kr)
  · exact D2.gv_val (fun _ _ _ h => h) (fun g w => kr)
  · exact D2.gv_val (fun _ _ _ h => h) (fun g w => kr)
  · exact D2.gv_val (fun _ _ _ h => h) (fun g w => kr)
  · exact D2.gv_load1 22 (.tmp 14) 0 (fun g => b2) (fun g => 0) (fun g => #[.int .u64 ((((((List.getD x 3 0) * 65536) + (List.getD x 2 0)) * 65536) + (List.getD x 1 0) : Nat) : Int), .int .u64 ((((((((List.getD x 7 0) * 65536) + (List.getD x 6 0)) * 65536) + (List.getD x 5 0)) * 65536) + (List.getD x 4 0) : Nat) : Int), .int .u64 ((((((((List.getD x 11 0) * 65536) + (List.getD x 10 0)) * 65536) + (List.getD x 9 0)) * 65536) + (List.getD x 8 0) : Nat) : Int), .int .u64 ((((((((List.getD x 15 0) * 65536) + (List.getD x 14 0)) * 65536) + (List.getD x 13 0)) * 65536) + (List.getD x 12 0) : Nat) : Int)]) 24 (0, 0) (fun _ _ _ h => h) (fun g => kr) (fun g => kr) (fun L g hN => (by have hL13 : L 13 = false := (hN.post 13 kr); exact D2.ent_get' (p := true) (e := (bif L 13 then (b2, Obj.cells #[.int .u64 ((((((((List.getD x 3 0) * 65536) + (List.getD x 2 0)) * 65536) + (List.getD x 1 0)) * 65536) + (List.getD x 0 0) : Nat) : Int), .int .u64 ((((((((List.getD x 7 0) * 65536) + (List.getD x 6 0)) * 65536) + (List.getD x 5 0)) * 65536) + (List.getD x 4 0) : Nat) : Int), .int .u64 ((((((((List.getD x 11 0) * 65536) + (List.getD x 10 0)) * 65536) + (List.getD x 9 0)) * 65536) + (List.getD x 8 0) : Nat) : Int), .int .u64 ((((((((List.getD x 15 0) * 65536) + (List.getD x 14 0)) * 65536) + (List.getD x 13 0)) * 65536) + (List.getD x 12 0) : Nat) : Int)] 24 (0, 0)) else (b2, Obj.cells #[.int .u64 ((((((List.getD x 3 0) * 65536) + (List.getD x 2 0)) * 65536) + (List.getD x 1 0) : Nat) : Int), .int .u64 ((((((((List.getD x 7 0) * 65536) + (List.getD x 6 0)) * 65536) + (List.getD x 5 0)) * 65536) + (List.getD x 4 0) : Nat) : Int), .int .u64 ((((((((List.getD x 11 0) * 65536) + (List.getD x 10 0)) * 65536) + (List.getD x 9 0)) * 65536) + (List.getD x 8 0) : Nat) : Int), .int .u64 ((((((((List.getD x 15 0) * 65536) + (List.getD x 14 0)) * 65536) + (List.getD x 13 0)) * 65536) + (List.getD x 12 0) : Nat) : Int)] 24 (0, 0)))) kr (by rfl) (by simp only [hL13, cond_true, cond_false] <;> rfl))) kr (fun L g hN hF => kr)
  · exact D2.gv_valE (fun _ _ _ h => h) (V' := .int .u64 (IntKind.u64.wrap (((((((List.getD x 3 0) * 65536) + (List.getD x 2 0)) * 65536) + (List.getD x 1 0) : Nat) : Int) * 65536))) (fun g w => kr) (int_eq (wrapMul_u64 (a := ((((List.getD x 3 0) * 65536) + (List.getD x 2 0)) * 65536) + (List.getD x 1 0)) (b := 65536) (by omega)))
  · exact D2.gv_val (fun _ _ _ h => h) (fun g w => kr)
  · exact D2.gv_val (fun _ _ _ h => h) (fun g w => kr)
  · exact D2.gv_callP 63 (fun g => #[.slice (some ⟨ba, 0, none⟩) (List.length x) ca, .int .i64 0]) (fun g => fun w => w.heap[ba]? = some (.cells curA 3 (0, 0))) (fun _ _ _ h => h) (fun L g hN hF => by exact digit_fn x ba (List.length x) ca curA rfl hA (by omega) 0 (by omega)) (fun L g w hN hE hF => by exact (hE.old hpre (lt_of_heap hpre))) (fun g w => kr)
  · exact D2.gv_valE (fun _ _ _ h => h) (V' := .int .u64 (IntKind.u64.wrap (((List.getD x 0 0 : Nat) : Int)))) (fun g w => kr) (int_eq (wrapN_u64 (a := List.getD x 0 0) (by omega)))
  · exact D2.gv_valE (fun _ _ _ h => h) (V' := .int .u64 (IntKind.u64.wrap ((((((((List.getD x 3 0) * 65536) + (List.getD x 2 0)) * 65536) + (List.getD x 1 0)) * 65536 : Nat) : Int) + ((List.getD x 0 0 : Nat) : Int)))) (fun g w => kr) (int_eq (wrapAdd_u64 (a := (((((List.getD x 3 0) * 65536) + (List.getD x 2 0)) * 65536) + (List.getD x 1 0)) * 65536) (b := List.getD x 0 0) (by omega)))
  · exact D2.gv_val (fun _ _ _ h => h) (fun g w => kr)
  · exact D2.gv_store 0 22 (.tmp 22) (.tmp 21) (fun g => b2) (fun g => 0) #[.int .u64 ((((((List.getD x 3 0) * 65536) + (List.getD x 2 0)) * 65536) + (List.getD x 1 0) : Nat) : Int), .int .u64 ((((((((List.getD x 7 0) * 65536) + (List.getD x 6 0)) * 65536) + (List.getD x 5 0)) * 65536) + (List.getD x 4 0) : Nat) : Int), .int .u64 ((((((((List.getD x 11 0) * 65536) + (List.getD x 10 0)) * 65536) + (List.getD x 9 0)) * 65536) + (List.getD x 8 0) : Nat) : Int), .int .u64 ((((((((List.getD x 15 0) * 65536) + (List.getD x 14 0)) * 65536) + (List.getD x 13 0)) * 65536) + (List.getD x 12 0) : Nat) : Int)] #[.int .u64 ((((((((List.getD x 3 0) * 65536) + (List.getD x 2 0)) * 65536) + (List.getD x 1 0)) * 65536) + (List.getD x 0 0) : Nat) : Int), .int .u64 ((((((((List.getD x 7 0) * 65536) + (List.getD x 6 0)) * 65536) + (List.getD x 5 0)) * 65536) + (List.getD x 4 0) : Nat) : Int), .int .u64 ((((((((List.getD x 11 0) * 65536) + (List.getD x 10 0)) * 65536) + (List.getD x 9 0)) * 65536) + (List.getD x 8 0) : Nat) : Int), .int .u64 ((((((((List.getD x 15 0) * 65536) + (List.getD x 14 0)) * 65536) + (List.getD x 13 0)) * 65536) + (List.getD x 12 0) : Nat) : Int)] 24 (.int .u64 ((((((((List.getD x 3 0) * 65536) + (List.getD x 2 0)) * 65536) + (List.getD x 1 0)) * 65536) + (List.getD x 0 0) : Nat) : Int)) (fun g => kr) (fun g => kr) (fun g => kr) kr kr (fun g => (of_decide_eq_true kr)) (fun g => kr) (fun L g hN => ⟨(by have hL13 : L 13 = false := hN.1; exact D2.ent_get' (p := true) (e := (bif L 13 then (b2, Obj.cells #[.int .u64 ((((((((List.getD x 3 0) * 65536) + (List.getD x 2 0)) * 65536) + (List.getD x 1 0)) * 65536) + (List.getD x 0 0) : Nat) : Int), .int .u64 ((((((((List.getD x 7 0) * 65536) + (List.getD x 6 0)) * 65536) + (List.getD x 5 0)) * 65536) + (List.getD x 4 0) : Nat) : Int), .int .u64 ((((((((List.getD x 11 0) * 65536) + (List.getD x 10 0)) * 65536) + (List.getD x 9 0)) * 65536) + (List.getD x 8 0) : Nat) : Int), .int .u64 ((((((((List.getD x 15 0) * 65536) + (List.getD x 14 0)) * 65536) + (List.getD x 13 0)) * 65536) + (List.getD x 12 0) : Nat) : Int)] 24 (0, 0)) else (b2, Obj.cells #[.int .u64 ((((((List.getD x 3 0) * 65536) + (List.getD x 2 0)) * 65536) + (List.getD x 1 0) : Nat) : Int), .int .u64 ((((((((List.getD x 7 0) * 65536) + (List.getD x 6 0)) * 65536) + (List.getD x 5 0)) * 65536) + (List.getD x 4 0) : Nat) : Int), .int .u64 ((((((((List.getD x 11 0) * 65536) + (List.getD x 10 0)) * 65536) + (List.getD x 9 0)) * 65536) + (List.getD x 8 0) : Nat) : Int), .int .u64 ((((((((List.getD x 15 0) * 65536) + (List.getD x 14 0)) * 65536) + (List.getD x 13 0)) * 65536) + (List.getD x 12 0) : Nat) : Int)] 24 (0, 0)))) kr (by rfl) (by simp only [hL13, cond_true, cond_false] <;> rfl)), kr⟩) (fun L g hN hF => hF)
  intro L0 G19 w19 hall HL; clear H18
  have H19 : St w.heap.size w w19 [(b2, Obj.cells #[.int .u64 ((((((((List.getD x 3 0) * 65536) + (List.getD x 2 0)) * 65536) + (List.getD x 1 0)) * 65536) + (List.getD x 0 0) : Nat) : Int), .int .u64 ((((((((List.getD x 7 0) * 65536) + (List.getD x 6 0)) * 65536) + (List.getD x 5 0)) * 65536) + (List.getD x 4 0) : Nat) : Int), .int .u64 ((((((((List.getD x 11 0) * 65536) + (List.getD x 10 0)) * 65536) + (List.getD x 9 0)) * 65536) + (List.getD x 8 0) : Nat) : Int), .int .u64 ((((((((List.getD x 15 0) * 65536) + (List.getD x 14 0)) * 65536) + (List.getD x 13 0)) * 65536) + (List.getD x 12 0) : Nat) : Int)] 24 (0, 0)), (b1, Od Z4 24)] := by have e13 := hall 13 (Nat.le_of_ble_eq_true kr); have hS := D2.StE.st HL.1; simp only [e13, cond_true, D2.pres] at hS; exact hS
  clear HL hall
  show WP _ _ _ _ _ _
  refine g_reg0 [0, 1, 2] kr ?_
  refine s_val (some 8) (.int .i64 0) (fun w => kr) kr ?_
  refine s_val (some 9) (.int .i64 (-1)) (fun w => kr) kr ?_
  refine s_val (some 4) (.int .i64 (-1)) (fun w => kr) kr ?_
  refine s_nil ?_
  show WPL _ _ _ _ _ _
  refine g_next ?_
  refine g_seq kr ?_
  refine g_sreg [0, 1] kr kr ?_
  refine s_val (some 6) (.int .i64 (-1)) (fun w => kr) kr ?_
  refine s_val (some 7) (.bool false) (fun w => kr) kr ?_
  refine s_nil ?_
  refine g_cond_f kr kr ?_
  refine g_exit 0 kr ?_
  show WP _ _ _ _ _ _
  refine g_sreg [0, 1] kr kr ?_
  refine s_load H19 (some 23) 24 (.tmp 3) 0 b2 #[.int .u64 ((((((((List.getD x 3 0) * 65536) + (List.getD x 2 0)) * 65536) + (List.getD x 1 0)) * 65536) + (List.getD x 0 0) : Nat) : Int), .int .u64 ((((((((List.getD x 7 0) * 65536) + (List.getD x 6 0)) * 65536) + (List.getD x 5 0)) * 65536) + (List.getD x 4 0) : Nat) : Int), .int .u64 ((((((((List.getD x 11 0) * 65536) + (List.getD x 10 0)) * 65536) + (List.getD x 9 0)) * 65536) + (List.getD x 8 0) : Nat) : Int), .int .u64 ((((((((List.getD x 15 0) * 65536) + (List.getD x 14 0)) * 65536) + (List.getD x 13 0)) * 65536) + (List.getD x 12 0) : Nat) : Int)] 24 (0, 0) kr kr kr kr kr ?_
  refine s_store H19 1 [(b2, Obj.cells #[.int .u64 ((((((((List.getD x 3 0) * 65536) + (List.getD x 2 0)) * 65536) + (List.getD x 1 0)) * 65536) + (List.getD x 0 0) : Nat) : Int), .int .u64 ((((((((List.getD x 7 0) * 65536) + (List.getD x 6 0)) * 65536) + (List.getD x 5 0)) * 65536) + (List.getD x 4 0) : Nat) : Int), .int .u64 ((((((((List.getD x 11 0) * 65536) + (List.getD x 10 0)) * 65536) + (List.getD x 9 0)) * 65536) + (List.getD x 8 0) : Nat) : Int), .int .u64 ((((((((List.getD x 15 0) * 65536) + (List.getD x 14 0)) * 65536) + (List.getD x 13 0)) * 65536) + (List.getD x 12 0) : Nat) : Int)] 24 (0, 0)), (b1, Obj.cells #[.int .u64 ((((((((List.getD x 3 0) * 65536) + (List.getD x 2 0)) * 65536) + (List.getD x 1 0)) * 65536) + (List.getD x 0 0) : Nat) : Int), .int .u64 ((((((((List.getD x 7 0) * 65536) + (List.getD x 6 0)) * 65536) + (List.getD x 5 0)) * 65536) + (List.getD x 4 0) : Nat) : Int), .int .u64 ((((((((List.getD x 11 0) * 65536) + (List.getD x 10 0)) * 65536) + (List.getD x 9 0)) * 65536) + (List.getD x 8 0) : Nat) : Int), .int .u64 ((((((((List.getD x 15 0) * 65536) + (List.getD x 14 0)) * 65536) + (List.getD x 13 0)) * 65536) + (List.getD x 12 0) : Nat) : Int)] 24 (0, 0))] 24 (.tmp 2) (.tmp 23) b1 (0) Z4 #[.int .u64 ((((((((List.getD x 3 0) * 65536) + (List.getD x 2 0)) * 65536) + (List.getD x 1 0)) * 65536) + (List.getD x 0 0) : Nat) : Int), .int .u64 ((((((((List.getD x 7 0) * 65536) + (List.getD x 6 0)) * 65536) + (List.getD x 5 0)) * 65536) + (List.getD x 4 0) : Nat) : Int), .int .u64 ((((((((List.getD x 11 0) * 65536) + (List.getD x 10 0)) * 65536) + (List.getD x 9 0)) * 65536) + (List.getD x 8 0) : Nat) : Int), .int .u64 ((((((((List.getD x 15 0) * 65536) + (List.getD x 14 0)) * 65536) + (List.getD x 13 0)) * 65536) + (List.getD x 12 0) : Nat) : Int)] 24 (.agg #[.int .u64 ((((((((List.getD x 3 0) * 65536) + (List.getD x 2 0)) * 65536) + (List.getD x 1 0)) * 65536) + (List.getD x 0 0) : Nat) : Int), .int .u64 ((((((((List.getD x 7 0) * 65536) + (List.getD x 6 0)) * 65536) + (List.getD x 5 0)) * 65536) + (List.getD x 4 0) : Nat) : Int), .int .u64 ((((((((List.getD x 11 0) * 65536) + (List.getD x 10 0)) * 65536) + (List.getD x 9 0)) * 65536) + (List.getD x 8 0) : Nat) : Int), .int .u64 ((((((((List.getD x 15 0) * 65536) + (List.getD x 14 0)) * 65536) + (List.getD x 13 0)) * 65536) + (List.getD x 12 0) : Nat) : Int)]) kr kr kr kr kr kr (of_decide_eq_true kr) kr kr ?_
  intro w20 H20; clear H19
  refine s_nil ?_
  refine g_ret kr ?_
  show ∃ vs, Res _ _ _ _ vs ∧ _
  refine ⟨[.agg #[.int .u64 ((((((((List.getD x 3 0) * 65536) + (List.getD x 2 0)) * 65536) + (List.getD x 1 0)) * 65536) + (List.getD x 0 0) : Nat) : Int), .int .u64 ((((((((List.getD x 7 0) * 65536) + (List.getD x 6 0)) * 65536) + (List.getD x 5 0)) * 65536) + (List.getD x 4 0) : Nat) : Int), .int .u64 ((((((((List.getD x 11 0) * 65536) + (List.getD x 10 0)) * 65536) + (List.getD x 9 0)) * 65536) + (List.getD x 8 0) : Nat) : Int), .int .u64 ((((((((List.getD x 15 0) * 65536) + (List.getD x 14 0)) * 65536) + (List.getD x 13 0)) * 65536) + (List.getD x 12 0) : Nat) : Int)]], (.agg (b := b1) #[.int .u64 ((((((((List.getD x 3 0) * 65536) + (List.getD x 2 0)) * 65536) + (List.getD x 1 0)) * 65536) + (List.getD x 0 0) : Nat) : Int), .int .u64 ((((((((List.getD x 7 0) * 65536) + (List.getD x 6 0)) * 65536) + (List.getD x 5 0)) * 65536) + (List.getD x 4 0) : Nat) : Int), .int .u64 ((((((((List.getD x 11 0) * 65536) + (List.getD x 10 0)) * 65536) + (List.getD x 9 0)) * 65536) + (List.getD x 8 0) : Nat) : Int), .int .u64 ((((((((List.getD x 15 0) * 65536) + (List.getD x 14 0)) * 65536) + (List.getD x 13 0)) * 65536) + (List.getD x 12 0) : Nat) : Int)] 24 (0, 0) kr (H20.get 1 kr) kr .nil), ?_, H20.below⟩
  have e := uv_digits hx (fun i => List.getD x i 0) (fun _ => rfl)
  exact e
end Go.Proofs.Ytljhbhhpfkmemaa
