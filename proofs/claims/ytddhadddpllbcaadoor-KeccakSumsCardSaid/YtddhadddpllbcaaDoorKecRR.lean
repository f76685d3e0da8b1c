/-
  The reference: a round.
-/
import Derived.Test.YtddhadddpllbcaaDoorProg
import Derived.Test.YtddhadddpllbcaaDoorStr
import Derived.Test.YtddhadddpllbcaaDoorKecM
import Derived.Test.YtddhadddpllbcaaDoorKecR2
namespace Go.Proofs.YtddhadddpllbcaaDoor
open Go Go.RowKit Go.Proofs.Kec
set_option linter.unusedVariables false
set_option maxRecDepth 100000 in
set_option maxHeartbeats 2000000 in
theorem roundR_fn (s : List (BitVec 64)) (i : Nat) (hi : i < 24) : Fn Tryd.prog 15 #[svn s, .int .i64 ((i : Nat) : Int)] (svn (rm s (lastB i 7))) := by
  refine Fn.intro (c := codeOf Tryd.f15) [.cell 4 26] 117 Tryd.func15 (by kernel_rfl) (by kernel_rfl) (by kernel_rfl) fun w => ?_
  have H0 := St.start w
  refine g_sreg [0, 1] (by kernel_rfl) (by kernel_rfl) ?_
  refine s_box H0 (some 2) 26 (.tmp 0) (svn s) (by kernel_rfl) (by kernel_rfl) (by kernel_rfl) ?_
  intro b1 w1 H1; clear H0
  refine s_alloc H1 (some 4) 26 (.agg Z25) (by kernel_rfl) (by kernel_rfl) (by kernel_rfl) ?_
  intro b2 w2 H2; clear H1
  refine s_nil ?_
  refine g_sreg [0, 1, 2] (by kernel_rfl) (by kernel_rfl) ?_
  refine s_val (some 16) (.agg #[.int .u64 0, .int .u64 0, .int .u64 0, .int .u64 0, .int .u64 0]) (fun w => by kernel_rfl) (by kernel_rfl) ?_
  refine s_alloc H2 (some 5) 44 (.agg #[.int .u64 0, .int .u64 0, .int .u64 0, .int .u64 0, .int .u64 0]) (by kernel_rfl) (by kernel_rfl) (by kernel_rfl) ?_
  intro b3 w3 H3; clear H2
  refine s_store H3 0 [(b3, Obj.cells #[.int .u64 0, .int .u64 0, .int .u64 0, .int .u64 0, .int .u64 0] 44 (0, 0)), (b2, Obj.cells Z25 26 (0, 0)), (b1, Obj.cells (Value.cells (svn s)) 26 (0, 0))] 44 (.tmp 5) (.tmp 16) b3 (0) #[.int .u64 0, .int .u64 0, .int .u64 0, .int .u64 0, .int .u64 0] #[.int .u64 0, .int .u64 0, .int .u64 0, .int .u64 0, .int .u64 0] 44 (.agg #[.int .u64 0, .int .u64 0, .int .u64 0, .int .u64 0, .int .u64 0]) (by kernel_rfl) (by kernel_rfl) (by kernel_rfl) (by kernel_rfl) (by kernel_rfl) (by kernel_rfl) (of_decide_eq_true (by kernel_rfl)) (by kernel_rfl) (by kernel_rfl) ?_
  intro w4 H4; clear H3
  refine s_nil ?_
  refine g_seq (by kernel_rfl) ?_
  refine g_sreg [0] (by kernel_rfl) (by kernel_rfl) ?_
  refine s_val (some 6) (.int .i64 0) (fun w => by kernel_rfl) (by kernel_rfl) ?_
  refine s_nil ?_
  refine g_block 0 (by kernel_rfl) ?_
  refine g_first (by kernel_rfl) ?_
  refine g_seq (by kernel_rfl) ?_
  refine g_sreg [0, 1] (by kernel_rfl) (by kernel_rfl) ?_
  refine s_val (some 17) (.int .i64 0) (fun w => by kernel_rfl) (by kernel_rfl) ?_
  refine s_val (some 18) (.bool true) (fun w => by kernel_rfl) (by kernel_rfl) ?_
  refine s_nil ?_
  refine g_cond_t (by kernel_rfl) (by kernel_rfl) ?_
  refine g_skip (by kernel_rfl) ?_
  show WP _ _ _ _ _ _
  refine g_seq (by kernel_rfl) ?_
  refine g_block 1 (by kernel_rfl) ?_
  refine g_sreg [0] (by kernel_rfl) (by kernel_rfl) ?_
  refine s_val (some 7) (.int .i64 0) (fun w => by kernel_rfl) (by kernel_rfl) ?_
  refine s_nil ?_
  refine g_block 2 (by kernel_rfl) ?_
  refine g_first (by kernel_rfl) ?_
  refine g_seq (by kernel_rfl) ?_
  refine g_sreg [0, 1] (by kernel_rfl) (by kernel_rfl) ?_
  refine s_val (some 21) (.int .i64 0) (fun w => by kernel_rfl) (by kernel_rfl) ?_
  refine s_val (some 22) (.bool true) (fun w => by kernel_rfl) (by kernel_rfl) ?_
  refine s_nil ?_
  refine g_cond_t (by kernel_rfl) (by kernel_rfl) ?_
  refine g_skip (by kernel_rfl) ?_
  show WP _ _ _ _ _ _
  refine g_seq (by kernel_rfl) ?_
  refine g_block 3 (by kernel_rfl) ?_
  refine D2.g_draw0 [0, 1, 2, 3, 4, 5, 6, 7, 8, 9, 10, 11] [((some 25), fun _ => .int .i64 0), ((some 26), fun _ => .int .i64 0), ((some 27), fun _ => .pointer (some ⟨b3, 0, none⟩)), ((some 28), fun _ => .int .u64 0), ((some 29), fun _ => .int .i64 0), ((some 30), fun _ => .int .i64 0), ((some 31), fun _ => .int .i64 0), ((some 32), fun _ => .pointer (some ⟨b1, 0, none⟩)), ((some 33), fun _ => wv (nth s 0)), ((some 34), fun _ => wv (nth s 0)), ((some 35), fun _ => .pointer (some ⟨b3, 0, none⟩)), (none, fun _ => undef)] (D2.Pre w.heap.size w (fun L g => [(true, (bif L 11 then (b3, Obj.cells (Value.cells (cS0 s)) 44 (0, 0)) else (b3, Obj.cells #[.int .u64 0, .int .u64 0, .int .u64 0, .int .u64 0, .int .u64 0] 44 (0, 0)))), (true, (b2, Obj.cells Z25 26 (0, 0))), (true, (b1, Obj.cells (Value.cells (svn s)) 26 (0, 0)))]) (fun L g => True)) (by kernel_rfl) (by kernel_rfl) (by kernel_rfl) ⟨D2.StE.of H4.drew _ (by kernel_rfl), trivial⟩ ⟨?_, ?_, ?_, ?_, ?_, ?_, ?_, ?_, ?_, ?_, ?_, ?_, trivial⟩ ?_
  · exact D2.gv_val (fun _ _ _ h => h) (fun g w => by kernel_rfl)
  · exact D2.gv_val (fun _ _ _ h => h) (fun g w => by kernel_rfl)
  · exact D2.gv_val (fun _ _ _ h => h) (fun g w => by kernel_rfl)
  · exact D2.gv_load1 25 (.tmp 27) 0 (fun g => b3) (fun g => 0) (fun g => #[.int .u64 0, .int .u64 0, .int .u64 0, .int .u64 0, .int .u64 0]) 44 (0, 0) (fun _ _ _ h => h) (fun g => by kernel_rfl) (fun g => by kernel_rfl) (fun L g hN => (by have hL11 : L 11 = false := (hN.post 11 (by kernel_rfl)); exact D2.ent_get' (p := true) (e := (bif L 11 then (b3, Obj.cells (Value.cells (cS0 s)) 44 (0, 0)) else (b3, Obj.cells #[.int .u64 0, .int .u64 0, .int .u64 0, .int .u64 0, .int .u64 0] 44 (0, 0)))) (by kernel_rfl) (by rfl) (by simp only [hL11, cond_true, cond_false] <;> rfl))) (by kernel_rfl) (fun L g hN hF => by kernel_rfl)
  · exact D2.gv_val (fun _ _ _ h => h) (fun g w => by kernel_rfl)
  · exact D2.gv_val (fun _ _ _ h => h) (fun g w => by kernel_rfl)
  · exact D2.gv_call 21 #[.int .i64 0, .int .i64 0] (fun _ _ _ h => h) (at_fn 0 0 (by omega) (by omega)) (fun g w => by kernel_rfl)
  · exact D2.gv_val (fun _ _ _ h => h) (fun g w => by kernel_rfl)
  · exact D2.gv_load1 25 (.tmp 32) 2 (fun g => b1) (fun g => 0) (fun g => (Value.cells (svn s))) 26 (0, 0) (fun _ _ _ h => h) (fun g => by kernel_rfl) (fun g => by kernel_rfl) (fun L g hN => (by kernel_rfl)) (by kernel_rfl) (fun L g hN hF => by kernel_rfl)
  · exact D2.gv_valE (fun _ _ _ h => h) (V' := .int .u64 (Go.bits .xor .u64 (0) (((BitVec.toNat (nth s 0) : Nat) : Int)))) (fun g w => by kernel_rfl) ((bv_xor_u64 (0 : BitVec 64) (nth s 0)).trans (bv_congr (zero_x (nth s 0))))
  · exact D2.gv_val (fun _ _ _ h => h) (fun g w => by kernel_rfl)
  · exact D2.gv_store 0 25 (.tmp 35) (.tmp 34) (fun g => b3) (fun g => 0) #[.int .u64 0, .int .u64 0, .int .u64 0, .int .u64 0, .int .u64 0] (Value.cells (cS0 s)) 44 (wv (nth s 0)) (fun g => by kernel_rfl) (fun g => by kernel_rfl) (fun g => by kernel_rfl) (by kernel_rfl) (by kernel_rfl) (fun g => (of_decide_eq_true (by kernel_rfl))) (fun g => (by kernel_rfl)) (fun L g hN => ⟨(by have hL11 : L 11 = false := hN.1; exact D2.ent_get' (p := true) (e := (bif L 11 then (b3, Obj.cells (Value.cells (cS0 s)) 44 (0, 0)) else (b3, Obj.cells #[.int .u64 0, .int .u64 0, .int .u64 0, .int .u64 0, .int .u64 0] 44 (0, 0)))) (by kernel_rfl) (by rfl) (by simp only [hL11, cond_true, cond_false] <;> rfl)), (by kernel_rfl)⟩) (fun L g hN hF => hF)
  intro L0 G5 w5 hall HL; clear H4
  have H5 : St w.heap.size w w5 [(b3, Obj.cells (Value.cells (cS0 s)) 44 (0, 0)), (b2, Obj.cells Z25 26 (0, 0)), (b1, Obj.cells (Value.cells (svn s)) 26 (0, 0))] := by have e11 := hall 11 (Nat.le_of_ble_eq_true (by kernel_rfl)); have hS := D2.StE.st HL.1; simp only [e11, cond_true, D2.pres] at hS; exact hS
  clear HL hall
  show WP _ _ _ _ _ _
  refine g_reg0 [0, 1, 2] (by kernel_rfl) ?_
  refine s_val (some 23) (.int .i64 0) (fun w => by kernel_rfl) (by kernel_rfl) ?_
  refine s_val (some 24) (.int .i64 1) (fun w => by kernel_rfl) (by kernel_rfl) ?_
  refine s_val (some 7) (.int .i64 1) (fun w => by kernel_rfl) (by kernel_rfl) ?_
  refine s_nil ?_
  show WPL _ _ _ _ _ _
  refine g_next ?_
  refine g_seq (by kernel_rfl) ?_
  refine g_sreg [0, 1] (by kernel_rfl) (by kernel_rfl) ?_
  refine s_val (some 21) (.int .i64 1) (fun w => by kernel_rfl) (by kernel_rfl) ?_
  refine s_val (some 22) (.bool true) (fun w => by kernel_rfl) (by kernel_rfl) ?_
  refine s_nil ?_
  refine g_cond_t (by kernel_rfl) (by kernel_rfl) ?_
  refine g_skip (by kernel_rfl) ?_
  show WP _ _ _ _ _ _
  refine g_seq (by kernel_rfl) ?_
  refine g_block 3 (by kernel_rfl) ?_
  refine D2.g_draw0 [0, 1, 2, 3, 4, 5, 6, 7, 8, 9, 10, 11] [((some 25), fun _ => .int .i64 0), ((some 26), fun _ => .int .i64 0), ((some 27), fun _ => .pointer (some ⟨b3, 0, none⟩)), ((some 28), fun _ => wv (nth s 0)), ((some 29), fun _ => .int .i64 0), ((some 30), fun _ => .int .i64 1), ((some 31), fun _ => .int .i64 5), ((some 32), fun _ => .pointer (some ⟨b1, 5, none⟩)), ((some 33), fun _ => wv (nth s 5)), ((some 34), fun _ => wv ((nth s 0) ^^^ (nth s 5))), ((some 35), fun _ => .pointer (some ⟨b3, 0, none⟩)), (none, fun _ => undef)] (D2.Pre w.heap.size w (fun L g => [(true, (bif L 11 then (b3, Obj.cells (Value.cells (cS1 s)) 44 (0, 0)) else (b3, Obj.cells (Value.cells (cS0 s)) 44 (0, 0)))), (true, (b2, Obj.cells Z25 26 (0, 0))), (true, (b1, Obj.cells (Value.cells (svn s)) 26 (0, 0)))]) (fun L g => True)) (by kernel_rfl) (by kernel_rfl) (by kernel_rfl) ⟨D2.StE.of H5.drew _ (by kernel_rfl), trivial⟩ ⟨?_, ?_, ?_, ?_, ?_, ?_, ?_, ?_, ?_, ?_, ?_, ?_, trivial⟩ ?_
  · exact D2.gv_val (fun _ _ _ h => h) (fun g w => by kernel_rfl)
  · exact D2.gv_val (fun _ _ _ h => h) (fun g w => by kernel_rfl)
  · exact D2.gv_val (fun _ _ _ h => h) (fun g w => by kernel_rfl)
  · exact D2.gv_load1 25 (.tmp 27) 0 (fun g => b3) (fun g => 0) (fun g => (Value.cells (cS0 s))) 44 (0, 0) (fun _ _ _ h => h) (fun g => by kernel_rfl) (fun g => by kernel_rfl) (fun L g hN => (by have hL11 : L 11 = false := (hN.post 11 (by kernel_rfl)); exact D2.ent_get' (p := true) (e := (bif L 11 then (b3, Obj.cells (Value.cells (cS1 s)) 44 (0, 0)) else (b3, Obj.cells (Value.cells (cS0 s)) 44 (0, 0)))) (by kernel_rfl) (by rfl) (by simp only [hL11, cond_true, cond_false] <;> rfl))) (by kernel_rfl) (fun L g hN hF => by kernel_rfl)
  · exact D2.gv_val (fun _ _ _ h => h) (fun g w => by kernel_rfl)
  · exact D2.gv_val (fun _ _ _ h => h) (fun g w => by kernel_rfl)
  · exact D2.gv_call 21 #[.int .i64 0, .int .i64 1] (fun _ _ _ h => h) (at_fn 0 1 (by omega) (by omega)) (fun g w => by kernel_rfl)
  · exact D2.gv_val (fun _ _ _ h => h) (fun g w => by kernel_rfl)
  · exact D2.gv_load1 25 (.tmp 32) 2 (fun g => b1) (fun g => 5) (fun g => (Value.cells (svn s))) 26 (0, 0) (fun _ _ _ h => h) (fun g => by kernel_rfl) (fun g => by kernel_rfl) (fun L g hN => (by kernel_rfl)) (by kernel_rfl) (fun L g hN hF => by kernel_rfl)
  · exact D2.gv_valE (fun _ _ _ h => h) (V' := .int .u64 (Go.bits .xor .u64 (((BitVec.toNat (nth s 0) : Nat) : Int)) (((BitVec.toNat (nth s 5) : Nat) : Int)))) (fun g w => by kernel_rfl) (bv_xor_u64 (nth s 0) (nth s 5))
  · exact D2.gv_val (fun _ _ _ h => h) (fun g w => by kernel_rfl)
  · exact D2.gv_store 0 25 (.tmp 35) (.tmp 34) (fun g => b3) (fun g => 0) (Value.cells (cS0 s)) (Value.cells (cS1 s)) 44 (wv ((nth s 0) ^^^ (nth s 5))) (fun g => by kernel_rfl) (fun g => by kernel_rfl) (fun g => by kernel_rfl) (by kernel_rfl) (by kernel_rfl) (fun g => (of_decide_eq_true (by kernel_rfl))) (fun g => (by kernel_rfl)) (fun L g hN => ⟨(by have hL11 : L 11 = false := hN.1; exact D2.ent_get' (p := true) (e := (bif L 11 then (b3, Obj.cells (Value.cells (cS1 s)) 44 (0, 0)) else (b3, Obj.cells (Value.cells (cS0 s)) 44 (0, 0)))) (by kernel_rfl) (by rfl) (by simp only [hL11, cond_true, cond_false] <;> rfl)), (by kernel_rfl)⟩) (fun L g hN hF => hF)
  intro L0 G6 w6 hall HL; clear H5
  have H6 : St w.heap.size w w6 [(b3, Obj.cells (Value.cells (cS1 s)) 44 (0, 0)), (b2, Obj.cells Z25 26 (0, 0)), (b1, Obj.cells (Value.cells (svn s)) 26 (0, 0))] := by have e11 := hall 11 (Nat.le_of_ble_eq_true (by kernel_rfl)); have hS := D2.StE.st HL.1; simp only [e11, cond_true, D2.pres] at hS; exact hS
  clear HL hall
  show WP _ _ _ _ _ _
  refine g_reg0 [0, 1, 2] (by kernel_rfl) ?_
  refine s_val (some 23) (.int .i64 1) (fun w => by kernel_rfl) (by kernel_rfl) ?_
  refine s_val (some 24) (.int .i64 2) (fun w => by kernel_rfl) (by kernel_rfl) ?_
  refine s_val (some 7) (.int .i64 2) (fun w => by kernel_rfl) (by kernel_rfl) ?_
  refine s_nil ?_
  show WPL _ _ _ _ _ _
  refine g_next ?_
  refine g_seq (by kernel_rfl) ?_
  refine g_sreg [0, 1] (by kernel_rfl) (by kernel_rfl) ?_
  refine s_val (some 21) (.int .i64 2) (fun w => by kernel_rfl) (by kernel_rfl) ?_
  refine s_val (some 22) (.bool true) (fun w => by kernel_rfl) (by kernel_rfl) ?_
  refine s_nil ?_
  refine g_cond_t (by kernel_rfl) (by kernel_rfl) ?_
  refine g_skip (by kernel_rfl) ?_
  show WP _ _ _ _ _ _
  refine g_seq (by kernel_rfl) ?_
  refine g_block 3 (by kernel_rfl) ?_
  refine D2.g_draw0 [0, 1, 2, 3, 4, 5, 6, 7, 8, 9, 10, 11] [((some 25), fun _ => .int .i64 0), ((some 26), fun _ => .int .i64 0), ((some 27), fun _ => .pointer (some ⟨b3, 0, none⟩)), ((some 28), fun _ => wv ((nth s 0) ^^^ (nth s 5))), ((some 29), fun _ => .int .i64 0), ((some 30), fun _ => .int .i64 2), ((some 31), fun _ => .int .i64 10), ((some 32), fun _ => .pointer (some ⟨b1, 10, none⟩)), ((some 33), fun _ => wv (nth s 10)), ((some 34), fun _ => wv (((nth s 0) ^^^ (nth s 5)) ^^^ (nth s 10))), ((some 35), fun _ => .pointer (some ⟨b3, 0, none⟩)), (none, fun _ => undef)] (D2.Pre w.heap.size w (fun L g => [(true, (bif L 11 then (b3, Obj.cells (Value.cells (cS2 s)) 44 (0, 0)) else (b3, Obj.cells (Value.cells (cS1 s)) 44 (0, 0)))), (true, (b2, Obj.cells Z25 26 (0, 0))), (true, (b1, Obj.cells (Value.cells (svn s)) 26 (0, 0)))]) (fun L g => True)) (by kernel_rfl) (by kernel_rfl) (by kernel_rfl) ⟨D2.StE.of H6.drew _ (by kernel_rfl), trivial⟩ ⟨?_, ?_, ?_, ?_, ?_, ?_, ?_, ?_, ?_, ?_, ?_, ?_, trivial⟩ ?_
  · exact D2.gv_val (fun _ _ _ h => h) (fun g w => by kernel_rfl)
  · exact D2.gv_val (fun _ _ _ h => h) (fun g w => by kernel_rfl)
  · exact D2.gv_val (fun _ _ _ h => h) (fun g w => by kernel_rfl)
  · exact D2.gv_load1 25 (.tmp 27) 0 (fun g => b3) (fun g => 0) (fun g => (Value.cells (cS1 s))) 44 (0, 0) (fun _ _ _ h => h) (fun g => by kernel_rfl) (fun g => by kernel_rfl) (fun L g hN => (by have hL11 : L 11 = false := (hN.post 11 (by kernel_rfl)); exact D2.ent_get' (p := true) (e := (bif L 11 then (b3, Obj.cells (Value.cells (cS2 s)) 44 (0, 0)) else (b3, Obj.cells (Value.cells (cS1 s)) 44 (0, 0)))) (by kernel_rfl) (by rfl) (by simp only [hL11, cond_true, cond_false] <;> rfl))) (by kernel_rfl) (fun L g hN hF => by kernel_rfl)
  · exact D2.gv_val (fun _ _ _ h => h) (fun g w => by kernel_rfl)
  · exact D2.gv_val (fun _ _ _ h => h) (fun g w => by kernel_rfl)
  · exact D2.gv_call 21 #[.int .i64 0, .int .i64 2] (fun _ _ _ h => h) (at_fn 0 2 (by omega) (by omega)) (fun g w => by kernel_rfl)
  · exact D2.gv_val (fun _ _ _ h => h) (fun g w => by kernel_rfl)
  · exact D2.gv_load1 25 (.tmp 32) 2 (fun g => b1) (fun g => 10) (fun g => (Value.cells (svn s))) 26 (0, 0) (fun _ _ _ h => h) (fun g => by kernel_rfl) (fun g => by kernel_rfl) (fun L g hN => (by kernel_rfl)) (by kernel_rfl) (fun L g hN hF => by kernel_rfl)
  · exact D2.gv_valE (fun _ _ _ h => h) (V' := .int .u64 (Go.bits .xor .u64 (((BitVec.toNat ((nth s 0) ^^^ (nth s 5)) : Nat) : Int)) (((BitVec.toNat (nth s 10) : Nat) : Int)))) (fun g w => by kernel_rfl) (bv_xor_u64 ((nth s 0) ^^^ (nth s 5)) (nth s 10))
  · exact D2.gv_val (fun _ _ _ h => h) (fun g w => by kernel_rfl)
  · exact D2.gv_store 0 25 (.tmp 35) (.tmp 34) (fun g => b3) (fun g => 0) (Value.cells (cS1 s)) (Value.cells (cS2 s)) 44 (wv (((nth s 0) ^^^ (nth s 5)) ^^^ (nth s 10))) (fun g => by kernel_rfl) (fun g => by kernel_rfl) (fun g => by kernel_rfl) (by kernel_rfl) (by kernel_rfl) (fun g => (of_decide_eq_true (by kernel_rfl))) (fun g => (by kernel_rfl)) (fun L g hN => ⟨(by have hL11 : L 11 = false := hN.1; exact D2.ent_get' (p := true) (e := (bif L 11 then (b3, Obj.cells (Value.cells (cS2 s)) 44 (0, 0)) else (b3, Obj.cells (Value.cells (cS1 s)) 44 (0, 0)))) (by kernel_rfl) (by rfl) (by simp only [hL11, cond_true, cond_false] <;> rfl)), (by kernel_rfl)⟩) (fun L g hN hF => hF)
  intro L0 G7 w7 hall HL; clear H6
  have H7 : St w.heap.size w w7 [(b3, Obj.cells (Value.cells (cS2 s)) 44 (0, 0)), (b2, Obj.cells Z25 26 (0, 0)), (b1, Obj.cells (Value.cells (svn s)) 26 (0, 0))] := by have e11 := hall 11 (Nat.le_of_ble_eq_true (by kernel_rfl)); have hS := D2.StE.st HL.1; simp only [e11, cond_true, D2.pres] at hS; exact hS
  clear HL hall
  show WP _ _ _ _ _ _
  refine g_reg0 [0, 1, 2] (by kernel_rfl) ?_
  refine s_val (some 23) (.int .i64 2) (fun w => by kernel_rfl) (by kernel_rfl) ?_
  refine s_val (some 24) (.int .i64 3) (fun w => by kernel_rfl) (by kernel_rfl) ?_
  refine s_val (some 7) (.int .i64 3) (fun w => by kernel_rfl) (by kernel_rfl) ?_
  refine s_nil ?_
  show WPL _ _ _ _ _ _
  refine g_next ?_
  refine g_seq (by kernel_rfl) ?_
  refine g_sreg [0, 1] (by kernel_rfl) (by kernel_rfl) ?_
  refine s_val (some 21) (.int .i64 3) (fun w => by kernel_rfl) (by kernel_rfl) ?_
  refine s_val (some 22) (.bool true) (fun w => by kernel_rfl) (by kernel_rfl) ?_
  refine s_nil ?_
  refine g_cond_t (by kernel_rfl) (by kernel_rfl) ?_
  refine g_skip (by kernel_rfl) ?_
  show WP _ _ _ _ _ _
  refine g_seq (by kernel_rfl) ?_
  refine g_block 3 (by kernel_rfl) ?_
  refine D2.g_draw0 [0, 1, 2, 3, 4, 5, 6, 7, 8, 9, 10, 11] [((some 25), fun _ => .int .i64 0), ((some 26), fun _ => .int .i64 0), ((some 27), fun _ => .pointer (some ⟨b3, 0, none⟩)), ((some 28), fun _ => wv (((nth s 0) ^^^ (nth s 5)) ^^^ (nth s 10))), ((some 29), fun _ => .int .i64 0), ((some 30), fun _ => .int .i64 3), ((some 31), fun _ => .int .i64 15), ((some 32), fun _ => .pointer (some ⟨b1, 15, none⟩)), ((some 33), fun _ => wv (nth s 15)), ((some 34), fun _ => wv ((((nth s 0) ^^^ (nth s 5)) ^^^ (nth s 10)) ^^^ (nth s 15))), ((some 35), fun _ => .pointer (some ⟨b3, 0, none⟩)), (none, fun _ => undef)] (D2.Pre w.heap.size w (fun L g => [(true, (bif L 11 then (b3, Obj.cells (Value.cells (cS3 s)) 44 (0, 0)) else (b3, Obj.cells (Value.cells (cS2 s)) 44 (0, 0)))), (true, (b2, Obj.cells Z25 26 (0, 0))), (true, (b1, Obj.cells (Value.cells (svn s)) 26 (0, 0)))]) (fun L g => True)) (by kernel_rfl) (by kernel_rfl) (by kernel_rfl) ⟨D2.StE.of H7.drew _ (by kernel_rfl), trivial⟩ ⟨?_, ?_, ?_, ?_, ?_, ?_, ?_, ?_, ?_, ?_, ?_, ?_, trivial⟩ ?_
  · exact D2.gv_val (fun _ _ _ h => h) (fun g w => by kernel_rfl)
  · exact D2.gv_val (fun _ _ _ h => h) (fun g w => by kernel_rfl)
  · exact D2.gv_val (fun _ _ _ h => h) (fun g w => by kernel_rfl)
  · exact D2.gv_load1 25 (.tmp 27) 0 (fun g => b3) (fun g => 0) (fun g => (Value.cells (cS2 s))) 44 (0, 0) (fun _ _ _ h => h) (fun g => by kernel_rfl) (fun g => by kernel_rfl) (fun L g hN => (by have hL11 : L 11 = false := (hN.post 11 (by kernel_rfl)); exact D2.ent_get' (p := true) (e := (bif L 11 then (b3, Obj.cells (Value.cells (cS3 s)) 44 (0, 0)) else (b3, Obj.cells (Value.cells (cS2 s)) 44 (0, 0)))) (by kernel_rfl) (by rfl) (by simp only [hL11, cond_true, cond_false] <;> rfl))) (by kernel_rfl) (fun L g hN hF => by kernel_rfl)
  · exact D2.gv_val (fun _ _ _ h => h) (fun g w => by kernel_rfl)
  · exact D2.gv_val (fun _ _ _ h => h) (fun g w => by kernel_rfl)
  · exact D2.gv_call 21 #[.int .i64 0, .int .i64 3] (fun _ _ _ h => h) (at_fn 0 3 (by omega) (by omega)) (fun g w => by kernel_rfl)
  · exact D2.gv_val (fun _ _ _ h => h) (fun g w => by kernel_rfl)
  · exact D2.gv_load1 25 (.tmp 32) 2 (fun g => b1) (fun g => 15) (fun g => (Value.cells (svn s))) 26 (0, 0) (fun _ _ _ h => h) (fun g => by kernel_rfl) (fun g => by kernel_rfl) (fun L g hN => (by kernel_rfl)) (by kernel_rfl) (fun L g hN hF => by kernel_rfl)
  · exact D2.gv_valE (fun _ _ _ h => h) (V' := .int .u64 (Go.bits .xor .u64 (((BitVec.toNat (((nth s 0) ^^^ (nth s 5)) ^^^ (nth s 10)) : Nat) : Int)) (((BitVec.toNat (nth s 15) : Nat) : Int)))) (fun g w => by kernel_rfl) (bv_xor_u64 (((nth s 0) ^^^ (nth s 5)) ^^^ (nth s 10)) (nth s 15))
  · exact D2.gv_val (fun _ _ _ h => h) (fun g w => by kernel_rfl)
  · exact D2.gv_store 0 25 (.tmp 35) (.tmp 34) (fun g => b3) (fun g => 0) (Value.cells (cS2 s)) (Value.cells (cS3 s)) 44 (wv ((((nth s 0) ^^^ (nth s 5)) ^^^ (nth s 10)) ^^^ (nth s 15))) (fun g => by kernel_rfl) (fun g => by kernel_rfl) (fun g => by kernel_rfl) (by kernel_rfl) (by kernel_rfl) (fun g => (of_decide_eq_true (by kernel_rfl))) (fun g => (by kernel_rfl)) (fun L g hN => ⟨(by have hL11 : L 11 = false := hN.1; exact D2.ent_get' (p := true) (e := (bif L 11 then (b3, Obj.cells (Value.cells (cS3 s)) 44 (0, 0)) else (b3, Obj.cells (Value.cells (cS2 s)) 44 (0, 0)))) (by kernel_rfl) (by rfl) (by simp only [hL11, cond_true, cond_false] <;> rfl)), (by kernel_rfl)⟩) (fun L g hN hF => hF)
  intro L0 G8 w8 hall HL; clear H7
  have H8 : St w.heap.size w w8 [(b3, Obj.cells (Value.cells (cS3 s)) 44 (0, 0)), (b2, Obj.cells Z25 26 (0, 0)), (b1, Obj.cells (Value.cells (svn s)) 26 (0, 0))] := by have e11 := hall 11 (Nat.le_of_ble_eq_true (by kernel_rfl)); have hS := D2.StE.st HL.1; simp only [e11, cond_true, D2.pres] at hS; exact hS
  clear HL hall
  show WP _ _ _ _ _ _
  refine g_reg0 [0, 1, 2] (by kernel_rfl) ?_
  refine s_val (some 23) (.int .i64 3) (fun w => by kernel_rfl) (by kernel_rfl) ?_
  refine s_val (some 24) (.int .i64 4) (fun w => by kernel_rfl) (by kernel_rfl) ?_
  refine s_val (some 7) (.int .i64 4) (fun w => by kernel_rfl) (by kernel_rfl) ?_
  refine s_nil ?_
  show WPL _ _ _ _ _ _
  refine g_next ?_
  refine g_seq (by kernel_rfl) ?_
  refine g_sreg [0, 1] (by kernel_rfl) (by kernel_rfl) ?_
  refine s_val (some 21) (.int .i64 4) (fun w => by kernel_rfl) (by kernel_rfl) ?_
  refine s_val (some 22) (.bool true) (fun w => by kernel_rfl) (by kernel_rfl) ?_
  refine s_nil ?_
  refine g_cond_t (by kernel_rfl) (by kernel_rfl) ?_
  refine g_skip (by kernel_rfl) ?_
  show WP _ _ _ _ _ _
  refine g_seq (by kernel_rfl) ?_
  refine g_block 3 (by kernel_rfl) ?_
  refine D2.g_draw0 [0, 1, 2, 3, 4, 5, 6, 7, 8, 9, 10, 11] [((some 25), fun _ => .int .i64 0), ((some 26), fun _ => .int .i64 0), ((some 27), fun _ => .pointer (some ⟨b3, 0, none⟩)), ((some 28), fun _ => wv ((((nth s 0) ^^^ (nth s 5)) ^^^ (nth s 10)) ^^^ (nth s 15))), ((some 29), fun _ => .int .i64 0), ((some 30), fun _ => .int .i64 4), ((some 31), fun _ => .int .i64 20), ((some 32), fun _ => .pointer (some ⟨b1, 20, none⟩)), ((some 33), fun _ => wv (nth s 20)), ((some 34), fun _ => wv (cC s 0)), ((some 35), fun _ => .pointer (some ⟨b3, 0, none⟩)), (none, fun _ => undef)] (D2.Pre w.heap.size w (fun L g => [(true, (bif L 11 then (b3, Obj.cells (Value.cells (cS4 s)) 44 (0, 0)) else (b3, Obj.cells (Value.cells (cS3 s)) 44 (0, 0)))), (true, (b2, Obj.cells Z25 26 (0, 0))), (true, (b1, Obj.cells (Value.cells (svn s)) 26 (0, 0)))]) (fun L g => True)) (by kernel_rfl) (by kernel_rfl) (by kernel_rfl) ⟨D2.StE.of H8.drew _ (by kernel_rfl), trivial⟩ ⟨?_, ?_, ?_, ?_, ?_, ?_, ?_, ?_, ?_, ?_, ?_, ?_, trivial⟩ ?_
  · exact D2.gv_val (fun _ _ _ h => h) (fun g w => by kernel_rfl)
  · exact D2.gv_val (fun _ _ _ h => h) (fun g w => by kernel_rfl)
  · exact D2.gv_val (fun _ _ _ h => h) (fun g w => by kernel_rfl)
  · exact D2.gv_load1 25 (.tmp 27) 0 (fun g => b3) (fun g => 0) (fun g => (Value.cells (cS3 s))) 44 (0, 0) (fun _ _ _ h => h) (fun g => by kernel_rfl) (fun g => by kernel_rfl) (fun L g hN => (by have hL11 : L 11 = false := (hN.post 11 (by kernel_rfl)); exact D2.ent_get' (p := true) (e := (bif L 11 then (b3, Obj.cells (Value.cells (cS4 s)) 44 (0, 0)) else (b3, Obj.cells (Value.cells (cS3 s)) 44 (0, 0)))) (by kernel_rfl) (by rfl) (by simp only [hL11, cond_true, cond_false] <;> rfl))) (by kernel_rfl) (fun L g hN hF => by kernel_rfl)
  · exact D2.gv_val (fun _ _ _ h => h) (fun g w => by kernel_rfl)
  · exact D2.gv_val (fun _ _ _ h => h) (fun g w => by kernel_rfl)
  · exact D2.gv_call 21 #[.int .i64 0, .int .i64 4] (fun _ _ _ h => h) (at_fn 0 4 (by omega) (by omega)) (fun g w => by kernel_rfl)
  · exact D2.gv_val (fun _ _ _ h => h) (fun g w => by kernel_rfl)
  · exact D2.gv_load1 25 (.tmp 32) 2 (fun g => b1) (fun g => 20) (fun g => (Value.cells (svn s))) 26 (0, 0) (fun _ _ _ h => h) (fun g => by kernel_rfl) (fun g => by kernel_rfl) (fun L g hN => (by kernel_rfl)) (by kernel_rfl) (fun L g hN hF => by kernel_rfl)
  · exact D2.gv_valE (fun _ _ _ h => h) (V' := .int .u64 (Go.bits .xor .u64 (((BitVec.toNat ((((nth s 0) ^^^ (nth s 5)) ^^^ (nth s 10)) ^^^ (nth s 15)) : Nat) : Int)) (((BitVec.toNat (nth s 20) : Nat) : Int)))) (fun g w => by kernel_rfl) (bv_xor_u64 ((((nth s 0) ^^^ (nth s 5)) ^^^ (nth s 10)) ^^^ (nth s 15)) (nth s 20))
  · exact D2.gv_val (fun _ _ _ h => h) (fun g w => by kernel_rfl)
  · exact D2.gv_store 0 25 (.tmp 35) (.tmp 34) (fun g => b3) (fun g => 0) (Value.cells (cS3 s)) (Value.cells (cS4 s)) 44 (wv (cC s 0)) (fun g => by kernel_rfl) (fun g => by kernel_rfl) (fun g => by kernel_rfl) (by kernel_rfl) (by kernel_rfl) (fun g => (of_decide_eq_true (by kernel_rfl))) (fun g => (by kernel_rfl)) (fun L g hN => ⟨(by have hL11 : L 11 = false := hN.1; exact D2.ent_get' (p := true) (e := (bif L 11 then (b3, Obj.cells (Value.cells (cS4 s)) 44 (0, 0)) else (b3, Obj.cells (Value.cells (cS3 s)) 44 (0, 0)))) (by kernel_rfl) (by rfl) (by simp only [hL11, cond_true, cond_false] <;> rfl)), (by kernel_rfl)⟩) (fun L g hN hF => hF)
  intro L0 G9 w9 hall HL; clear H8
  have H9 : St w.heap.size w w9 [(b3, Obj.cells (Value.cells (cS4 s)) 44 (0, 0)), (b2, Obj.cells Z25 26 (0, 0)), (b1, Obj.cells (Value.cells (svn s)) 26 (0, 0))] := by have e11 := hall 11 (Nat.le_of_ble_eq_true (by kernel_rfl)); have hS := D2.StE.st HL.1; simp only [e11, cond_true, D2.pres] at hS; exact hS
  clear HL hall
  show WP _ _ _ _ _ _
  refine g_reg0 [0, 1, 2] (by kernel_rfl) ?_
  refine s_val (some 23) (.int .i64 4) (fun w => by kernel_rfl) (by kernel_rfl) ?_
  refine s_val (some 24) (.int .i64 5) (fun w => by kernel_rfl) (by kernel_rfl) ?_
  refine s_val (some 7) (.int .i64 5) (fun w => by kernel_rfl) (by kernel_rfl) ?_
  refine s_nil ?_
  show WPL _ _ _ _ _ _
  refine g_next ?_
  refine g_seq (by kernel_rfl) ?_
  refine g_sreg [0, 1] (by kernel_rfl) (by kernel_rfl) ?_
  refine s_val (some 21) (.int .i64 5) (fun w => by kernel_rfl) (by kernel_rfl) ?_
  refine s_val (some 22) (.bool false) (fun w => by kernel_rfl) (by kernel_rfl) ?_
  refine s_nil ?_
  refine g_cond_f (by kernel_rfl) (by kernel_rfl) ?_
  refine g_exit 2 (by kernel_rfl) ?_
  show WP _ _ _ _ _ _
  refine g_reg0 [0, 1, 2] (by kernel_rfl) ?_
  refine s_val (some 19) (.int .i64 0) (fun w => by kernel_rfl) (by kernel_rfl) ?_
  refine s_val (some 20) (.int .i64 1) (fun w => by kernel_rfl) (by kernel_rfl) ?_
  refine s_val (some 6) (.int .i64 1) (fun w => by kernel_rfl) (by kernel_rfl) ?_
  refine s_nil ?_
  show WPL _ _ _ _ _ _
  refine g_next ?_
  refine g_seq (by kernel_rfl) ?_
  refine g_sreg [0, 1] (by kernel_rfl) (by kernel_rfl) ?_
  refine s_val (some 17) (.int .i64 1) (fun w => by kernel_rfl) (by kernel_rfl) ?_
  refine s_val (some 18) (.bool true) (fun w => by kernel_rfl) (by kernel_rfl) ?_
  refine s_nil ?_
  refine g_cond_t (by kernel_rfl) (by kernel_rfl) ?_
  refine g_skip (by kernel_rfl) ?_
  show WP _ _ _ _ _ _
  refine g_seq (by kernel_rfl) ?_
  refine g_block 1 (by kernel_rfl) ?_
  refine g_sreg [0] (by kernel_rfl) (by kernel_rfl) ?_
  refine s_val (some 7) (.int .i64 0) (fun w => by kernel_rfl) (by kernel_rfl) ?_
  refine s_nil ?_
  refine g_block 2 (by kernel_rfl) ?_
  refine g_first (by kernel_rfl) ?_
  refine g_seq (by kernel_rfl) ?_
  refine g_sreg [0, 1] (by kernel_rfl) (by kernel_rfl) ?_
  refine s_val (some 21) (.int .i64 0) (fun w => by kernel_rfl) (by kernel_rfl) ?_
  refine s_val (some 22) (.bool true) (fun w => by kernel_rfl) (by kernel_rfl) ?_
  refine s_nil ?_
  refine g_cond_t (by kernel_rfl) (by kernel_rfl) ?_
  refine g_skip (by kernel_rfl) ?_
  show WP _ _ _ _ _ _
  refine g_seq (by kernel_rfl) ?_
  refine g_block 3 (by kernel_rfl) ?_
  refine D2.g_draw0 [0, 1, 2, 3, 4, 5, 6, 7, 8, 9, 10, 11] [((some 25), fun _ => .int .i64 1), ((some 26), fun _ => .int .i64 1), ((some 27), fun _ => .pointer (some ⟨b3, 1, none⟩)), ((some 28), fun _ => .int .u64 0), ((some 29), fun _ => .int .i64 1), ((some 30), fun _ => .int .i64 0), ((some 31), fun _ => .int .i64 1), ((some 32), fun _ => .pointer (some ⟨b1, 1, none⟩)), ((some 33), fun _ => wv (nth s 1)), ((some 34), fun _ => wv (nth s 1)), ((some 35), fun _ => .pointer (some ⟨b3, 1, none⟩)), (none, fun _ => undef)] (D2.Pre w.heap.size w (fun L g => [(true, (bif L 11 then (b3, Obj.cells (Value.cells (cS5 s)) 44 (0, 0)) else (b3, Obj.cells (Value.cells (cS4 s)) 44 (0, 0)))), (true, (b2, Obj.cells Z25 26 (0, 0))), (true, (b1, Obj.cells (Value.cells (svn s)) 26 (0, 0)))]) (fun L g => True)) (by kernel_rfl) (by kernel_rfl) (by kernel_rfl) ⟨D2.StE.of H9.drew _ (by kernel_rfl), trivial⟩ ⟨?_, ?_, ?_, ?_, ?_, ?_, ?_, ?_, ?_, ?_, ?_, ?_, trivial⟩ ?_
  · exact D2.gv_val (fun _ _ _ h => h) (fun g w => by kernel_rfl)
  · exact D2.gv_val (fun _ _ _ h => h) (fun g w => by kernel_rfl)
  · exact D2.gv_val (fun _ _ _ h => h) (fun g w => by kernel_rfl)
  · exact D2.gv_load1 25 (.tmp 27) 0 (fun g => b3) (fun g => 1) (fun g => (Value.cells (cS4 s))) 44 (0, 0) (fun _ _ _ h => h) (fun g => by kernel_rfl) (fun g => by kernel_rfl) (fun L g hN => (by have hL11 : L 11 = false := (hN.post 11 (by kernel_rfl)); exact D2.ent_get' (p := true) (e := (bif L 11 then (b3, Obj.cells (Value.cells (cS5 s)) 44 (0, 0)) else (b3, Obj.cells (Value.cells (cS4 s)) 44 (0, 0)))) (by kernel_rfl) (by rfl) (by simp only [hL11, cond_true, cond_false] <;> rfl))) (by kernel_rfl) (fun L g hN hF => by kernel_rfl)
  · exact D2.gv_val (fun _ _ _ h => h) (fun g w => by kernel_rfl)
  · exact D2.gv_val (fun _ _ _ h => h) (fun g w => by kernel_rfl)
  · exact D2.gv_call 21 #[.int .i64 1, .int .i64 0] (fun _ _ _ h => h) (at_fn 1 0 (by omega) (by omega)) (fun g w => by kernel_rfl)
  · exact D2.gv_val (fun _ _ _ h => h) (fun g w => by kernel_rfl)
  · exact D2.gv_load1 25 (.tmp 32) 2 (fun g => b1) (fun g => 1) (fun g => (Value.cells (svn s))) 26 (0, 0) (fun _ _ _ h => h) (fun g => by kernel_rfl) (fun g => by kernel_rfl) (fun L g hN => (by kernel_rfl)) (by kernel_rfl) (fun L g hN hF => by kernel_rfl)
  · exact D2.gv_valE (fun _ _ _ h => h) (V' := .int .u64 (Go.bits .xor .u64 (0) (((BitVec.toNat (nth s 1) : Nat) : Int)))) (fun g w => by kernel_rfl) ((bv_xor_u64 (0 : BitVec 64) (nth s 1)).trans (bv_congr (zero_x (nth s 1))))
  · exact D2.gv_val (fun _ _ _ h => h) (fun g w => by kernel_rfl)
  · exact D2.gv_store 0 25 (.tmp 35) (.tmp 34) (fun g => b3) (fun g => 1) (Value.cells (cS4 s)) (Value.cells (cS5 s)) 44 (wv (nth s 1)) (fun g => by kernel_rfl) (fun g => by kernel_rfl) (fun g => by kernel_rfl) (by kernel_rfl) (by kernel_rfl) (fun g => (of_decide_eq_true (by kernel_rfl))) (fun g => (by kernel_rfl)) (fun L g hN => ⟨(by have hL11 : L 11 = false := hN.1; exact D2.ent_get' (p := true) (e := (bif L 11 then (b3, Obj.cells (Value.cells (cS5 s)) 44 (0, 0)) else (b3, Obj.cells (Value.cells (cS4 s)) 44 (0, 0)))) (by kernel_rfl) (by rfl) (by simp only [hL11, cond_true, cond_false] <;> rfl)), (by kernel_rfl)⟩) (fun L g hN hF => hF)
  intro L0 G10 w10 hall HL; clear H9
  have H10 : St w.heap.size w w10 [(b3, Obj.cells (Value.cells (cS5 s)) 44 (0, 0)), (b2, Obj.cells Z25 26 (0, 0)), (b1, Obj.cells (Value.cells (svn s)) 26 (0, 0))] := by have e11 := hall 11 (Nat.le_of_ble_eq_true (by kernel_rfl)); have hS := D2.StE.st HL.1; simp only [e11, cond_true, D2.pres] at hS; exact hS
  clear HL hall
  show WP _ _ _ _ _ _
  refine g_reg0 [0, 1, 2] (by kernel_rfl) ?_
  refine s_val (some 23) (.int .i64 0) (fun w => by kernel_rfl) (by kernel_rfl) ?_
  refine s_val (some 24) (.int .i64 1) (fun w => by kernel_rfl) (by kernel_rfl) ?_
  refine s_val (some 7) (.int .i64 1) (fun w => by kernel_rfl) (by kernel_rfl) ?_
  refine s_nil ?_
  show WPL _ _ _ _ _ _
  refine g_next ?_
  refine g_seq (by kernel_rfl) ?_
  refine g_sreg [0, 1] (by kernel_rfl) (by kernel_rfl) ?_
  refine s_val (some 21) (.int .i64 1) (fun w => by kernel_rfl) (by kernel_rfl) ?_
  refine s_val (some 22) (.bool true) (fun w => by kernel_rfl) (by kernel_rfl) ?_
  refine s_nil ?_
  refine g_cond_t (by kernel_rfl) (by kernel_rfl) ?_
  refine g_skip (by kernel_rfl) ?_
  show WP _ _ _ _ _ _
  refine g_seq (by kernel_rfl) ?_
  refine g_block 3 (by kernel_rfl) ?_
  refine D2.g_draw0 [0, 1, 2, 3, 4, 5, 6, 7, 8, 9, 10, 11] [((some 25), fun _ => .int .i64 1), ((some 26), fun _ => .int .i64 1), ((some 27), fun _ => .pointer (some ⟨b3, 1, none⟩)), ((some 28), fun _ => wv (nth s 1)), ((some 29), fun _ => .int .i64 1), ((some 30), fun _ => .int .i64 1), ((some 31), fun _ => .int .i64 6), ((some 32), fun _ => .pointer (some ⟨b1, 6, none⟩)), ((some 33), fun _ => wv (nth s 6)), ((some 34), fun _ => wv ((nth s 1) ^^^ (nth s 6))), ((some 35), fun _ => .pointer (some ⟨b3, 1, none⟩)), (none, fun _ => undef)] (D2.Pre w.heap.size w (fun L g => [(true, (bif L 11 then (b3, Obj.cells (Value.cells (cS6 s)) 44 (0, 0)) else (b3, Obj.cells (Value.cells (cS5 s)) 44 (0, 0)))), (true, (b2, Obj.cells Z25 26 (0, 0))), (true, (b1, Obj.cells (Value.cells (svn s)) 26 (0, 0)))]) (fun L g => True)) (by kernel_rfl) (by kernel_rfl) (by kernel_rfl) ⟨D2.StE.of H10.drew _ (by kernel_rfl), trivial⟩ ⟨?_, ?_, ?_, ?_, ?_, ?_, ?_, ?_, ?_, ?_, ?_, ?_, trivial⟩ ?_
  · exact D2.gv_val (fun _ _ _ h => h) (fun g w => by kernel_rfl)
  · exact D2.gv_val (fun _ _ _ h => h) (fun g w => by kernel_rfl)
  · exact D2.gv_val (fun _ _ _ h => h) (fun g w => by kernel_rfl)
  · exact D2.gv_load1 25 (.tmp 27) 0 (fun g => b3) (fun g => 1) (fun g => (Value.cells (cS5 s))) 44 (0, 0) (fun _ _ _ h => h) (fun g => by kernel_rfl) (fun g => by kernel_rfl) (fun L g hN => (by have hL11 : L 11 = false := (hN.post 11 (by kernel_rfl)); exact D2.ent_get' (p := true) (e := (bif L 11 then (b3, Obj.cells (Value.cells (cS6 s)) 44 (0, 0)) else (b3, Obj.cells (Value.cells (cS5 s)) 44 (0, 0)))) (by kernel_rfl) (by rfl) (by simp only [hL11, cond_true, cond_false] <;> rfl))) (by kernel_rfl) (fun L g hN hF => by kernel_rfl)
  · exact D2.gv_val (fun _ _ _ h => h) (fun g w => by kernel_rfl)
  · exact D2.gv_val (fun _ _ _ h => h) (fun g w => by kernel_rfl)
  · exact D2.gv_call 21 #[.int .i64 1, .int .i64 1] (fun _ _ _ h => h) (at_fn 1 1 (by omega) (by omega)) (fun g w => by kernel_rfl)
  · exact D2.gv_val (fun _ _ _ h => h) (fun g w => by kernel_rfl)
  · exact D2.gv_load1 25 (.tmp 32) 2 (fun g => b1) (fun g => 6) (fun g => (Value.cells (svn s))) 26 (0, 0) (fun _ _ _ h => h) (fun g => by kernel_rfl) (fun g => by kernel_rfl) (fun L g hN => (by kernel_rfl)) (by kernel_rfl) (fun L g hN hF => by kernel_rfl)
  · exact D2.gv_valE (fun _ _ _ h => h) (V' := .int .u64 (Go.bits .xor .u64 (((BitVec.toNat (nth s 1) : Nat) : Int)) (((BitVec.toNat (nth s 6) : Nat) : Int)))) (fun g w => by kernel_rfl) (bv_xor_u64 (nth s 1) (nth s 6))
  · exact D2.gv_val (fun _ _ _ h => h) (fun g w => by kernel_rfl)
  · exact D2.gv_store 0 25 (.tmp 35) (.tmp 34) (fun g => b3) (fun g => 1) (Value.cells (cS5 s)) (Value.cells (cS6 s)) 44 (wv ((nth s 1) ^^^ (nth s 6))) (fun g => by kernel_rfl) (fun g => by kernel_rfl) (fun g => by kernel_rfl) (by kernel_rfl) (by kernel_rfl) (fun g => (of_decide_eq_true (by kernel_rfl))) (fun g => (by kernel_rfl)) (fun L g hN => ⟨(by have hL11 : L 11 = false := hN.1; exact D2.ent_get' (p := true) (e := (bif L 11 then (b3, Obj.cells (Value.cells (cS6 s)) 44 (0, 0)) else (b3, Obj.cells (Value.cells (cS5 s)) 44 (0, 0)))) (by kernel_rfl) (by rfl) (by simp only [hL11, cond_true, cond_false] <;> rfl)), (by kernel_rfl)⟩) (fun L g hN hF => hF)
  intro L0 G11 w11 hall HL; clear H10
  have H11 : St w.heap.size w w11 [(b3, Obj.cells (Value.cells (cS6 s)) 44 (0, 0)), (b2, Obj.cells Z25 26 (0, 0)), (b1, Obj.cells (Value.cells (svn s)) 26 (0, 0))] := by have e11 := hall 11 (Nat.le_of_ble_eq_true (by kernel_rfl)); have hS := D2.StE.st HL.1; simp only [e11, cond_true, D2.pres] at hS; exact hS
  clear HL hall
  show WP _ _ _ _ _ _
  refine g_reg0 [0, 1, 2] (by kernel_rfl) ?_
  refine s_val (some 23) (.int .i64 1) (fun w => by kernel_rfl) (by kernel_rfl) ?_
  refine s_val (some 24) (.int .i64 2) (fun w => by kernel_rfl) (by kernel_rfl) ?_
  refine s_val (some 7) (.int .i64 2) (fun w => by kernel_rfl) (by kernel_rfl) ?_
  refine s_nil ?_
  show WPL _ _ _ _ _ _
  refine g_next ?_
  refine g_seq (by kernel_rfl) ?_
  refine g_sreg [0, 1] (by kernel_rfl) (by kernel_rfl) ?_
  refine s_val (some 21) (.int .i64 2) (fun w => by kernel_rfl) (by kernel_rfl) ?_
  refine s_val (some 22) (.bool true) (fun w => by kernel_rfl) (by kernel_rfl) ?_
  refine s_nil ?_
  refine g_cond_t (by kernel_rfl) (by kernel_rfl) ?_
  refine g_skip (by kernel_rfl) ?_
  show WP _ _ _ _ _ _
  refine g_seq (by kernel_rfl) ?_
  refine g_block 3 (by kernel_rfl) ?_
  refine D2.g_draw0 [0, 1, 2, 3, 4, 5, 6, 7, 8, 9, 10, 11] [((some 25), fun _ => .int .i64 1), ((some 26), fun _ => .int .i64 1), ((some 27), fun _ => .pointer (some ⟨b3, 1, none⟩)), ((some 28), fun _ => wv ((nth s 1) ^^^ (nth s 6))), ((some 29), fun _ => .int .i64 1), ((some 30), fun _ => .int .i64 2), ((some 31), fun _ => .int .i64 11), ((some 32), fun _ => .pointer (some ⟨b1, 11, none⟩)), ((some 33), fun _ => wv (nth s 11)), ((some 34), fun _ => wv (((nth s 1) ^^^ (nth s 6)) ^^^ (nth s 11))), ((some 35), fun _ => .pointer (some ⟨b3, 1, none⟩)), (none, fun _ => undef)] (D2.Pre w.heap.size w (fun L g => [(true, (bif L 11 then (b3, Obj.cells (Value.cells (cS7 s)) 44 (0, 0)) else (b3, Obj.cells (Value.cells (cS6 s)) 44 (0, 0)))), (true, (b2, Obj.cells Z25 26 (0, 0))), (true, (b1, Obj.cells (Value.cells (svn s)) 26 (0, 0)))]) (fun L g => True)) (by kernel_rfl) (by kernel_rfl) (by kernel_rfl) ⟨D2.StE.of H11.drew _ (by kernel_rfl), trivial⟩ ⟨?_, ?_, ?_, ?_, ?_, ?_, ?_, ?_, ?_, ?_, ?_, ?_, trivial⟩ ?_
  · exact D2.gv_val (fun _ _ _ h => h) (fun g w => by kernel_rfl)
  · exact D2.gv_val (fun _ _ _ h => h) (fun g w => by kernel_rfl)
  · exact D2.gv_val (fun _ _ _ h => h) (fun g w => by kernel_rfl)
  · exact D2.gv_load1 25 (.tmp 27) 0 (fun g => b3) (fun g => 1) (fun g => (Value.cells (cS6 s))) 44 (0, 0) (fun _ _ _ h => h) (fun g => by kernel_rfl) (fun g => by kernel_rfl) (fun L g hN => (by have hL11 : L 11 = false := (hN.post 11 (by kernel_rfl)); exact D2.ent_get' (p := true) (e := (bif L 11 then (b3, Obj.cells (Value.cells (cS7 s)) 44 (0, 0)) else (b3, Obj.cells (Value.cells (cS6 s)) 44 (0, 0)))) (by kernel_rfl) (by rfl) (by simp only [hL11, cond_true, cond_false] <;> rfl))) (by kernel_rfl) (fun L g hN hF => by kernel_rfl)
  · exact D2.gv_val (fun _ _ _ h => h) (fun g w => by kernel_rfl)
  · exact D2.gv_val (fun _ _ _ h => h) (fun g w => by kernel_rfl)
  · exact D2.gv_call 21 #[.int .i64 1, .int .i64 2] (fun _ _ _ h => h) (at_fn 1 2 (by omega) (by omega)) (fun g w => by kernel_rfl)
  · exact D2.gv_val (fun _ _ _ h => h) (fun g w => by kernel_rfl)
  · exact D2.gv_load1 25 (.tmp 32) 2 (fun g => b1) (fun g => 11) (fun g => (Value.cells (svn s))) 26 (0, 0) (fun _ _ _ h => h) (fun g => by kernel_rfl) (fun g => by kernel_rfl) (fun L g hN => (by kernel_rfl)) (by kernel_rfl) (fun L g hN hF => by kernel_rfl)
  · exact D2.gv_valE (fun _ _ _ h => h) (V' := .int .u64 (Go.bits .xor .u64 (((BitVec.toNat ((nth s 1) ^^^ (nth s 6)) : Nat) : Int)) (((BitVec.toNat (nth s 11) : Nat) : Int)))) (fun g w => by kernel_rfl) (bv_xor_u64 ((nth s 1) ^^^ (nth s 6)) (nth s 11))
  · exact D2.gv_val (fun _ _ _ h => h) (fun g w => by kernel_rfl)
  · exact D2.gv_store 0 25 (.tmp 35) (.tmp 34) (fun g => b3) (fun g => 1) (Value.cells (cS6 s)) (Value.cells (cS7 s)) 44 (wv (((nth s 1) ^^^ (nth s 6)) ^^^ (nth s 11))) (fun g => by kernel_rfl) (fun g => by kernel_rfl) (fun g => by kernel_rfl) (by kernel_rfl) (by kernel_rfl) (fun g => (of_decide_eq_true (by kernel_rfl))) (fun g => (by kernel_rfl)) (fun L g hN => ⟨(by have hL11 : L 11 = false := hN.1; exact D2.ent_get' (p := true) (e := (bif L 11 then (b3, Obj.cells (Value.cells (cS7 s)) 44 (0, 0)) else (b3, Obj.cells (Value.cells (cS6 s)) 44 (0, 0)))) (by kernel_rfl) (by rfl) (by simp only [hL11, cond_true, cond_false] <;> rfl)), (by kernel_rfl)⟩) (fun L g hN hF => hF)
  intro L0 G12 w12 hall HL; clear H11
  have H12 : St w.heap.size w w12 [(b3, Obj.cells (Value.cells (cS7 s)) 44 (0, 0)), (b2, Obj.cells Z25 26 (0, 0)), (b1, Obj.cells (Value.cells (svn s)) 26 (0, 0))] := by have e11 := hall 11 (Nat.le_of_ble_eq_true (by kernel_rfl)); have hS := D2.StE.st HL.1; simp only [e11, cond_true, D2.pres] at hS; exact hS
  clear HL hall
  show WP _ _ _ _ _ _
  refine g_reg0 [0, 1, 2] (by kernel_rfl) ?_
  refine s_val (some 23) (.int .i64 2) (fun w => by kernel_rfl) (by kernel_rfl) ?_
  refine s_val (some 24) (.int .i64 3) (fun w => by kernel_rfl) (by kernel_rfl) ?_
  refine s_val (some 7) (.int .i64 3) (fun w => by kernel_rfl) (by kernel_rfl) ?_
  refine s_nil ?_
  show WPL _ _ _ _ _ _
  refine g_next ?_
  refine g_seq (by kernel_rfl) ?_
  refine g_sreg [0, 1] (by kernel_rfl) (by kernel_rfl) ?_
  refine s_val (some 21) (.int .i64 3) (fun w => by kernel_rfl) (by kernel_rfl) ?_
  refine s_val (some 22) (.bool true) (fun w => by kernel_rfl) (by kernel_rfl) ?_
  refine s_nil ?_
  refine g_cond_t (by kernel_rfl) (by kernel_rfl) ?_
  refine g_skip (by kernel_rfl) ?_
  show WP _ _ _ _ _ _
  refine g_seq (by kernel_rfl) ?_
  refine g_block 3 (by kernel_rfl) ?_
  refine D2.g_draw0 [0, 1, 2, 3, 4, 5, 6, 7, 8, 9, 10, 11] [((some 25), fun _ => .int .i64 1), ((some 26), fun _ => .int .i64 1), ((some 27), fun _ => .pointer (some ⟨b3, 1, none⟩)), ((some 28), fun _ => wv (((nth s 1) ^^^ (nth s 6)) ^^^ (nth s 11))), ((some 29), fun _ => .int .i64 1), ((some 30), fun _ => .int .i64 3), ((some 31), fun _ => .int .i64 16), ((some 32), fun _ => .pointer (some ⟨b1, 16, none⟩)), ((some 33), fun _ => wv (nth s 16)), ((some 34), fun _ => wv ((((nth s 1) ^^^ (nth s 6)) ^^^ (nth s 11)) ^^^ (nth s 16))), ((some 35), fun _ => .pointer (some ⟨b3, 1, none⟩)), (none, fun _ => undef)] (D2.Pre w.heap.size w (fun L g => [(true, (bif L 11 then (b3, Obj.cells (Value.cells (cS8 s)) 44 (0, 0)) else (b3, Obj.cells (Value.cells (cS7 s)) 44 (0, 0)))), (true, (b2, Obj.cells Z25 26 (0, 0))), (true, (b1, Obj.cells (Value.cells (svn s)) 26 (0, 0)))]) (fun L g => True)) (by kernel_rfl) (by kernel_rfl) (by kernel_rfl) ⟨D2.StE.of H12.drew _ (by kernel_rfl), trivial⟩ ⟨?_, ?_, ?_, ?_, ?_, ?_, ?_, ?_, ?_, ?_, ?_, ?_, trivial⟩ ?_
  · exact D2.gv_val (fun _ _ _ h => h) (fun g w => by kernel_rfl)
  · exact D2.gv_val (fun _ _ _ h => h) (fun g w => by kernel_rfl)
  · exact D2.gv_val (fun _ _ _ h => h) (fun g w => by kernel_rfl)
  · exact D2.gv_load1 25 (.tmp 27) 0 (fun g => b3) (fun g => 1) (fun g => (Value.cells (cS7 s))) 44 (0, 0) (fun _ _ _ h => h) (fun g => by kernel_rfl) (fun g => by kernel_rfl) (fun L g hN => (by have hL11 : L 11 = false := (hN.post 11 (by kernel_rfl)); exact D2.ent_get' (p := true) (e := (bif L 11 then (b3, Obj.cells (Value.cells (cS8 s)) 44 (0, 0)) else (b3, Obj.cells (Value.cells (cS7 s)) 44 (0, 0)))) (by kernel_rfl) (by rfl) (by simp only [hL11, cond_true, cond_false] <;> rfl))) (by kernel_rfl) (fun L g hN hF => by kernel_rfl)
  · exact D2.gv_val (fun _ _ _ h => h) (fun g w => by kernel_rfl)
  · exact D2.gv_val (fun _ _ _ h => h) (fun g w => by kernel_rfl)
  · exact D2.gv_call 21 #[.int .i64 1, .int .i64 3] (fun _ _ _ h => h) (at_fn 1 3 (by omega) (by omega)) (fun g w => by kernel_rfl)
  · exact D2.gv_val (fun _ _ _ h => h) (fun g w => by kernel_rfl)
  · exact D2.gv_load1 25 (.tmp 32) 2 (fun g => b1) (fun g => 16) (fun g => (Value.cells (svn s))) 26 (0, 0) (fun _ _ _ h => h) (fun g => by kernel_rfl) (fun g => by kernel_rfl) (fun L g hN => (by kernel_rfl)) (by kernel_rfl) (fun L g hN hF => by kernel_rfl)
  · exact D2.gv_valE (fun _ _ _ h => h) (V' := .int .u64 (Go.bits .xor .u64 (((BitVec.toNat (((nth s 1) ^^^ (nth s 6)) ^^^ (nth s 11)) : Nat) : Int)) (((BitVec.toNat (nth s 16) : Nat) : Int)))) (fun g w => by kernel_rfl) (bv_xor_u64 (((nth s 1) ^^^ (nth s 6)) ^^^ (nth s 11)) (nth s 16))
  · exact D2.gv_val (fun _ _ _ h => h) (fun g w => by kernel_rfl)
  · exact D2.gv_store 0 25 (.tmp 35) (.tmp 34) (fun g => b3) (fun g => 1) (Value.cells (cS7 s)) (Value.cells (cS8 s)) 44 (wv ((((nth s 1) ^^^ (nth s 6)) ^^^ (nth s 11)) ^^^ (nth s 16))) (fun g => by kernel_rfl) (fun g => by kernel_rfl) (fun g => by kernel_rfl) (by kernel_rfl) (by kernel_rfl) (fun g => (of_decide_eq_true (by kernel_rfl))) (fun g => (by kernel_rfl)) (fun L g hN => ⟨(by have hL11 : L 11 = false := hN.1; exact D2.ent_get' (p := true) (e := (bif L 11 then (b3, Obj.cells (Value.cells (cS8 s)) 44 (0, 0)) else (b3, Obj.cells (Value.cells (cS7 s)) 44 (0, 0)))) (by kernel_rfl) (by rfl) (by simp only [hL11, cond_true, cond_false] <;> rfl)), (by kernel_rfl)⟩) (fun L g hN hF => hF)
  intro L0 G13 w13 hall HL; clear H12
  have H13 : St w.heap.size w w13 [(b3, Obj.cells (Value.cells (cS8 s)) 44 (0, 0)), (b2, Obj.cells Z25 26 (0, 0)), (b1, Obj.cells (Value.cells (svn s)) 26 (0, 0))] := by have e11 := hall 11 (Nat.le_of_ble_eq_true (by kernel_rfl)); have hS := D2.StE.st HL.1; simp only [e11, cond_true, D2.pres] at hS; exact hS
  clear HL hall
  show WP _ _ _ _ _ _
  refine g_reg0 [0, 1, 2] (by kernel_rfl) ?_
  refine s_val (some 23) (.int .i64 3) (fun w => by kernel_rfl) (by kernel_rfl) ?_
  refine s_val (some 24) (.int .i64 4) (fun w => by kernel_rfl) (by kernel_rfl) ?_
  refine s_val (some 7) (.int .i64 4) (fun w => by kernel_rfl) (by kernel_rfl) ?_
  refine s_nil ?_
  show WPL _ _ _ _ _ _
  refine g_next ?_
  refine g_seq (by kernel_rfl) ?_
  refine g_sreg [0, 1] (by kernel_rfl) (by kernel_rfl) ?_
  refine s_val (some 21) (.int .i64 4) (fun w => by kernel_rfl) (by kernel_rfl) ?_
  refine s_val (some 22) (.bool true) (fun w => by kernel_rfl) (by kernel_rfl) ?_
  refine s_nil ?_
  refine g_cond_t (by kernel_rfl) (by kernel_rfl) ?_
  refine g_skip (by kernel_rfl) ?_
  show WP _ _ _ _ _ _
  refine g_seq (by kernel_rfl) ?_
  refine g_block 3 (by kernel_rfl) ?_
  refine D2.g_draw0 [0, 1, 2, 3, 4, 5, 6, 7, 8, 9, 10, 11] [((some 25), fun _ => .int .i64 1), ((some 26), fun _ => .int .i64 1), ((some 27), fun _ => .pointer (some ⟨b3, 1, none⟩)), ((some 28), fun _ => wv ((((nth s 1) ^^^ (nth s 6)) ^^^ (nth s 11)) ^^^ (nth s 16))), ((some 29), fun _ => .int .i64 1), ((some 30), fun _ => .int .i64 4), ((some 31), fun _ => .int .i64 21), ((some 32), fun _ => .pointer (some ⟨b1, 21, none⟩)), ((some 33), fun _ => wv (nth s 21)), ((some 34), fun _ => wv (cC s 1)), ((some 35), fun _ => .pointer (some ⟨b3, 1, none⟩)), (none, fun _ => undef)] (D2.Pre w.heap.size w (fun L g => [(true, (bif L 11 then (b3, Obj.cells (Value.cells (cS9 s)) 44 (0, 0)) else (b3, Obj.cells (Value.cells (cS8 s)) 44 (0, 0)))), (true, (b2, Obj.cells Z25 26 (0, 0))), (true, (b1, Obj.cells (Value.cells (svn s)) 26 (0, 0)))]) (fun L g => True)) (by kernel_rfl) (by kernel_rfl) (by kernel_rfl) ⟨D2.StE.of H13.drew _ (by kernel_rfl), trivial⟩ ⟨?_, ?_, ?_, ?_, ?_, ?_, ?_, ?_, ?_, ?_, ?_, ?_, trivial⟩ ?_
  · exact D2.gv_val (fun _ _ _ h => h) (fun g w => by kernel_rfl)
  · exact D2.gv_val (fun _ _ _ h => h) (fun g w => by kernel_rfl)
  · exact D2.gv_val (fun _ _ _ h => h) (fun g w => by kernel_rfl)
  · exact D2.gv_load1 25 (.tmp 27) 0 (fun g => b3) (fun g => 1) (fun g => (Value.cells (cS8 s))) 44 (0, 0) (fun _ _ _ h => h) (fun g => by kernel_rfl) (fun g => by kernel_rfl) (fun L g hN => (by have hL11 : L 11 = false := (hN.post 11 (by kernel_rfl)); exact D2.ent_get' (p := true) (e := (bif L 11 then (b3, Obj.cells (Value.cells (cS9 s)) 44 (0, 0)) else (b3, Obj.cells (Value.cells (cS8 s)) 44 (0, 0)))) (by kernel_rfl) (by rfl) (by simp only [hL11, cond_true, cond_false] <;> rfl))) (by kernel_rfl) (fun L g hN hF => by kernel_rfl)
  · exact D2.gv_val (fun _ _ _ h => h) (fun g w => by kernel_rfl)
  · exact D2.gv_val (fun _ _ _ h => h) (fun g w => by kernel_rfl)
  · exact D2.gv_call 21 #[.int .i64 1, .int .i64 4] (fun _ _ _ h => h) (at_fn 1 4 (by omega) (by omega)) (fun g w => by kernel_rfl)
  · exact D2.gv_val (fun _ _ _ h => h) (fun g w => by kernel_rfl)
  · exact D2.gv_load1 25 (.tmp 32) 2 (fun g => b1) (fun g => 21) (fun g => (Value.cells (svn s))) 26 (0, 0) (fun _ _ _ h => h) (fun g => by kernel_rfl) (fun g => by kernel_rfl) (fun L g hN => (by kernel_rfl)) (by kernel_rfl) (fun L g hN hF => by kernel_rfl)
  · exact D2.gv_valE (fun _ _ _ h => h) (V' := .int .u64 (Go.bits .xor .u64 (((BitVec.toNat ((((nth s 1) ^^^ (nth s 6)) ^^^ (nth s 11)) ^^^ (nth s 16)) : Nat) : Int)) (((BitVec.toNat (nth s 21) : Nat) : Int)))) (fun g w => by kernel_rfl) (bv_xor_u64 ((((nth s 1) ^^^ (nth s 6)) ^^^ (nth s 11)) ^^^ (nth s 16)) (nth s 21))
  · exact D2.gv_val (fun _ _ _ h => h) (fun g w => by kernel_rfl)
  · exact D2.gv_store 0 25 (.tmp 35) (.tmp 34) (fun g => b3) (fun g => 1) (Value.cells (cS8 s)) (Value.cells (cS9 s)) 44 (wv (cC s 1)) (fun g => by kernel_rfl) (fun g => by kernel_rfl) (fun g => by kernel_rfl) (by kernel_rfl) (by kernel_rfl) (fun g => (of_decide_eq_true (by kernel_rfl))) (fun g => (by kernel_rfl)) (fun L g hN => ⟨(by have hL11 : L 11 = false := hN.1; exact D2.ent_get' (p := true) (e := (bif L 11 then (b3, Obj.cells (Value.cells (cS9 s)) 44 (0, 0)) else (b3, Obj.cells (Value.cells (cS8 s)) 44 (0, 0)))) (by kernel_rfl) (by rfl) (by simp only [hL11, cond_true, cond_false] <;> rfl)), (by kernel_rfl)⟩) (fun L g hN hF => hF)
  intro L0 G14 w14 hall HL; clear H13
  have H14 : St w.heap.size w w14 [(b3, Obj.cells (Value.cells (cS9 s)) 44 (0, 0)), (b2, Obj.cells Z25 26 (0, 0)), (b1, Obj.cells (Value.cells (svn s)) 26 (0, 0))] := by have e11 := hall 11 (Nat.le_of_ble_eq_true (by kernel_rfl)); have hS := D2.StE.st HL.1; simp only [e11, cond_true, D2.pres] at hS; exact hS
  clear HL hall
  show WP _ _ _ _ _ _
  refine g_reg0 [0, 1, 2] (by kernel_rfl) ?_
  refine s_val (some 23) (.int .i64 4) (fun w => by kernel_rfl) (by kernel_rfl) ?_
  refine s_val (some 24) (.int .i64 5) (fun w => by kernel_rfl) (by kernel_rfl) ?_
  refine s_val (some 7) (.int .i64 5) (fun w => by kernel_rfl) (by kernel_rfl) ?_
  refine s_nil ?_
  show WPL _ _ _ _ _ _
  refine g_next ?_
  refine g_seq (by kernel_rfl) ?_
  refine g_sreg [0, 1] (by kernel_rfl) (by kernel_rfl) ?_
  refine s_val (some 21) (.int .i64 5) (fun w => by kernel_rfl) (by kernel_rfl) ?_
  refine s_val (some 22) (.bool false) (fun w => by kernel_rfl) (by kernel_rfl) ?_
  refine s_nil ?_
  refine g_cond_f (by kernel_rfl) (by kernel_rfl) ?_
  refine g_exit 2 (by kernel_rfl) ?_
  show WP _ _ _ _ _ _
  refine g_reg0 [0, 1, 2] (by kernel_rfl) ?_
  refine s_val (some 19) (.int .i64 1) (fun w => by kernel_rfl) (by kernel_rfl) ?_
  refine s_val (some 20) (.int .i64 2) (fun w => by kernel_rfl) (by kernel_rfl) ?_
  refine s_val (some 6) (.int .i64 2) (fun w => by kernel_rfl) (by kernel_rfl) ?_
  refine s_nil ?_
  show WPL _ _ _ _ _ _
  refine g_next ?_
  refine g_seq (by kernel_rfl) ?_
  refine g_sreg [0, 1] (by kernel_rfl) (by kernel_rfl) ?_
  refine s_val (some 17) (.int .i64 2) (fun w => by kernel_rfl) (by kernel_rfl) ?_
  refine s_val (some 18) (.bool true) (fun w => by kernel_rfl) (by kernel_rfl) ?_
  refine s_nil ?_
  refine g_cond_t (by kernel_rfl) (by kernel_rfl) ?_
  refine g_skip (by kernel_rfl) ?_
  show WP _ _ _ _ _ _
  refine g_seq (by kernel_rfl) ?_
  refine g_block 1 (by kernel_rfl) ?_
  refine g_sreg [0] (by kernel_rfl) (by kernel_rfl) ?_
  refine s_val (some 7) (.int .i64 0) (fun w => by kernel_rfl) (by kernel_rfl) ?_
  refine s_nil ?_
  refine g_block 2 (by kernel_rfl) ?_
  refine g_first (by kernel_rfl) ?_
  refine g_seq (by kernel_rfl) ?_
  refine g_sreg [0, 1] (by kernel_rfl) (by kernel_rfl) ?_
  refine s_val (some 21) (.int .i64 0) (fun w => by kernel_rfl) (by kernel_rfl) ?_
  refine s_val (some 22) (.bool true) (fun w => by kernel_rfl) (by kernel_rfl) ?_
  refine s_nil ?_
  refine g_cond_t (by kernel_rfl) (by kernel_rfl) ?_
  refine g_skip (by kernel_rfl) ?_
  show WP _ _ _ _ _ _
  refine g_seq (by kernel_rfl) ?_
  refine g_block 3 (by kernel_rfl) ?_
  refine D2.g_draw0 [0, 1, 2, 3, 4, 5, 6, 7, 8, 9, 10, 11] [((some 25), fun _ => .int .i64 2), ((some 26), fun _ => .int .i64 2), ((some 27), fun _ => .pointer (some ⟨b3, 2, none⟩)), ((some 28), fun _ => .int .u64 0), ((some 29), fun _ => .int .i64 2), ((some 30), fun _ => .int .i64 0), ((some 31), fun _ => .int .i64 2), ((some 32), fun _ => .pointer (some ⟨b1, 2, none⟩)), ((some 33), fun _ => wv (nth s 2)), ((some 34), fun _ => wv (nth s 2)), ((some 35), fun _ => .pointer (some ⟨b3, 2, none⟩)), (none, fun _ => undef)] (D2.Pre w.heap.size w (fun L g => [(true, (bif L 11 then (b3, Obj.cells (Value.cells (cS10 s)) 44 (0, 0)) else (b3, Obj.cells (Value.cells (cS9 s)) 44 (0, 0)))), (true, (b2, Obj.cells Z25 26 (0, 0))), (true, (b1, Obj.cells (Value.cells (svn s)) 26 (0, 0)))]) (fun L g => True)) (by kernel_rfl) (by kernel_rfl) (by kernel_rfl) ⟨D2.StE.of H14.drew _ (by kernel_rfl), trivial⟩ ⟨?_, ?_, ?_, ?_, ?_, ?_, ?_, ?_, ?_, ?_, ?_, ?_, trivial⟩ ?_
  · exact D2.gv_val (fun _ _ _ h => h) (fun g w => by kernel_rfl)
  · exact D2.gv_val (fun _ _ _ h => h) (fun g w => by kernel_rfl)
  · exact D2.gv_val (fun _ _ _ h => h) (fun g w => by kernel_rfl)
  · exact D2.gv_load1 25 (.tmp 27) 0 (fun g => b3) (fun g => 2) (fun g => (Value.cells (cS9 s))) 44 (0, 0) (fun _ _ _ h => h) (fun g => by kernel_rfl) (fun g => by kernel_rfl) (fun L g hN => (by have hL11 : L 11 = false := (hN.post 11 (by kernel_rfl)); exact D2.ent_get' (p := true) (e := (bif L 11 then (b3, Obj.cells (Value.cells (cS10 s)) 44 (0, 0)) else (b3, Obj.cells (Value.cells (cS9 s)) 44 (0, 0)))) (by kernel_rfl) (by rfl) (by simp only [hL11, cond_true, cond_false] <;> rfl))) (by kernel_rfl) (fun L g hN hF => by kernel_rfl)
  · exact D2.gv_val (fun _ _ _ h => h) (fun g w => by kernel_rfl)
  · exact D2.gv_val (fun _ _ _ h => h) (fun g w => by kernel_rfl)
  · exact D2.gv_call 21 #[.int .i64 2, .int .i64 0] (fun _ _ _ h => h) (at_fn 2 0 (by omega) (by omega)) (fun g w => by kernel_rfl)
  · exact D2.gv_val (fun _ _ _ h => h) (fun g w => by kernel_rfl)
  · exact D2.gv_load1 25 (.tmp 32) 2 (fun g => b1) (fun g => 2) (fun g => (Value.cells (svn s))) 26 (0, 0) (fun _ _ _ h => h) (fun g => by kernel_rfl) (fun g => by kernel_rfl) (fun L g hN => (by kernel_rfl)) (by kernel_rfl) (fun L g hN hF => by kernel_rfl)
  · exact D2.gv_valE (fun _ _ _ h => h) (V' := .int .u64 (Go.bits .xor .u64 (0) (((BitVec.toNat (nth s 2) : Nat) : Int)))) (fun g w => by kernel_rfl) ((bv_xor_u64 (0 : BitVec 64) (nth s 2)).trans (bv_congr (zero_x (nth s 2))))
  · exact D2.gv_val (fun _ _ _ h => h) (fun g w => by kernel_rfl)
  · exact D2.gv_store 0 25 (.tmp 35) (.tmp 34) (fun g => b3) (fun g => 2) (Value.cells (cS9 s)) (Value.cells (cS10 s)) 44 (wv (nth s 2)) (fun g => by kernel_rfl) (fun g => by kernel_rfl) (fun g => by kernel_rfl) (by kernel_rfl) (by kernel_rfl) (fun g => (of_decide_eq_true (by kernel_rfl))) (fun g => (by kernel_rfl)) (fun L g hN => ⟨(by have hL11 : L 11 = false := hN.1; exact D2.ent_get' (p := true) (e := (bif L 11 then (b3, Obj.cells (Value.cells (cS10 s)) 44 (0, 0)) else (b3, Obj.cells (Value.cells (cS9 s)) 44 (0, 0)))) (by kernel_rfl) (by rfl) (by simp only [hL11, cond_true, cond_false] <;> rfl)), (by kernel_rfl)⟩) (fun L g hN hF => hF)
  intro L0 G15 w15 hall HL; clear H14
  have H15 : St w.heap.size w w15 [(b3, Obj.cells (Value.cells (cS10 s)) 44 (0, 0)), (b2, Obj.cells Z25 26 (0, 0)), (b1, Obj.cells (Value.cells (svn s)) 26 (0, 0))] := by have e11 := hall 11 (Nat.le_of_ble_eq_true (by kernel_rfl)); have hS := D2.StE.st HL.1; simp only [e11, cond_true, D2.pres] at hS; exact hS
  clear HL hall
  show WP _ _ _ _ _ _
  refine g_reg0 [0, 1, 2] (by kernel_rfl) ?_
  refine s_val (some 23) (.int .i64 0) (fun w => by kernel_rfl) (by kernel_rfl) ?_
  refine s_val (some 24) (.int .i64 1) (fun w => by kernel_rfl) (by kernel_rfl) ?_
  refine s_val (some 7) (.int .i64 1) (fun w => by kernel_rfl) (by kernel_rfl) ?_
  refine s_nil ?_
  show WPL _ _ _ _ _ _
  refine g_next ?_
  refine g_seq (by kernel_rfl) ?_
  refine g_sreg [0, 1] (by kernel_rfl) (by kernel_rfl) ?_
  refine s_val (some 21) (.int .i64 1) (fun w => by kernel_rfl) (by kernel_rfl) ?_
  refine s_val (some 22) (.bool true) (fun w => by kernel_rfl) (by kernel_rfl) ?_
  refine s_nil ?_
  refine g_cond_t (by kernel_rfl) (by kernel_rfl) ?_
  refine g_skip (by kernel_rfl) ?_
  show WP _ _ _ _ _ _
  refine g_seq (by kernel_rfl) ?_
  refine g_block 3 (by kernel_rfl) ?_
  refine D2.g_draw0 [0, 1, 2, 3, 4, 5, 6, 7, 8, 9, 10, 11] [((some 25), fun _ => .int .i64 2), ((some 26), fun _ => .int .i64 2), ((some 27), fun _ => .pointer (some ⟨b3, 2, none⟩)), ((some 28), fun _ => wv (nth s 2)), ((some 29), fun _ => .int .i64 2), ((some 30), fun _ => .int .i64 1), ((some 31), fun _ => .int .i64 7), ((some 32), fun _ => .pointer (some ⟨b1, 7, none⟩)), ((some 33), fun _ => wv (nth s 7)), ((some 34), fun _ => wv ((nth s 2) ^^^ (nth s 7))), ((some 35), fun _ => .pointer (some ⟨b3, 2, none⟩)), (none, fun _ => undef)] (D2.Pre w.heap.size w (fun L g => [(true, (bif L 11 then (b3, Obj.cells (Value.cells (cS11 s)) 44 (0, 0)) else (b3, Obj.cells (Value.cells (cS10 s)) 44 (0, 0)))), (true, (b2, Obj.cells Z25 26 (0, 0))), (true, (b1, Obj.cells (Value.cells (svn s)) 26 (0, 0)))]) (fun L g => True)) (by kernel_rfl) (by kernel_rfl) (by kernel_rfl) ⟨D2.StE.of H15.drew _ (by kernel_rfl), trivial⟩ ⟨?_, ?_, ?_, ?_, ?_, ?_, ?_, ?_, ?_, ?_, ?_, ?_, trivial⟩ ?_
  · exact D2.gv_val (fun _ _ _ h => h) (fun g w => by kernel_rfl)
  · exact D2.gv_val (fun _ _ _ h => h) (fun g w => by kernel_rfl)
  · exact D2.gv_val (fun _ _ _ h => h) (fun g w => by kernel_rfl)
  · exact D2.gv_load1 25 (.tmp 27) 0 (fun g => b3) (fun g => 2) (fun g => (Value.cells (cS10 s))) 44 (0, 0) (fun _ _ _ h => h) (fun g => by kernel_rfl) (fun g => by kernel_rfl) (fun L g hN => (by have hL11 : L 11 = false := (hN.post 11 (by kernel_rfl)); exact D2.ent_get' (p := true) (e := (bif L 11 then (b3, Obj.cells (Value.cells (cS11 s)) 44 (0, 0)) else (b3, Obj.cells (Value.cells (cS10 s)) 44 (0, 0)))) (by kernel_rfl) (by rfl) (by simp only [hL11, cond_true, cond_false] <;> rfl))) (by kernel_rfl) (fun L g hN hF => by kernel_rfl)
  · exact D2.gv_val (fun _ _ _ h => h) (fun g w => by kernel_rfl)
  · exact D2.gv_val (fun _ _ _ h => h) (fun g w => by kernel_rfl)
  · exact D2.gv_call 21 #[.int .i64 2, .int .i64 1] (fun _ _ _ h => h) (at_fn 2 1 (by omega) (by omega)) (fun g w => by kernel_rfl)
  · exact D2.gv_val (fun _ _ _ h => h) (fun g w => by kernel_rfl)
  · exact D2.gv_load1 25 (.tmp 32) 2 (fun g => b1) (fun g => 7) (fun g => (Value.cells (svn s))) 26 (0, 0) (fun _ _ _ h => h) (fun g => by kernel_rfl) (fun g => by kernel_rfl) (fun L g hN => (by kernel_rfl)) (by kernel_rfl) (fun L g hN hF => by kernel_rfl)
  · exact D2.gv_valE (fun _ _ _ h => h) (V' := .int .u64 (Go.bits .xor .u64 (((BitVec.toNat (nth s 2) : Nat) : Int)) (((BitVec.toNat (nth s 7) : Nat) : Int)))) (fun g w => by kernel_rfl) (bv_xor_u64 (nth s 2) (nth s 7))
  · exact D2.gv_val (fun _ _ _ h => h) (fun g w => by kernel_rfl)
  · exact D2.gv_store 0 25 (.tmp 35) (.tmp 34) (fun g => b3) (fun g => 2) (Value.cells (cS10 s)) (Value.cells (cS11 s)) 44 (wv ((nth s 2) ^^^ (nth s 7))) (fun g => by kernel_rfl) (fun g => by kernel_rfl) (fun g => by kernel_rfl) (by kernel_rfl) (by kernel_rfl) (fun g => (of_decide_eq_true (by kernel_rfl))) (fun g => (by kernel_rfl)) (fun L g hN => ⟨(by have hL11 : L 11 = false := hN.1; exact D2.ent_get' (p := true) (e := (bif L 11 then (b3, Obj.cells (Value.cells (cS11 s)) 44 (0, 0)) else (b3, Obj.cells (Value.cells (cS10 s)) 44 (0, 0)))) (by kernel_rfl) (by rfl) (by simp only [hL11, cond_true, cond_false] <;> rfl)), (by kernel_rfl)⟩) (fun L g hN hF => hF)
  intro L0 G16 w16 hall HL; clear H15
  have H16 : St w.heap.size w w16 [(b3, Obj.cells (Value.cells (cS11 s)) 44 (0, 0)), (b2, Obj.cells Z25 26 (0, 0)), (b1, Obj.cells (Value.cells (svn s)) 26 (0, 0))] := by have e11 := hall 11 (Nat.le_of_ble_eq_true (by kernel_rfl)); have hS := D2.StE.st HL.1; simp only [e11, cond_true, D2.pres] at hS; exact hS
  clear HL hall
  show WP _ _ _ _ _ _
  refine g_reg0 [0, 1, 2] (by kernel_rfl) ?_
  refine s_val (some 23) (.int .i64 1) (fun w => by kernel_rfl) (by kernel_rfl) ?_
  refine s_val (some 24) (.int .i64 2) (fun w => by kernel_rfl) (by kernel_rfl) ?_
  refine s_val (some 7) (.int .i64 2) (fun w => by kernel_rfl) (by kernel_rfl) ?_
  refine s_nil ?_
  show WPL _ _ _ _ _ _
  refine g_next ?_
  refine g_seq (by kernel_rfl) ?_
  refine g_sreg [0, 1] (by kernel_rfl) (by kernel_rfl) ?_
  refine s_val (some 21) (.int .i64 2) (fun w => by kernel_rfl) (by kernel_rfl) ?_
  refine s_val (some 22) (.bool true) (fun w => by kernel_rfl) (by kernel_rfl) ?_
  refine s_nil ?_
  refine g_cond_t (by kernel_rfl) (by kernel_rfl) ?_
  refine g_skip (by kernel_rfl) ?_
  show WP _ _ _ _ _ _
  refine g_seq (by kernel_rfl) ?_
  refine g_block 3 (by kernel_rfl) ?_
  refine D2.g_draw0 [0, 1, 2, 3, 4, 5, 6, 7, 8, 9, 10, 11] [((some 25), fun _ => .int .i64 2), ((some 26), fun _ => .int .i64 2), ((some 27), fun _ => .pointer (some ⟨b3, 2, none⟩)), ((some 28), fun _ => wv ((nth s 2) ^^^ (nth s 7))), ((some 29), fun _ => .int .i64 2), ((some 30), fun _ => .int .i64 2), ((some 31), fun _ => .int .i64 12), ((some 32), fun _ => .pointer (some ⟨b1, 12, none⟩)), ((some 33), fun _ => wv (nth s 12)), ((some 34), fun _ => wv (((nth s 2) ^^^ (nth s 7)) ^^^ (nth s 12))), ((some 35), fun _ => .pointer (some ⟨b3, 2, none⟩)), (none, fun _ => undef)] (D2.Pre w.heap.size w (fun L g => [(true, (bif L 11 then (b3, Obj.cells (Value.cells (cS12 s)) 44 (0, 0)) else (b3, Obj.cells (Value.cells (cS11 s)) 44 (0, 0)))), (true, (b2, Obj.cells Z25 26 (0, 0))), (true, (b1, Obj.cells (Value.cells (svn s)) 26 (0, 0)))]) (fun L g => True)) (by kernel_rfl) (by kernel_rfl) (by kernel_rfl) ⟨D2.StE.of H16.drew _ (by kernel_rfl), trivial⟩ ⟨?_, ?_, ?_, ?_, ?_, ?_, ?_, ?_, ?_, ?_, ?_, ?_, trivial⟩ ?_
  · exact D2.gv_val (fun _ _ _ h => h) (fun g w => by kernel_rfl)
  · exact D2.gv_val (fun _ _ _ h => h) (fun g w => by kernel_rfl)
  · exact D2.gv_val (fun _ _ _ h => h) (fun g w => by kernel_rfl)
  · exact D2.gv_load1 25 (.tmp 27) 0 (fun g => b3) (fun g => 2) (fun g => (Value.cells (cS11 s))) 44 (0, 0) (fun _ _ _ h => h) (fun g => by kernel_rfl) (fun g => by kernel_rfl) (fun L g hN => (by have hL11 : L 11 = false := (hN.post 11 (by kernel_rfl)); exact D2.ent_get' (p := true) (e := (bif L 11 then (b3, Obj.cells (Value.cells (cS12 s)) 44 (0, 0)) else (b3, Obj.cells (Value.cells (cS11 s)) 44 (0, 0)))) (by kernel_rfl) (by rfl) (by simp only [hL11, cond_true, cond_false] <;> rfl))) (by kernel_rfl) (fun L g hN hF => by kernel_rfl)
  · exact D2.gv_val (fun _ _ _ h => h) (fun g w => by kernel_rfl)
  · exact D2.gv_val (fun _ _ _ h => h) (fun g w => by kernel_rfl)
  · exact D2.gv_call 21 #[.int .i64 2, .int .i64 2] (fun _ _ _ h => h) (at_fn 2 2 (by omega) (by omega)) (fun g w => by kernel_rfl)
  · exact D2.gv_val (fun _ _ _ h => h) (fun g w => by kernel_rfl)
  · exact D2.gv_load1 25 (.tmp 32) 2 (fun g => b1) (fun g => 12) (fun g => (Value.cells (svn s))) 26 (0, 0) (fun _ _ _ h => h) (fun g => by kernel_rfl) (fun g => by kernel_rfl) (fun L g hN => (by kernel_rfl)) (by kernel_rfl) (fun L g hN hF => by kernel_rfl)
  · exact D2.gv_valE (fun _ _ _ h => h) (V' := .int .u64 (Go.bits .xor .u64 (((BitVec.toNat ((nth s 2) ^^^ (nth s 7)) : Nat) : Int)) (((BitVec.toNat (nth s 12) : Nat) : Int)))) (fun g w => by kernel_rfl) (bv_xor_u64 ((nth s 2) ^^^ (nth s 7)) (nth s 12))
  · exact D2.gv_val (fun _ _ _ h => h) (fun g w => by kernel_rfl)
  · exact D2.gv_store 0 25 (.tmp 35) (.tmp 34) (fun g => b3) (fun g => 2) (Value.cells (cS11 s)) (Value.cells (cS12 s)) 44 (wv (((nth s 2) ^^^ (nth s 7)) ^^^ (nth s 12))) (fun g => by kernel_rfl) (fun g => by kernel_rfl) (fun g => by kernel_rfl) (by kernel_rfl) (by kernel_rfl) (fun g => (of_decide_eq_true (by kernel_rfl))) (fun g => (by kernel_rfl)) (fun L g hN => ⟨(by have hL11 : L 11 = false := hN.1; exact D2.ent_get' (p := true) (e := (bif L 11 then (b3, Obj.cells (Value.cells (cS12 s)) 44 (0, 0)) else (b3, Obj.cells (Value.cells (cS11 s)) 44 (0, 0)))) (by kernel_rfl) (by rfl) (by simp only [hL11, cond_true, cond_false] <;> rfl)), (by kernel_rfl)⟩) (fun L g hN hF => hF)
  intro L0 G17 w17 hall HL; clear H16
  have H17 : St w.heap.size w w17 [(b3, Obj.cells (Value.cells (cS12 s)) 44 (0, 0)), (b2, Obj.cells Z25 26 (0, 0)), (b1, Obj.cells (Value.cells (svn s)) 26 (0, 0))] := by have e11 := hall 11 (Nat.le_of_ble_eq_true (by kernel_rfl)); have hS := D2.StE.st HL.1; simp only [e11, cond_true, D2.pres] at hS; exact hS
  clear HL hall
  show WP _ _ _ _ _ _
  refine g_reg0 [0, 1, 2] (by kernel_rfl) ?_
  refine s_val (some 23) (.int .i64 2) (fun w => by kernel_rfl) (by kernel_rfl) ?_
  refine s_val (some 24) (.int .i64 3) (fun w => by kernel_rfl) (by kernel_rfl) ?_
  refine s_val (some 7) (.int .i64 3) (fun w => by kernel_rfl) (by kernel_rfl) ?_
  refine s_nil ?_
  show WPL _ _ _ _ _ _
  refine g_next ?_
  refine g_seq (by kernel_rfl) ?_
  refine g_sreg [0, 1] (by kernel_rfl) (by kernel_rfl) ?_
  refine s_val (some 21) (.int .i64 3) (fun w => by kernel_rfl) (by kernel_rfl) ?_
  refine s_val (some 22) (.bool true) (fun w => by kernel_rfl) (by kernel_rfl) ?_
  refine s_nil ?_
  refine g_cond_t (by kernel_rfl) (by kernel_rfl) ?_
  refine g_skip (by kernel_rfl) ?_
  show WP _ _ _ _ _ _
  refine g_seq (by kernel_rfl) ?_
  refine g_block 3 (by kernel_rfl) ?_
  refine D2.g_draw0 [0, 1, 2, 3, 4, 5, 6, 7, 8, 9, 10, 11] [((some 25), fun _ => .int .i64 2), ((some 26), fun _ => .int .i64 2), ((some 27), fun _ => .pointer (some ⟨b3, 2, none⟩)), ((some 28), fun _ => wv (((nth s 2) ^^^ (nth s 7)) ^^^ (nth s 12))), ((some 29), fun _ => .int .i64 2), ((some 30), fun _ => .int .i64 3), ((some 31), fun _ => .int .i64 17), ((some 32), fun _ => .pointer (some ⟨b1, 17, none⟩)), ((some 33), fun _ => wv (nth s 17)), ((some 34), fun _ => wv ((((nth s 2) ^^^ (nth s 7)) ^^^ (nth s 12)) ^^^ (nth s 17))), ((some 35), fun _ => .pointer (some ⟨b3, 2, none⟩)), (none, fun _ => undef)] (D2.Pre w.heap.size w (fun L g => [(true, (bif L 11 then (b3, Obj.cells (Value.cells (cS13 s)) 44 (0, 0)) else (b3, Obj.cells (Value.cells (cS12 s)) 44 (0, 0)))), (true, (b2, Obj.cells Z25 26 (0, 0))), (true, (b1, Obj.cells (Value.cells (svn s)) 26 (0, 0)))]) (fun L g => True)) (by kernel_rfl) (by kernel_rfl) (by kernel_rfl) ⟨D2.StE.of H17.drew _ (by kernel_rfl), trivial⟩ ⟨?_, ?_, ?_, ?_, ?_, ?_, ?_, ?_, ?_, ?_, ?_, ?_, trivial⟩ ?_
  · exact D2.gv_val (fun _ _ _ h => h) (fun g w => by kernel_rfl)
  · exact D2.gv_val (fun _ _ _ h => h) (fun g w => by kernel_rfl)
  · exact D2.gv_val (fun _ _ _ h => h) (fun g w => by kernel_rfl)
  · exact D2.gv_load1 25 (.tmp 27) 0 (fun g => b3) (fun g => 2) (fun g => (Value.cells (cS12 s))) 44 (0, 0) (fun _ _ _ h => h) (fun g => by kernel_rfl) (fun g => by kernel_rfl) (fun L g hN => (by have hL11 : L 11 = false := (hN.post 11 (by kernel_rfl)); exact D2.ent_get' (p := true) (e := (bif L 11 then (b3, Obj.cells (Value.cells (cS13 s)) 44 (0, 0)) else (b3, Obj.cells (Value.cells (cS12 s)) 44 (0, 0)))) (by kernel_rfl) (by rfl) (by simp only [hL11, cond_true, cond_false] <;> rfl))) (by kernel_rfl) (fun L g hN hF => by kernel_rfl)
  · exact D2.gv_val (fun _ _ _ h => h) (fun g w => by kernel_rfl)
  · exact D2.gv_val (fun _ _ _ h => h) (fun g w => by kernel_rfl)
  · exact D2.gv_call 21 #[.int .i64 2, .int .i64 3] (fun _ _ _ h => h) (at_fn 2 3 (by omega) (by omega)) (fun g w => by kernel_rfl)
  · exact D2.gv_val (fun _ _ _ h => h) (fun g w => by kernel_rfl)
  · exact D2.gv_load1 25 (.tmp 32) 2 (fun g => b1) (fun g => 17) (fun g => (Value.cells (svn s))) 26 (0, 0) (fun _ _ _ h => h) (fun g => by kernel_rfl) (fun g => by kernel_rfl) (fun L g hN => (by kernel_rfl)) (by kernel_rfl) (fun L g hN hF => by kernel_rfl)
  · exact D2.gv_valE (fun _ _ _ h => h) (V' := .int .u64 (Go.bits .xor .u64 (((BitVec.toNat (((nth s 2) ^^^ (nth s 7)) ^^^ (nth s 12)) : Nat) : Int)) (((BitVec.toNat (nth s 17) : Nat) : Int)))) (fun g w => by kernel_rfl) (bv_xor_u64 (((nth s 2) ^^^ (nth s 7)) ^^^ (nth s 12)) (nth s 17))
  · exact D2.gv_val (fun _ _ _ h => h) (fun g w => by kernel_rfl)
  · exact D2.gv_store 0 25 (.tmp 35) (.tmp 34) (fun g => b3) (fun g => 2) (Value.cells (cS12 s)) (Value.cells (cS13 s)) 44 (wv ((((nth s 2) ^^^ (nth s 7)) ^^^ (nth s 12)) ^^^ (nth s 17))) (fun g => by kernel_rfl) (fun g => by kernel_rfl) (fun g => by kernel_rfl) (by kernel_rfl) (by kernel_rfl) (fun g => (of_decide_eq_true (by kernel_rfl))) (fun g => (by kernel_rfl)) (fun L g hN => ⟨(by have hL11 : L 11 = false := hN.1; exact D2.ent_get' (p := true) (e := (bif L 11 then (b3, Obj.cells (Value.cells (cS13 s)) 44 (0, 0)) else (b3, Obj.cells (Value.cells (cS12 s)) 44 (0, 0)))) (by kernel_rfl) (by rfl) (by simp only [hL11, cond_true, cond_false] <;> rfl)), (by kernel_rfl)⟩) (fun L g hN hF => hF)
  intro L0 G18 w18 hall HL; clear H17
  have H18 : St w.heap.size w w18 [(b3, Obj.cells (Value.cells (cS13 s)) 44 (0, 0)), (b2, Obj.cells Z25 26 (0, 0)), (b1, Obj.cells (Value.cells (svn s)) 26 (0, 0))] := by have e11 := hall 11 (Nat.le_of_ble_eq_true (by kernel_rfl)); have hS := D2.StE.st HL.1; simp only [e11, cond_true, D2.pres] at hS; exact hS
  clear HL hall
  show WP _ _ _ _ _ _
  refine g_reg0 [0, 1, 2] (by kernel_rfl) ?_
  refine s_val (some 23) (.int .i64 3) (fun w => by kernel_rfl) (by kernel_rfl) ?_
  refine s_val (some 24) (.int .i64 4) (fun w => by kernel_rfl) (by kernel_rfl) ?_
  refine s_val (some 7) (.int .i64 4) (fun w => by kernel_rfl) (by kernel_rfl) ?_
  refine s_nil ?_
  show WPL _ _ _ _ _ _
  refine g_next ?_
  refine g_seq (by kernel_rfl) ?_
  refine g_sreg [0, 1] (by kernel_rfl) (by kernel_rfl) ?_
  refine s_val (some 21) (.int .i64 4) (fun w => by kernel_rfl) (by kernel_rfl) ?_
  refine s_val (some 22) (.bool true) (fun w => by kernel_rfl) (by kernel_rfl) ?_
  refine s_nil ?_
  refine g_cond_t (by kernel_rfl) (by kernel_rfl) ?_
  refine g_skip (by kernel_rfl) ?_
  show WP _ _ _ _ _ _
  refine g_seq (by kernel_rfl) ?_
  refine g_block 3 (by kernel_rfl) ?_
  refine D2.g_draw0 [0, 1, 2, 3, 4, 5, 6, 7, 8, 9, 10, 11] [((some 25), fun _ => .int .i64 2), ((some 26), fun _ => .int .i64 2), ((some 27), fun _ => .pointer (some ⟨b3, 2, none⟩)), ((some 28), fun _ => wv ((((nth s 2) ^^^ (nth s 7)) ^^^ (nth s 12)) ^^^ (nth s 17))), ((some 29), fun _ => .int .i64 2), ((some 30), fun _ => .int .i64 4), ((some 31), fun _ => .int .i64 22), ((some 32), fun _ => .pointer (some ⟨b1, 22, none⟩)), ((some 33), fun _ => wv (nth s 22)), ((some 34), fun _ => wv (cC s 2)), ((some 35), fun _ => .pointer (some ⟨b3, 2, none⟩)), (none, fun _ => undef)] (D2.Pre w.heap.size w (fun L g => [(true, (bif L 11 then (b3, Obj.cells (Value.cells (cS14 s)) 44 (0, 0)) else (b3, Obj.cells (Value.cells (cS13 s)) 44 (0, 0)))), (true, (b2, Obj.cells Z25 26 (0, 0))), (true, (b1, Obj.cells (Value.cells (svn s)) 26 (0, 0)))]) (fun L g => True)) (by kernel_rfl) (by kernel_rfl) (by kernel_rfl) ⟨D2.StE.of H18.drew _ (by kernel_rfl), trivial⟩ ⟨?_, ?_, ?_, ?_, ?_, ?_, ?_, ?_, ?_, ?_, ?_, ?_, trivial⟩ ?_
  · exact D2.gv_val (fun _ _ _ h => h) (fun g w => by kernel_rfl)
  · exact D2.gv_val (fun _ _ _ h => h) (fun g w => by kernel_rfl)
  · exact D2.gv_val (fun _ _ _ h => h) (fun g w => by kernel_rfl)
  · exact D2.gv_load1 25 (.tmp 27) 0 (fun g => b3) (fun g => 2) (fun g => (Value.cells (cS13 s))) 44 (0, 0) (fun _ _ _ h => h) (fun g => by kernel_rfl) (fun g => by kernel_rfl) (fun L g hN => (by have hL11 : L 11 = false := (hN.post 11 (by kernel_rfl)); exact D2.ent_get' (p := true) (e := (bif L 11 then (b3, Obj.cells (Value.cells (cS14 s)) 44 (0, 0)) else (b3, Obj.cells (Value.cells (cS13 s)) 44 (0, 0)))) (by kernel_rfl) (by rfl) (by simp only [hL11, cond_true, cond_false] <;> rfl))) (by kernel_rfl) (fun L g hN hF => by kernel_rfl)
  · exact D2.gv_val (fun _ _ _ h => h) (fun g w => by kernel_rfl)
  · exact D2.gv_val (fun _ _ _ h => h) (fun g w => by kernel_rfl)
  · exact D2.gv_call 21 #[.int .i64 2, .int .i64 4] (fun _ _ _ h => h) (at_fn 2 4 (by omega) (by omega)) (fun g w => by kernel_rfl)
  · exact D2.gv_val (fun _ _ _ h => h) (fun g w => by kernel_rfl)
  · exact D2.gv_load1 25 (.tmp 32) 2 (fun g => b1) (fun g => 22) (fun g => (Value.cells (svn s))) 26 (0, 0) (fun _ _ _ h => h) (fun g => by kernel_rfl) (fun g => by kernel_rfl) (fun L g hN => (by kernel_rfl)) (by kernel_rfl) (fun L g hN hF => by kernel_rfl)
  · exact D2.gv_valE (fun _ _ _ h => h) (V' := .int .u64 (Go.bits .xor .u64 (((BitVec.toNat ((((nth s 2) ^^^ (nth s 7)) ^^^ (nth s 12)) ^^^ (nth s 17)) : Nat) : Int)) (((BitVec.toNat (nth s 22) : Nat) : Int)))) (fun g w => by kernel_rfl) (bv_xor_u64 ((((nth s 2) ^^^ (nth s 7)) ^^^ (nth s 12)) ^^^ (nth s 17)) (nth s 22))
  · exact D2.gv_val (fun _ _ _ h => h) (fun g w => by kernel_rfl)
  · exact D2.gv_store 0 25 (.tmp 35) (.tmp 34) (fun g => b3) (fun g => 2) (Value.cells (cS13 s)) (Value.cells (cS14 s)) 44 (wv (cC s 2)) (fun g => by kernel_rfl) (fun g => by kernel_rfl) (fun g => by kernel_rfl) (by kernel_rfl) (by kernel_rfl) (fun g => (of_decide_eq_true (by kernel_rfl))) (fun g => (by kernel_rfl)) (fun L g hN => ⟨(by have hL11 : L 11 = false := hN.1; exact D2.ent_get' (p := true) (e := (bif L 11 then (b3, Obj.cells (Value.cells (cS14 s)) 44 (0, 0)) else (b3, Obj.cells (Value.cells (cS13 s)) 44 (0, 0)))) (by kernel_rfl) (by rfl) (by simp only [hL11, cond_true, cond_false] <;> rfl)), (by kernel_rfl)⟩) (fun L g hN hF => hF)
  intro L0 G19 w19 hall HL; clear H18
  have H19 : St w.heap.size w w19 [(b3, Obj.cells (Value.cells (cS14 s)) 44 (0, 0)), (b2, Obj.cells Z25 26 (0, 0)), (b1, Obj.cells (Value.cells (svn s)) 26 (0, 0))] := by have e11 := hall 11 (Nat.le_of_ble_eq_true (by kernel_rfl)); have hS := D2.StE.st HL.1; simp only [e11, cond_true, D2.pres] at hS; exact hS
  clear HL hall
  show WP _ _ _ _ _ _
  refine g_reg0 [0, 1, 2] (by kernel_rfl) ?_
  refine s_val (some 23) (.int .i64 4) (fun w => by kernel_rfl) (by kernel_rfl) ?_
  refine s_val (some 24) (.int .i64 5) (fun w => by kernel_rfl) (by kernel_rfl) ?_
  refine s_val (some 7) (.int .i64 5) (fun w => by kernel_rfl) (by kernel_rfl) ?_
  refine s_nil ?_
  show WPL _ _ _ _ _ _
  refine g_next ?_
  refine g_seq (by kernel_rfl) ?_
  refine g_sreg [0, 1] (by kernel_rfl) (by kernel_rfl) ?_
  refine s_val (some 21) (.int .i64 5) (fun w => by kernel_rfl) (by kernel_rfl) ?_
  refine s_val (some 22) (.bool false) (fun w => by kernel_rfl) (by kernel_rfl) ?_
  refine s_nil ?_
  refine g_cond_f (by kernel_rfl) (by kernel_rfl) ?_
  refine g_exit 2 (by kernel_rfl) ?_
  show WP _ _ _ _ _ _
  refine g_reg0 [0, 1, 2] (by kernel_rfl) ?_
  refine s_val (some 19) (.int .i64 2) (fun w => by kernel_rfl) (by kernel_rfl) ?_
  refine s_val (some 20) (.int .i64 3) (fun w => by kernel_rfl) (by kernel_rfl) ?_
  refine s_val (some 6) (.int .i64 3) (fun w => by kernel_rfl) (by kernel_rfl) ?_
  refine s_nil ?_
  show WPL _ _ _ _ _ _
  refine g_next ?_
  refine g_seq (by kernel_rfl) ?_
  refine g_sreg [0, 1] (by kernel_rfl) (by kernel_rfl) ?_
  refine s_val (some 17) (.int .i64 3) (fun w => by kernel_rfl) (by kernel_rfl) ?_
  refine s_val (some 18) (.bool true) (fun w => by kernel_rfl) (by kernel_rfl) ?_
  refine s_nil ?_
  refine g_cond_t (by kernel_rfl) (by kernel_rfl) ?_
  refine g_skip (by kernel_rfl) ?_
  show WP _ _ _ _ _ _
  refine g_seq (by kernel_rfl) ?_
  refine g_block 1 (by kernel_rfl) ?_
  refine g_sreg [0] (by kernel_rfl) (by kernel_rfl) ?_
  refine s_val (some 7) (.int .i64 0) (fun w => by kernel_rfl) (by kernel_rfl) ?_
  refine s_nil ?_
  refine g_block 2 (by kernel_rfl) ?_
  refine g_first (by kernel_rfl) ?_
  refine g_seq (by kernel_rfl) ?_
  refine g_sreg [0, 1] (by kernel_rfl) (by kernel_rfl) ?_
  refine s_val (some 21) (.int .i64 0) (fun w => by kernel_rfl) (by kernel_rfl) ?_
  refine s_val (some 22) (.bool true) (fun w => by kernel_rfl) (by kernel_rfl) ?_
  refine s_nil ?_
  refine g_cond_t (by kernel_rfl) (by kernel_rfl) ?_
  refine g_skip (by kernel_rfl) ?_
  show WP _ _ _ _ _ _
  refine g_seq (by kernel_rfl) ?_
  refine g_block 3 (by kernel_rfl) ?_
  refine D2.g_draw0 [0, 1, 2, 3, 4, 5, 6, 7, 8, 9, 10, 11] [((some 25), fun _ => .int .i64 3), ((some 26), fun _ => .int .i64 3), ((some 27), fun _ => .pointer (some ⟨b3, 3, none⟩)), ((some 28), fun _ => .int .u64 0), ((some 29), fun _ => .int .i64 3), ((some 30), fun _ => .int .i64 0), ((some 31), fun _ => .int .i64 3), ((some 32), fun _ => .pointer (some ⟨b1, 3, none⟩)), ((some 33), fun _ => wv (nth s 3)), ((some 34), fun _ => wv (nth s 3)), ((some 35), fun _ => .pointer (some ⟨b3, 3, none⟩)), (none, fun _ => undef)] (D2.Pre w.heap.size w (fun L g => [(true, (bif L 11 then (b3, Obj.cells (Value.cells (cS15 s)) 44 (0, 0)) else (b3, Obj.cells (Value.cells (cS14 s)) 44 (0, 0)))), (true, (b2, Obj.cells Z25 26 (0, 0))), (true, (b1, Obj.cells (Value.cells (svn s)) 26 (0, 0)))]) (fun L g => True)) (by kernel_rfl) (by kernel_rfl) (by kernel_rfl) ⟨D2.StE.of H19.drew _ (by kernel_rfl), trivial⟩ ⟨?_, ?_, ?_, ?_, ?_, ?_, ?_, ?_, ?_, ?_, ?_, ?_, trivial⟩ ?_
  · exact D2.gv_val (fun _ _ _ h => h) (fun g w => by kernel_rfl)
  · exact D2.gv_val (fun _ _ _ h => h) (fun g w => by kernel_rfl)
  · exact D2.gv_val (fun _ _ _ h => h) (fun g w => by kernel_rfl)
  · exact D2.gv_load1 25 (.tmp 27) 0 (fun g => b3) (fun g => 3) (fun g => (Value.cells (cS14 s))) 44 (0, 0) (fun _ _ _ h => h) (fun g => by kernel_rfl) (fun g => by kernel_rfl) (fun L g hN => (by have hL11 : L 11 = false := (hN.post 11 (by kernel_rfl)); exact D2.ent_get' (p := true) (e := (bif L 11 then (b3, Obj.cells (Value.cells (cS15 s)) 44 (0, 0)) else (b3, Obj.cells (Value.cells (cS14 s)) 44 (0, 0)))) (by kernel_rfl) (by rfl) (by simp only [hL11, cond_true, cond_false] <;> rfl))) (by kernel_rfl) (fun L g hN hF => by kernel_rfl)
  · exact D2.gv_val (fun _ _ _ h => h) (fun g w => by kernel_rfl)
  · exact D2.gv_val (fun _ _ _ h => h) (fun g w => by kernel_rfl)
  · exact D2.gv_call 21 #[.int .i64 3, .int .i64 0] (fun _ _ _ h => h) (at_fn 3 0 (by omega) (by omega)) (fun g w => by kernel_rfl)
  · exact D2.gv_val (fun _ _ _ h => h) (fun g w => by kernel_rfl)
  · exact D2.gv_load1 25 (.tmp 32) 2 (fun g => b1) (fun g => 3) (fun g => (Value.cells (svn s))) 26 (0, 0) (fun _ _ _ h => h) (fun g => by kernel_rfl) (fun g => by kernel_rfl) (fun L g hN => (by kernel_rfl)) (by kernel_rfl) (fun L g hN hF => by kernel_rfl)
  · exact D2.gv_valE (fun _ _ _ h => h) (V' := .int .u64 (Go.bits .xor .u64 (0) (((BitVec.toNat (nth s 3) : Nat) : Int)))) (fun g w => by kernel_rfl) ((bv_xor_u64 (0 : BitVec 64) (nth s 3)).trans (bv_congr (zero_x (nth s 3))))
  · exact D2.gv_val (fun _ _ _ h => h) (fun g w => by kernel_rfl)
  · exact D2.gv_store 0 25 (.tmp 35) (.tmp 34) (fun g => b3) (fun g => 3) (Value.cells (cS14 s)) (Value.cells (cS15 s)) 44 (wv (nth s 3)) (fun g => by kernel_rfl) (fun g => by kernel_rfl) (fun g => by kernel_rfl) (by kernel_rfl) (by kernel_rfl) (fun g => (of_decide_eq_true (by kernel_rfl))) (fun g => (by kernel_rfl)) (fun L g hN => ⟨(by have hL11 : L 11 = false := hN.1; exact D2.ent_get' (p := true) (e := (bif L 11 then (b3, Obj.cells (Value.cells (cS15 s)) 44 (0, 0)) else (b3, Obj.cells (Value.cells (cS14 s)) 44 (0, 0)))) (by kernel_rfl) (by rfl) (by simp only [hL11, cond_true, cond_false] <;> rfl)), (by kernel_rfl)⟩) (fun L g hN hF => hF)
  intro L0 G20 w20 hall HL; clear H19
  have H20 : St w.heap.size w w20 [(b3, Obj.cells (Value.cells (cS15 s)) 44 (0, 0)), (b2, Obj.cells Z25 26 (0, 0)), (b1, Obj.cells (Value.cells (svn s)) 26 (0, 0))] := by have e11 := hall 11 (Nat.le_of_ble_eq_true (by kernel_rfl)); have hS := D2.StE.st HL.1; simp only [e11, cond_true, D2.pres] at hS; exact hS
  clear HL hall
  show WP _ _ _ _ _ _
  refine g_reg0 [0, 1, 2] (by kernel_rfl) ?_
  refine s_val (some 23) (.int .i64 0) (fun w => by kernel_rfl) (by kernel_rfl) ?_
  refine s_val (some 24) (.int .i64 1) (fun w => by kernel_rfl) (by kernel_rfl) ?_
  refine s_val (some 7) (.int .i64 1) (fun w => by kernel_rfl) (by kernel_rfl) ?_
  refine s_nil ?_
  show WPL _ _ _ _ _ _
  refine g_next ?_
  refine g_seq (by kernel_rfl) ?_
  refine g_sreg [0, 1] (by kernel_rfl) (by kernel_rfl) ?_
  refine s_val (some 21) (.int .i64 1) (fun w => by kernel_rfl) (by kernel_rfl) ?_
  refine s_val (some 22) (.bool true) (fun w => by kernel_rfl) (by kernel_rfl) ?_
  refine s_nil ?_
  refine g_cond_t (by kernel_rfl) (by kernel_rfl) ?_
  refine g_skip (by kernel_rfl) ?_
  show WP _ _ _ _ _ _
  refine g_seq (by kernel_rfl) ?_
  refine g_block 3 (by kernel_rfl) ?_
  refine D2.g_draw0 [0, 1, 2, 3, 4, 5, 6, 7, 8, 9, 10, 11] [((some 25), fun _ => .int .i64 3), ((some 26), fun _ => .int .i64 3), ((some 27), fun _ => .pointer (some ⟨b3, 3, none⟩)), ((some 28), fun _ => wv (nth s 3)), ((some 29), fun _ => .int .i64 3), ((some 30), fun _ => .int .i64 1), ((some 31), fun _ => .int .i64 8), ((some 32), fun _ => .pointer (some ⟨b1, 8, none⟩)), ((some 33), fun _ => wv (nth s 8)), ((some 34), fun _ => wv ((nth s 3) ^^^ (nth s 8))), ((some 35), fun _ => .pointer (some ⟨b3, 3, none⟩)), (none, fun _ => undef)] (D2.Pre w.heap.size w (fun L g => [(true, (bif L 11 then (b3, Obj.cells (Value.cells (cS16 s)) 44 (0, 0)) else (b3, Obj.cells (Value.cells (cS15 s)) 44 (0, 0)))), (true, (b2, Obj.cells Z25 26 (0, 0))), (true, (b1, Obj.cells (Value.cells (svn s)) 26 (0, 0)))]) (fun L g => True)) (by kernel_rfl) (by kernel_rfl) (by kernel_rfl) ⟨D2.StE.of H20.drew _ (by kernel_rfl), trivial⟩ ⟨?_, ?_, ?_, ?_, ?_, ?_, ?_, ?_, ?_, ?_, ?_, ?_, trivial⟩ ?_
  · exact D2.gv_val (fun _ _ _ h => h) (fun g w => by kernel_rfl)
  · exact D2.gv_val (fun _ _ _ h => h) (fun g w => by kernel_rfl)
  · exact D2.gv_val (fun _ _ _ h => h) (fun g w => by kernel_rfl)
  · exact D2.gv_load1 25 (.tmp 27) 0 (fun g => b3) (fun g => 3) (fun g => (Value.cells (cS15 s))) 44 (0, 0) (fun _ _ _ h => h) (fun g => by kernel_rfl) (fun g => by kernel_rfl) (fun L g hN => (by have hL11 : L 11 = false := (hN.post 11 (by kernel_rfl)); exact D2.ent_get' (p := true) (e := (bif L 11 then (b3, Obj.cells (Value.cells (cS16 s)) 44 (0, 0)) else (b3, Obj.cells (Value.cells (cS15 s)) 44 (0, 0)))) (by kernel_rfl) (by rfl) (by simp only [hL11, cond_true, cond_false] <;> rfl))) (by kernel_rfl) (fun L g hN hF => by kernel_rfl)
  · exact D2.gv_val (fun _ _ _ h => h) (fun g w => by kernel_rfl)
  · exact D2.gv_val (fun _ _ _ h => h) (fun g w => by kernel_rfl)
  · exact D2.gv_call 21 #[.int .i64 3, .int .i64 1] (fun _ _ _ h => h) (at_fn 3 1 (by omega) (by omega)) (fun g w => by kernel_rfl)
  · exact D2.gv_val (fun _ _ _ h => h) (fun g w => by kernel_rfl)
  · exact D2.gv_load1 25 (.tmp 32) 2 (fun g => b1) (fun g => 8) (fun g => (Value.cells (svn s))) 26 (0, 0) (fun _ _ _ h => h) (fun g => by kernel_rfl) (fun g => by kernel_rfl) (fun L g hN => (by kernel_rfl)) (by kernel_rfl) (fun L g hN hF => by kernel_rfl)
  · exact D2.gv_valE (fun _ _ _ h => h) (V' := .int .u64 (Go.bits .xor .u64 (((BitVec.toNat (nth s 3) : Nat) : Int)) (((BitVec.toNat (nth s 8) : Nat) : Int)))) (fun g w => by kernel_rfl) (bv_xor_u64 (nth s 3) (nth s 8))
  · exact D2.gv_val (fun _ _ _ h => h) (fun g w => by kernel_rfl)
  · exact D2.gv_store 0 25 (.tmp 35) (.tmp 34) (fun g => b3) (fun g => 3) (Value.cells (cS15 s)) (Value.cells (cS16 s)) 44 (wv ((nth s 3) ^^^ (nth s 8))) (fun g => by kernel_rfl) (fun g => by kernel_rfl) (fun g => by kernel_rfl) (by kernel_rfl) (by kernel_rfl) (fun g => (of_decide_eq_true (by kernel_rfl))) (fun g => (by kernel_rfl)) (fun L g hN => ⟨(by have hL11 : L 11 = false := hN.1; exact D2.ent_get' (p := true) (e := (bif L 11 then (b3, Obj.cells (Value.cells (cS16 s)) 44 (0, 0)) else (b3, Obj.cells (Value.cells (cS15 s)) 44 (0, 0)))) (by kernel_rfl) (by rfl) (by simp only [hL11, cond_true, cond_false] <;> rfl)), (by kernel_rfl)⟩) (fun L g hN hF => hF)
  intro L0 G21 w21 hall HL; clear H20
  have H21 : St w.heap.size w w21 [(b3, Obj.cells (Value.cells (cS16 s)) 44 (0, 0)), (b2, Obj.cells Z25 26 (0, 0)), (b1, Obj.cells (Value.cells (svn s)) 26 (0, 0))] := by have e11 := hall 11 (Nat.le_of_ble_eq_true (by kernel_rfl)); have hS := D2.StE.st HL.1; simp only [e11, cond_true, D2.pres] at hS; exact hS
  clear HL hall
  show WP _ _ _ _ _ _
  refine g_reg0 [0, 1, 2] (by kernel_rfl) ?_
  refine s_val (some 23) (.int .i64 1) (fun w => by kernel_rfl) (by kernel_rfl) ?_
  refine s_val (some 24) (.int .i64 2) (fun w => by kernel_rfl) (by kernel_rfl) ?_
  refine s_val (some 7) (.int .i64 2) (fun w => by kernel_rfl) (by kernel_rfl) ?_
  refine s_nil ?_
  show WPL _ _ _ _ _ _
  refine g_next ?_
  refine g_seq (by kernel_rfl) ?_
  refine g_sreg [0, 1] (by kernel_rfl) (by kernel_rfl) ?_
  refine s_val (some 21) (.int .i64 2) (fun w => by kernel_rfl) (by kernel_rfl) ?_
  refine s_val (some 22) (.bool true) (fun w => by kernel_rfl) (by kernel_rfl) ?_
  refine s_nil ?_
  refine g_cond_t (by kernel_rfl) (by kernel_rfl) ?_
  refine g_skip (by kernel_rfl) ?_
  show WP _ _ _ _ _ _
  refine g_seq (by kernel_rfl) ?_
  refine g_block 3 (by kernel_rfl) ?_
  refine D2.g_draw0 [0, 1, 2, 3, 4, 5, 6, 7, 8, 9, 10, 11] [((some 25), fun _ => .int .i64 3), ((some 26), fun _ => .int .i64 3), ((some 27), fun _ => .pointer (some ⟨b3, 3, none⟩)), ((some 28), fun _ => wv ((nth s 3) ^^^ (nth s 8))), ((some 29), fun _ => .int .i64 3), ((some 30), fun _ => .int .i64 2), ((some 31), fun _ => .int .i64 13), ((some 32), fun _ => .pointer (some ⟨b1, 13, none⟩)), ((some 33), fun _ => wv (nth s 13)), ((some 34), fun _ => wv (((nth s 3) ^^^ (nth s 8)) ^^^ (nth s 13))), ((some 35), fun _ => .pointer (some ⟨b3, 3, none⟩)), (none, fun _ => undef)] (D2.Pre w.heap.size w (fun L g => [(true, (bif L 11 then (b3, Obj.cells (Value.cells (cS17 s)) 44 (0, 0)) else (b3, Obj.cells (Value.cells (cS16 s)) 44 (0, 0)))), (true, (b2, Obj.cells Z25 26 (0, 0))), (true, (b1, Obj.cells (Value.cells (svn s)) 26 (0, 0)))]) (fun L g => True)) (by kernel_rfl) (by kernel_rfl) (by kernel_rfl) ⟨D2.StE.of H21.drew _ (by kernel_rfl), trivial⟩ ⟨?_, ?_, ?_, ?_, ?_, ?_, ?_, ?_, ?_, ?_, ?_, ?_, trivial⟩ ?_
  · exact D2.gv_val (fun _ _ _ h => h) (fun g w => by kernel_rfl)
  · exact D2.gv_val (fun _ _ _ h => h) (fun g w => by kernel_rfl)
  · exact D2.gv_val (fun _ _ _ h => h) (fun g w => by kernel_rfl)
  · exact D2.gv_load1 25 (.tmp 27) 0 (fun g => b3) (fun g => 3) (fun g => (Value.cells (cS16 s))) 44 (0, 0) (fun _ _ _ h => h) (fun g => by kernel_rfl) (fun g => by kernel_rfl) (fun L g hN => (by have hL11 : L 11 = false := (hN.post 11 (by kernel_rfl)); exact D2.ent_get' (p := true) (e := (bif L 11 then (b3, Obj.cells (Value.cells (cS17 s)) 44 (0, 0)) else (b3, Obj.cells (Value.cells (cS16 s)) 44 (0, 0)))) (by kernel_rfl) (by rfl) (by simp only [hL11, cond_true, cond_false] <;> rfl))) (by kernel_rfl) (fun L g hN hF => by kernel_rfl)
  · exact D2.gv_val (fun _ _ _ h => h) (fun g w => by kernel_rfl)
  · exact D2.gv_val (fun _ _ _ h => h) (fun g w => by kernel_rfl)
  · exact D2.gv_call 21 #[.int .i64 3, .int .i64 2] (fun _ _ _ h => h) (at_fn 3 2 (by omega) (by omega)) (fun g w => by kernel_rfl)
  · exact D2.gv_val (fun _ _ _ h => h) (fun g w => by kernel_rfl)
  · exact D2.gv_load1 25 (.tmp 32) 2 (fun g => b1) (fun g => 13) (fun g => (Value.cells (svn s))) 26 (0, 0) (fun _ _ _ h => h) (fun g => by kernel_rfl) (fun g => by kernel_rfl) (fun L g hN => (by kernel_rfl)) (by kernel_rfl) (fun L g hN hF => by kernel_rfl)
  · exact D2.gv_valE (fun _ _ _ h => h) (V' := .int .u64 (Go.bits .xor .u64 (((BitVec.toNat ((nth s 3) ^^^ (nth s 8)) : Nat) : Int)) (((BitVec.toNat (nth s 13) : Nat) : Int)))) (fun g w => by kernel_rfl) (bv_xor_u64 ((nth s 3) ^^^ (nth s 8)) (nth s 13))
  · exact D2.gv_val (fun _ _ _ h => h) (fun g w => by kernel_rfl)
  · exact D2.gv_store 0 25 (.tmp 35) (.tmp 34) (fun g => b3) (fun g => 3) (Value.cells (cS16 s)) (Value.cells (cS17 s)) 44 (wv (((nth s 3) ^^^ (nth s 8)) ^^^ (nth s 13))) (fun g => by kernel_rfl) (fun g => by kernel_rfl) (fun g => by kernel_rfl) (by kernel_rfl) (by kernel_rfl) (fun g => (of_decide_eq_true (by kernel_rfl))) (fun g => (by kernel_rfl)) (fun L g hN => ⟨(by have hL11 : L 11 = false := hN.1; exact D2.ent_get' (p := true) (e := (bif L 11 then (b3, Obj.cells (Value.cells (cS17 s)) 44 (0, 0)) else (b3, Obj.cells (Value.cells (cS16 s)) 44 (0, 0)))) (by kernel_rfl) (by rfl) (by simp only [hL11, cond_true, cond_false] <;> rfl)), (by kernel_rfl)⟩) (fun L g hN hF => hF)
  intro L0 G22 w22 hall HL; clear H21
  have H22 : St w.heap.size w w22 [(b3, Obj.cells (Value.cells (cS17 s)) 44 (0, 0)), (b2, Obj.cells Z25 26 (0, 0)), (b1, Obj.cells (Value.cells (svn s)) 26 (0, 0))] := by have e11 := hall 11 (Nat.le_of_ble_eq_true (by kernel_rfl)); have hS := D2.StE.st HL.1; simp only [e11, cond_true, D2.pres] at hS; exact hS
  clear HL hall
  show WP _ _ _ _ _ _
  refine g_reg0 [0, 1, 2] (by kernel_rfl) ?_
  refine s_val (some 23) (.int .i64 2) (fun w => by kernel_rfl) (by kernel_rfl) ?_
  refine s_val (some 24) (.int .i64 3) (fun w => by kernel_rfl) (by kernel_rfl) ?_
  refine s_val (some 7) (.int .i64 3) (fun w => by kernel_rfl) (by kernel_rfl) ?_
  refine s_nil ?_
  show WPL _ _ _ _ _ _
  refine g_next ?_
  refine g_seq (by kernel_rfl) ?_
  refine g_sreg [0, 1] (by kernel_rfl) (by kernel_rfl) ?_
  refine s_val (some 21) (.int .i64 3) (fun w => by kernel_rfl) (by kernel_rfl) ?_
  refine s_val (some 22) (.bool true) (fun w => by kernel_rfl) (by kernel_rfl) ?_
  refine s_nil ?_
  refine g_cond_t (by kernel_rfl) (by kernel_rfl) ?_
  refine g_skip (by kernel_rfl) ?_
  show WP _ _ _ _ _ _
  refine g_seq (by kernel_rfl) ?_
  refine g_block 3 (by kernel_rfl) ?_
  refine D2.g_draw0 [0, 1, 2, 3, 4, 5, 6, 7, 8, 9, 10, 11] [((some 25), fun _ => .int .i64 3), ((some 26), fun _ => .int .i64 3), ((some 27), fun _ => .pointer (some ⟨b3, 3, none⟩)), ((some 28), fun _ => wv (((nth s 3) ^^^ (nth s 8)) ^^^ (nth s 13))), ((some 29), fun _ => .int .i64 3), ((some 30), fun _ => .int .i64 3), ((some 31), fun _ => .int .i64 18), ((some 32), fun _ => .pointer (some ⟨b1, 18, none⟩)), ((some 33), fun _ => wv (nth s 18)), ((some 34), fun _ => wv ((((nth s 3) ^^^ (nth s 8)) ^^^ (nth s 13)) ^^^ (nth s 18))), ((some 35), fun _ => .pointer (some ⟨b3, 3, none⟩)), (none, fun _ => undef)] (D2.Pre w.heap.size w (fun L g => [(true, (bif L 11 then (b3, Obj.cells (Value.cells (cS18 s)) 44 (0, 0)) else (b3, Obj.cells (Value.cells (cS17 s)) 44 (0, 0)))), (true, (b2, Obj.cells Z25 26 (0, 0))), (true, (b1, Obj.cells (Value.cells (svn s)) 26 (0, 0)))]) (fun L g => True)) (by kernel_rfl) (by kernel_rfl) (by kernel_rfl) ⟨D2.StE.of H22.drew _ (by kernel_rfl), trivial⟩ ⟨?_, ?_, ?_, ?_, ?_, ?_, ?_, ?_, ?_, ?_, ?_, ?_, trivial⟩ ?_
  · exact D2.gv_val (fun _ _ _ h => h) (fun g w => by kernel_rfl)
  · exact D2.gv_val (fun _ _ _ h => h) (fun g w => by kernel_rfl)
  · exact D2.gv_val (fun _ _ _ h => h) (fun g w => by kernel_rfl)
  · exact D2.gv_load1 25 (.tmp 27) 0 (fun g => b3) (fun g => 3) (fun g => (Value.cells (cS17 s))) 44 (0, 0) (fun _ _ _ h => h) (fun g => by kernel_rfl) (fun g => by kernel_rfl) (fun L g hN => (by have hL11 : L 11 = false := (hN.post 11 (by kernel_rfl)); exact D2.ent_get' (p := true) (e := (bif L 11 then (b3, Obj.cells (Value.cells (cS18 s)) 44 (0, 0)) else (b3, Obj.cells (Value.cells (cS17 s)) 44 (0, 0)))) (by kernel_rfl) (by rfl) (by simp only [hL11, cond_true, cond_false] <;> rfl))) (by kernel_rfl) (fun L g hN hF => by kernel_rfl)
  · exact D2.gv_val (fun _ _ _ h => h) (fun g w => by kernel_rfl)
  · exact D2.gv_val (fun _ _ _ h => h) (fun g w => by kernel_rfl)
  · exact D2.gv_call 21 #[.int .i64 3, .int .i64 3] (fun _ _ _ h => h) (at_fn 3 3 (by omega) (by omega)) (fun g w => by kernel_rfl)
  · exact D2.gv_val (fun _ _ _ h => h) (fun g w => by kernel_rfl)
  · exact D2.gv_load1 25 (.tmp 32) 2 (fun g => b1) (fun g => 18) (fun g => (Value.cells (svn s))) 26 (0, 0) (fun _ _ _ h => h) (fun g => by kernel_rfl) (fun g => by kernel_rfl) (fun L g hN => (by kernel_rfl)) (by kernel_rfl) (fun L g hN hF => by kernel_rfl)
  · exact D2.gv_valE (fun _ _ _ h => h) (V' := .int .u64 (Go.bits .xor .u64 (((BitVec.toNat (((nth s 3) ^^^ (nth s 8)) ^^^ (nth s 13)) : Nat) : Int)) (((BitVec.toNat (nth s 18) : Nat) : Int)))) (fun g w => by kernel_rfl) (bv_xor_u64 (((nth s 3) ^^^ (nth s 8)) ^^^ (nth s 13)) (nth s 18))
  · exact D2.gv_val (fun _ _ _ h => h) (fun g w => by kernel_rfl)
  · exact D2.gv_store 0 25 (.tmp 35) (.tmp 34) (fun g => b3) (fun g => 3) (Value.cells (cS17 s)) (Value.cells (cS18 s)) 44 (wv ((((nth s 3) ^^^ (nth s 8)) ^^^ (nth s 13)) ^^^ (nth s 18))) (fun g => by kernel_rfl) (fun g => by kernel_rfl) (fun g => by kernel_rfl) (by kernel_rfl) (by kernel_rfl) (fun g => (of_decide_eq_true (by kernel_rfl))) (fun g => (by kernel_rfl)) (fun L g hN => ⟨(by have hL11 : L 11 = false := hN.1; exact D2.ent_get' (p := true) (e := (bif L 11 then (b3, Obj.cells (Value.cells (cS18 s)) 44 (0, 0)) else (b3, Obj.cells (Value.cells (cS17 s)) 44 (0, 0)))) (by kernel_rfl) (by rfl) (by simp only [hL11, cond_true, cond_false] <;> rfl)), (by kernel_rfl)⟩) (fun L g hN hF => hF)
  intro L0 G23 w23 hall HL; clear H22
  have H23 : St w.heap.size w w23 [(b3, Obj.cells (Value.cells (cS18 s)) 44 (0, 0)), (b2, Obj.cells Z25 26 (0, 0)), (b1, Obj.cells (Value.cells (svn s)) 26 (0, 0))] := by have e11 := hall 11 (Nat.le_of_ble_eq_true (by kernel_rfl)); have hS := D2.StE.st HL.1; simp only [e11, cond_true, D2.pres] at hS; exact hS
  clear HL hall
  show WP _ _ _ _ _ _
  refine g_reg0 [0, 1, 2] (by kernel_rfl) ?_
  refine s_val (some 23) (.int .i64 3) (fun w => by kernel_rfl) (by kernel_rfl) ?_
  refine s_val (some 24) (.int .i64 4) (fun w => by kernel_rfl) (by kernel_rfl) ?_
  refine s_val (some 7) (.int .i64 4) (fun w => by kernel_rfl) (by kernel_rfl) ?_
  refine s_nil ?_
  show WPL _ _ _ _ _ _
  refine g_next ?_
  refine g_seq (by kernel_rfl) ?_
  refine g_sreg [0, 1] (by kernel_rfl) (by kernel_rfl) ?_
  refine s_val (some 21) (.int .i64 4) (fun w => by kernel_rfl) (by kernel_rfl) ?_
  refine s_val (some 22) (.bool true) (fun w => by kernel_rfl) (by kernel_rfl) ?_
  refine s_nil ?_
  refine g_cond_t (by kernel_rfl) (by kernel_rfl) ?_
  refine g_skip (by kernel_rfl) ?_
  show WP _ _ _ _ _ _
  refine g_seq (by kernel_rfl) ?_
  refine g_block 3 (by kernel_rfl) ?_
  refine D2.g_draw0 [0, 1, 2, 3, 4, 5, 6, 7, 8, 9, 10, 11] [((some 25), fun _ => .int .i64 3), ((some 26), fun _ => .int .i64 3), ((some 27), fun _ => .pointer (some ⟨b3, 3, none⟩)), ((some 28), fun _ => wv ((((nth s 3) ^^^ (nth s 8)) ^^^ (nth s 13)) ^^^ (nth s 18))), ((some 29), fun _ => .int .i64 3), ((some 30), fun _ => .int .i64 4), ((some 31), fun _ => .int .i64 23), ((some 32), fun _ => .pointer (some ⟨b1, 23, none⟩)), ((some 33), fun _ => wv (nth s 23)), ((some 34), fun _ => wv (cC s 3)), ((some 35), fun _ => .pointer (some ⟨b3, 3, none⟩)), (none, fun _ => undef)] (D2.Pre w.heap.size w (fun L g => [(true, (bif L 11 then (b3, Obj.cells (Value.cells (cS19 s)) 44 (0, 0)) else (b3, Obj.cells (Value.cells (cS18 s)) 44 (0, 0)))), (true, (b2, Obj.cells Z25 26 (0, 0))), (true, (b1, Obj.cells (Value.cells (svn s)) 26 (0, 0)))]) (fun L g => True)) (by kernel_rfl) (by kernel_rfl) (by kernel_rfl) ⟨D2.StE.of H23.drew _ (by kernel_rfl), trivial⟩ ⟨?_, ?_, ?_, ?_, ?_, ?_, ?_, ?_, ?_, ?_, ?_, ?_, trivial⟩ ?_
  · exact D2.gv_val (fun _ _ _ h => h) (fun g w => by kernel_rfl)
  · exact D2.gv_val (fun _ _ _ h => h) (fun g w => by kernel_rfl)
  · exact D2.gv_val (fun _ _ _ h => h) (fun g w => by kernel_rfl)
  · exact D2.gv_load1 25 (.tmp 27) 0 (fun g => b3) (fun g => 3) (fun g => (Value.cells (cS18 s))) 44 (0, 0) (fun _ _ _ h => h) (fun g => by kernel_rfl) (fun g => by kernel_rfl) (fun L g hN => (by have hL11 : L 11 = false := (hN.post 11 (by kernel_rfl)); exact D2.ent_get' (p := true) (e := (bif L 11 then (b3, Obj.cells (Value.cells (cS19 s)) 44 (0, 0)) else (b3, Obj.cells (Value.cells (cS18 s)) 44 (0, 0)))) (by kernel_rfl) (by rfl) (by simp only [hL11, cond_true, cond_false] <;> rfl))) (by kernel_rfl) (fun L g hN hF => by kernel_rfl)
  · exact D2.gv_val (fun _ _ _ h => h) (fun g w => by kernel_rfl)
  · exact D2.gv_val (fun _ _ _ h => h) (fun g w => by kernel_rfl)
  · exact D2.gv_call 21 #[.int .i64 3, .int .i64 4] (fun _ _ _ h => h) (at_fn 3 4 (by omega) (by omega)) (fun g w => by kernel_rfl)
  · exact D2.gv_val (fun _ _ _ h => h) (fun g w => by kernel_rfl)
  · exact D2.gv_load1 25 (.tmp 32) 2 (fun g => b1) (fun g => 23) (fun g => (Value.cells (svn s))) 26 (0, 0) (fun _ _ _ h => h) (fun g => by kernel_rfl) (fun g => by kernel_rfl) (fun L g hN => (by kernel_rfl)) (by kernel_rfl) (fun L g hN hF => by kernel_rfl)
  · exact D2.gv_valE (fun _ _ _ h => h) (V' := .int .u64 (Go.bits .xor .u64 (((BitVec.toNat ((((nth s 3) ^^^ (nth s 8)) ^^^ (nth s 13)) ^^^ (nth s 18)) : Nat) : Int)) (((BitVec.toNat (nth s 23) : Nat) : Int)))) (fun g w => by kernel_rfl) (bv_xor_u64 ((((nth s 3) ^^^ (nth s 8)) ^^^ (nth s 13)) ^^^ (nth s 18)) (nth s 23))
  · exact D2.gv_val (fun _ _ _ h => h) (fun g w => by kernel_rfl)
  · exact D2.gv_store 0 25 (.tmp 35) (.tmp 34) (fun g => b3) (fun g => 3) (Value.cells (cS18 s)) (Value.cells (cS19 s)) 44 (wv (cC s 3)) (fun g => by kernel_rfl) (fun g => by kernel_rfl) (fun g => by kernel_rfl) (by kernel_rfl) (by kernel_rfl) (fun g => (of_decide_eq_true (by kernel_rfl))) (fun g => (by kernel_rfl)) (fun L g hN => ⟨(by have hL11 : L 11 = false := hN.1; exact D2.ent_get' (p := true) (e := (bif L 11 then (b3, Obj.cells (Value.cells (cS19 s)) 44 (0, 0)) else (b3, Obj.cells (Value.cells (cS18 s)) 44 (0, 0)))) (by kernel_rfl) (by rfl) (by simp only [hL11, cond_true, cond_false] <;> rfl)), (by kernel_rfl)⟩) (fun L g hN hF => hF)
  intro L0 G24 w24 hall HL; clear H23
  have H24 : St w.heap.size w w24 [(b3, Obj.cells (Value.cells (cS19 s)) 44 (0, 0)), (b2, Obj.cells Z25 26 (0, 0)), (b1, Obj.cells (Value.cells (svn s)) 26 (0, 0))] := by have e11 := hall 11 (Nat.le_of_ble_eq_true (by kernel_rfl)); have hS := D2.StE.st HL.1; simp only [e11, cond_true, D2.pres] at hS; exact hS
  clear HL hall
  show WP _ _ _ _ _ _
  refine g_reg0 [0, 1, 2] (by kernel_rfl) ?_
  refine s_val (some 23) (.int .i64 4) (fun w => by kernel_rfl) (by kernel_rfl) ?_
  refine s_val (some 24) (.int .i64 5) (fun w => by kernel_rfl) (by kernel_rfl) ?_
  refine s_val (some 7) (.int .i64 5) (fun w => by kernel_rfl) (by kernel_rfl) ?_
  refine s_nil ?_
  show WPL _ _ _ _ _ _
  refine g_next ?_
  refine g_seq (by kernel_rfl) ?_
  refine g_sreg [0, 1] (by kernel_rfl) (by kernel_rfl) ?_
  refine s_val (some 21) (.int .i64 5) (fun w => by kernel_rfl) (by kernel_rfl) ?_
  refine s_val (some 22) (.bool false) (fun w => by kernel_rfl) (by kernel_rfl) ?_
  refine s_nil ?_
  refine g_cond_f (by kernel_rfl) (by kernel_rfl) ?_
  refine g_exit 2 (by kernel_rfl) ?_
  show WP _ _ _ _ _ _
  refine g_reg0 [0, 1, 2] (by kernel_rfl) ?_
  refine s_val (some 19) (.int .i64 3) (fun w => by kernel_rfl) (by kernel_rfl) ?_
  refine s_val (some 20) (.int .i64 4) (fun w => by kernel_rfl) (by kernel_rfl) ?_
  refine s_val (some 6) (.int .i64 4) (fun w => by kernel_rfl) (by kernel_rfl) ?_
  refine s_nil ?_
  show WPL _ _ _ _ _ _
  refine g_next ?_
  refine g_seq (by kernel_rfl) ?_
  refine g_sreg [0, 1] (by kernel_rfl) (by kernel_rfl) ?_
  refine s_val (some 17) (.int .i64 4) (fun w => by kernel_rfl) (by kernel_rfl) ?_
  refine s_val (some 18) (.bool true) (fun w => by kernel_rfl) (by kernel_rfl) ?_
  refine s_nil ?_
  refine g_cond_t (by kernel_rfl) (by kernel_rfl) ?_
  refine g_skip (by kernel_rfl) ?_
  show WP _ _ _ _ _ _
  refine g_seq (by kernel_rfl) ?_
  refine g_block 1 (by kernel_rfl) ?_
  refine g_sreg [0] (by kernel_rfl) (by kernel_rfl) ?_
  refine s_val (some 7) (.int .i64 0) (fun w => by kernel_rfl) (by kernel_rfl) ?_
  refine s_nil ?_
  refine g_block 2 (by kernel_rfl) ?_
  refine g_first (by kernel_rfl) ?_
  refine g_seq (by kernel_rfl) ?_
  refine g_sreg [0, 1] (by kernel_rfl) (by kernel_rfl) ?_
  refine s_val (some 21) (.int .i64 0) (fun w => by kernel_rfl) (by kernel_rfl) ?_
  refine s_val (some 22) (.bool true) (fun w => by kernel_rfl) (by kernel_rfl) ?_
  refine s_nil ?_
  refine g_cond_t (by kernel_rfl) (by kernel_rfl) ?_
  refine g_skip (by kernel_rfl) ?_
  show WP _ _ _ _ _ _
  refine g_seq (by kernel_rfl) ?_
  refine g_block 3 (by kernel_rfl) ?_
  refine D2.g_draw0 [0, 1, 2, 3, 4, 5, 6, 7, 8, 9, 10, 11] [((some 25), fun _ => .int .i64 4), ((some 26), fun _ => .int .i64 4), ((some 27), fun _ => .pointer (some ⟨b3, 4, none⟩)), ((some 28), fun _ => .int .u64 0), ((some 29), fun _ => .int .i64 4), ((some 30), fun _ => .int .i64 0), ((some 31), fun _ => .int .i64 4), ((some 32), fun _ => .pointer (some ⟨b1, 4, none⟩)), ((some 33), fun _ => wv (nth s 4)), ((some 34), fun _ => wv (nth s 4)), ((some 35), fun _ => .pointer (some ⟨b3, 4, none⟩)), (none, fun _ => undef)] (D2.Pre w.heap.size w (fun L g => [(true, (bif L 11 then (b3, Obj.cells (Value.cells (cS20 s)) 44 (0, 0)) else (b3, Obj.cells (Value.cells (cS19 s)) 44 (0, 0)))), (true, (b2, Obj.cells Z25 26 (0, 0))), (true, (b1, Obj.cells (Value.cells (svn s)) 26 (0, 0)))]) (fun L g => True)) (by kernel_rfl) (by kernel_rfl) (by kernel_rfl) ⟨D2.StE.of H24.drew _ (by kernel_rfl), trivial⟩ ⟨?_, ?_, ?_, ?_, ?_, ?_, ?_, ?_, ?_, ?_, ?_, ?_, trivial⟩ ?_
  · exact D2.gv_val (fun _ _ _ h => h) (fun g w => by kernel_rfl)
  · exact D2.gv_val (fun _ _ _ h => h) (fun g w => by kernel_rfl)
  · exact D2.gv_val (fun _ _ _ h => h) (fun g w => by kernel_rfl)
  · exact D2.gv_load1 25 (.tmp 27) 0 (fun g => b3) (fun g => 4) (fun g => (Value.cells (cS19 s))) 44 (0, 0) (fun _ _ _ h => h) (fun g => by kernel_rfl) (fun g => by kernel_rfl) (fun L g hN => (by have hL11 : L 11 = false := (hN.post 11 (by kernel_rfl)); exact D2.ent_get' (p := true) (e := (bif L 11 then (b3, Obj.cells (Value.cells (cS20 s)) 44 (0, 0)) else (b3, Obj.cells (Value.cells (cS19 s)) 44 (0, 0)))) (by kernel_rfl) (by rfl) (by simp only [hL11, cond_true, cond_false] <;> rfl))) (by kernel_rfl) (fun L g hN hF => by kernel_rfl)
  · exact D2.gv_val (fun _ _ _ h => h) (fun g w => by kernel_rfl)
  · exact D2.gv_val (fun _ _ _ h => h) (fun g w => by kernel_rfl)
  · exact D2.gv_call 21 #[.int .i64 4, .int .i64 0] (fun _ _ _ h => h) (at_fn 4 0 (by omega) (by omega)) (fun g w => by kernel_rfl)
  · exact D2.gv_val (fun _ _ _ h => h) (fun g w => by kernel_rfl)
  · exact D2.gv_load1 25 (.tmp 32) 2 (fun g => b1) (fun g => 4) (fun g => (Value.cells (svn s))) 26 (0, 0) (fun _ _ _ h => h) (fun g => by kernel_rfl) (fun g => by kernel_rfl) (fun L g hN => (by kernel_rfl)) (by kernel_rfl) (fun L g hN hF => by kernel_rfl)
  · exact D2.gv_valE (fun _ _ _ h => h) (V' := .int .u64 (Go.bits .xor .u64 (0) (((BitVec.toNat (nth s 4) : Nat) : Int)))) (fun g w => by kernel_rfl) ((bv_xor_u64 (0 : BitVec 64) (nth s 4)).trans (bv_congr (zero_x (nth s 4))))
  · exact D2.gv_val (fun _ _ _ h => h) (fun g w => by kernel_rfl)
  · exact D2.gv_store 0 25 (.tmp 35) (.tmp 34) (fun g => b3) (fun g => 4) (Value.cells (cS19 s)) (Value.cells (cS20 s)) 44 (wv (nth s 4)) (fun g => by kernel_rfl) (fun g => by kernel_rfl) (fun g => by kernel_rfl) (by kernel_rfl) (by kernel_rfl) (fun g => (of_decide_eq_true (by kernel_rfl))) (fun g => (by kernel_rfl)) (fun L g hN => ⟨(by have hL11 : L 11 = false := hN.1; exact D2.ent_get' (p := true) (e := (bif L 11 then (b3, Obj.cells (Value.cells (cS20 s)) 44 (0, 0)) else (b3, Obj.cells (Value.cells (cS19 s)) 44 (0, 0)))) (by kernel_rfl) (by rfl) (by simp only [hL11, cond_true, cond_false] <;> rfl)), (by kernel_rfl)⟩) (fun L g hN hF => hF)
  intro L0 G25 w25 hall HL; clear H24
  have H25 : St w.heap.size w w25 [(b3, Obj.cells (Value.cells (cS20 s)) 44 (0, 0)), (b2, Obj.cells Z25 26 (0, 0)), (b1, Obj.cells (Value.cells (svn s)) 26 (0, 0))] := by have e11 := hall 11 (Nat.le_of_ble_eq_true (by kernel_rfl)); have hS := D2.StE.st HL.1; simp only [e11, cond_true, D2.pres] at hS; exact hS
  clear HL hall
  show WP _ _ _ _ _ _
  refine g_reg0 [0, 1, 2] (by kernel_rfl) ?_
  refine s_val (some 23) (.int .i64 0) (fun w => by kernel_rfl) (by kernel_rfl) ?_
  refine s_val (some 24) (.int .i64 1) (fun w => by kernel_rfl) (by kernel_rfl) ?_
  refine s_val (some 7) (.int .i64 1) (fun w => by kernel_rfl) (by kernel_rfl) ?_
  refine s_nil ?_
  show WPL _ _ _ _ _ _
  refine g_next ?_
  refine g_seq (by kernel_rfl) ?_
  refine g_sreg [0, 1] (by kernel_rfl) (by kernel_rfl) ?_
  refine s_val (some 21) (.int .i64 1) (fun w => by kernel_rfl) (by kernel_rfl) ?_
  refine s_val (some 22) (.bool true) (fun w => by kernel_rfl) (by kernel_rfl) ?_
  refine s_nil ?_
  refine g_cond_t (by kernel_rfl) (by kernel_rfl) ?_
  refine g_skip (by kernel_rfl) ?_
  show WP _ _ _ _ _ _
  refine g_seq (by kernel_rfl) ?_
  refine g_block 3 (by kernel_rfl) ?_
  refine D2.g_draw0 [0, 1, 2, 3, 4, 5, 6, 7, 8, 9, 10, 11] [((some 25), fun _ => .int .i64 4), ((some 26), fun _ => .int .i64 4), ((some 27), fun _ => .pointer (some ⟨b3, 4, none⟩)), ((some 28), fun _ => wv (nth s 4)), ((some 29), fun _ => .int .i64 4), ((some 30), fun _ => .int .i64 1), ((some 31), fun _ => .int .i64 9), ((some 32), fun _ => .pointer (some ⟨b1, 9, none⟩)), ((some 33), fun _ => wv (nth s 9)), ((some 34), fun _ => wv ((nth s 4) ^^^ (nth s 9))), ((some 35), fun _ => .pointer (some ⟨b3, 4, none⟩)), (none, fun _ => undef)] (D2.Pre w.heap.size w (fun L g => [(true, (bif L 11 then (b3, Obj.cells (Value.cells (cS21 s)) 44 (0, 0)) else (b3, Obj.cells (Value.cells (cS20 s)) 44 (0, 0)))), (true, (b2, Obj.cells Z25 26 (0, 0))), (true, (b1, Obj.cells (Value.cells (svn s)) 26 (0, 0)))]) (fun L g => True)) (by kernel_rfl) (by kernel_rfl) (by kernel_rfl) ⟨D2.StE.of H25.drew _ (by kernel_rfl), trivial⟩ ⟨?_, ?_, ?_, ?_, ?_, ?_, ?_, ?_, ?_, ?_, ?_, ?_, trivial⟩ ?_
  · exact D2.gv_val (fun _ _ _ h => h) (fun g w => by kernel_rfl)
  · exact D2.gv_val (fun _ _ _ h => h) (fun g w => by kernel_rfl)
  · exact D2.gv_val (fun _ _ _ h => h) (fun g w => by kernel_rfl)
  · exact D2.gv_load1 25 (.tmp 27) 0 (fun g => b3) (fun g => 4) (fun g => (Value.cells (cS20 s))) 44 (0, 0) (fun _ _ _ h => h) (fun g => by kernel_rfl) (fun g => by kernel_rfl) (fun L g hN => (by have hL11 : L 11 = false := (hN.post 11 (by kernel_rfl)); exact D2.ent_get' (p := true) (e := (bif L 11 then (b3, Obj.cells (Value.cells (cS21 s)) 44 (0, 0)) else (b3, Obj.cells (Value.cells (cS20 s)) 44 (0, 0)))) (by kernel_rfl) (by rfl) (by simp only [hL11, cond_true, cond_false] <;> rfl))) (by kernel_rfl) (fun L g hN hF => by kernel_rfl)
  · exact D2.gv_val (fun _ _ _ h => h) (fun g w => by kernel_rfl)
  · exact D2.gv_val (fun _ _ _ h => h) (fun g w => by kernel_rfl)
  · exact D2.gv_call 21 #[.int .i64 4, .int .i64 1] (fun _ _ _ h => h) (at_fn 4 1 (by omega) (by omega)) (fun g w => by kernel_rfl)
  · exact D2.gv_val (fun _ _ _ h => h) (fun g w => by kernel_rfl)
  · exact D2.gv_load1 25 (.tmp 32) 2 (fun g => b1) (fun g => 9) (fun g => (Value.cells (svn s))) 26 (0, 0) (fun _ _ _ h => h) (fun g => by kernel_rfl) (fun g => by kernel_rfl) (fun L g hN => (by kernel_rfl)) (by kernel_rfl) (fun L g hN hF => by kernel_rfl)
  · exact D2.gv_valE (fun _ _ _ h => h) (V' := .int .u64 (Go.bits .xor .u64 (((BitVec.toNat (nth s 4) : Nat) : Int)) (((BitVec.toNat (nth s 9) : Nat) : Int)))) (fun g w => by kernel_rfl) (bv_xor_u64 (nth s 4) (nth s 9))
  · exact D2.gv_val (fun _ _ _ h => h) (fun g w => by kernel_rfl)
  · exact D2.gv_store 0 25 (.tmp 35) (.tmp 34) (fun g => b3) (fun g => 4) (Value.cells (cS20 s)) (Value.cells (cS21 s)) 44 (wv ((nth s 4) ^^^ (nth s 9))) (fun g => by kernel_rfl) (fun g => by kernel_rfl) (fun g => by kernel_rfl) (by kernel_rfl) (by kernel_rfl) (fun g => (of_decide_eq_true (by kernel_rfl))) (fun g => (by kernel_rfl)) (fun L g hN => ⟨(by have hL11 : L 11 = false := hN.1; exact D2.ent_get' (p := true) (e := (bif L 11 then (b3, Obj.cells (Value.cells (cS21 s)) 44 (0, 0)) else (b3, Obj.cells (Value.cells (cS20 s)) 44 (0, 0)))) (by kernel_rfl) (by rfl) (by simp only [hL11, cond_true, cond_false] <;> rfl)), (by kernel_rfl)⟩) (fun L g hN hF => hF)
  intro L0 G26 w26 hall HL; clear H25
  have H26 : St w.heap.size w w26 [(b3, Obj.cells (Value.cells (cS21 s)) 44 (0, 0)), (b2, Obj.cells Z25 26 (0, 0)), (b1, Obj.cells (Value.cells (svn s)) 26 (0, 0))] := by have e11 := hall 11 (Nat.le_of_ble_eq_true (by kernel_rfl)); have hS := D2.StE.st HL.1; simp only [e11, cond_true, D2.pres] at hS; exact hS
  clear HL hall
  show WP _ _ _ _ _ _
  refine g_reg0 [0, 1, 2] (by kernel_rfl) ?_
  refine s_val (some 23) (.int .i64 1) (fun w => by kernel_rfl) (by kernel_rfl) ?_
  refine s_val (some 24) (.int .i64 2) (fun w => by kernel_rfl) (by kernel_rfl) ?_
  refine s_val (some 7) (.int .i64 2) (fun w => by kernel_rfl) (by kernel_rfl) ?_
  refine s_nil ?_
  show WPL _ _ _ _ _ _
  refine g_next ?_
  refine g_seq (by kernel_rfl) ?_
  refine g_sreg [0, 1] (by kernel_rfl) (by kernel_rfl) ?_
  refine s_val (some 21) (.int .i64 2) (fun w => by kernel_rfl) (by kernel_rfl) ?_
  refine s_val (some 22) (.bool true) (fun w => by kernel_rfl) (by kernel_rfl) ?_
  refine s_nil ?_
  refine g_cond_t (by kernel_rfl) (by kernel_rfl) ?_
  refine g_skip (by kernel_rfl) ?_
  show WP _ _ _ _ _ _
  refine g_seq (by kernel_rfl) ?_
  refine g_block 3 (by kernel_rfl) ?_
  refine D2.g_draw0 [0, 1, 2, 3, 4, 5, 6, 7, 8, 9, 10, 11] [((some 25), fun _ => .int .i64 4), ((some 26), fun _ => .int .i64 4), ((some 27), fun _ => .pointer (some ⟨b3, 4, none⟩)), ((some 28), fun _ => wv ((nth s 4) ^^^ (nth s 9))), ((some 29), fun _ => .int .i64 4), ((some 30), fun _ => .int .i64 2), ((some 31), fun _ => .int .i64 14), ((some 32), fun _ => .pointer (some ⟨b1, 14, none⟩)), ((some 33), fun _ => wv (nth s 14)), ((some 34), fun _ => wv (((nth s 4) ^^^ (nth s 9)) ^^^ (nth s 14))), ((some 35), fun _ => .pointer (some ⟨b3, 4, none⟩)), (none, fun _ => undef)] (D2.Pre w.heap.size w (fun L g => [(true, (bif L 11 then (b3, Obj.cells (Value.cells (cS22 s)) 44 (0, 0)) else (b3, Obj.cells (Value.cells (cS21 s)) 44 (0, 0)))), (true, (b2, Obj.cells Z25 26 (0, 0))), (true, (b1, Obj.cells (Value.cells (svn s)) 26 (0, 0)))]) (fun L g => True)) (by kernel_rfl) (by kernel_rfl) (by kernel_rfl) ⟨D2.StE.of H26.drew _ (by kernel_rfl), trivial⟩ ⟨?_, ?_, ?_, ?_, ?_, ?_, ?_, ?_, ?_, ?_, ?_, ?_, trivial⟩ ?_
  · exact D2.gv_val (fun _ _ _ h => h) (fun g w => by kernel_rfl)
  · exact D2.gv_val (fun _ _ _ h => h) (fun g w => by kernel_rfl)
  · exact D2.gv_val (fun _ _ _ h => h) (fun g w => by kernel_rfl)
  · exact D2.gv_load1 25 (.tmp 27) 0 (fun g => b3) (fun g => 4) (fun g => (Value.cells (cS21 s))) 44 (0, 0) (fun _ _ _ h => h) (fun g => by kernel_rfl) (fun g => by kernel_rfl) (fun L g hN => (by have hL11 : L 11 = false := (hN.post 11 (by kernel_rfl)); exact D2.ent_get' (p := true) (e := (bif L 11 then (b3, Obj.cells (Value.cells (cS22 s)) 44 (0, 0)) else (b3, Obj.cells (Value.cells (cS21 s)) 44 (0, 0)))) (by kernel_rfl) (by rfl) (by simp only [hL11, cond_true, cond_false] <;> rfl))) (by kernel_rfl) (fun L g hN hF => by kernel_rfl)
  · exact D2.gv_val (fun _ _ _ h => h) (fun g w => by kernel_rfl)
  · exact D2.gv_val (fun _ _ _ h => h) (fun g w => by kernel_rfl)
  · exact D2.gv_call 21 #[.int .i64 4, .int .i64 2] (fun _ _ _ h => h) (at_fn 4 2 (by omega) (by omega)) (fun g w => by kernel_rfl)
  · exact D2.gv_val (fun _ _ _ h => h) (fun g w => by kernel_rfl)
  · exact D2.gv_load1 25 (.tmp 32) 2 (fun g => b1) (fun g => 14) (fun g => (Value.cells (svn s))) 26 (0, 0) (fun _ _ _ h => h) (fun g => by kernel_rfl) (fun g => by kernel_rfl) (fun L g hN => (by kernel_rfl)) (by kernel_rfl) (fun L g hN hF => by kernel_rfl)
  · exact D2.gv_valE (fun _ _ _ h => h) (V' := .int .u64 (Go.bits .xor .u64 (((BitVec.toNat ((nth s 4) ^^^ (nth s 9)) : Nat) : Int)) (((BitVec.toNat (nth s 14) : Nat) : Int)))) (fun g w => by kernel_rfl) (bv_xor_u64 ((nth s 4) ^^^ (nth s 9)) (nth s 14))
  · exact D2.gv_val (fun _ _ _ h => h) (fun g w => by kernel_rfl)
  · exact D2.gv_store 0 25 (.tmp 35) (.tmp 34) (fun g => b3) (fun g => 4) (Value.cells (cS21 s)) (Value.cells (cS22 s)) 44 (wv (((nth s 4) ^^^ (nth s 9)) ^^^ (nth s 14))) (fun g => by kernel_rfl) (fun g => by kernel_rfl) (fun g => by kernel_rfl) (by kernel_rfl) (by kernel_rfl) (fun g => (of_decide_eq_true (by kernel_rfl))) (fun g => (by kernel_rfl)) (fun L g hN => ⟨(by have hL11 : L 11 = false := hN.1; exact D2.ent_get' (p := true) (e := (bif L 11 then (b3, Obj.cells (Value.cells (cS22 s)) 44 (0, 0)) else (b3, Obj.cells (Value.cells (cS21 s)) 44 (0, 0)))) (by kernel_rfl) (by rfl) (by simp only [hL11, cond_true, cond_false] <;> rfl)), (by kernel_rfl)⟩) (fun L g hN hF => hF)
  intro L0 G27 w27 hall HL; clear H26
  have H27 : St w.heap.size w w27 [(b3, Obj.cells (Value.cells (cS22 s)) 44 (0, 0)), (b2, Obj.cells Z25 26 (0, 0)), (b1, Obj.cells (Value.cells (svn s)) 26 (0, 0))] := by have e11 := hall 11 (Nat.le_of_ble_eq_true (by kernel_rfl)); have hS := D2.StE.st HL.1; simp only [e11, cond_true, D2.pres] at hS; exact hS
  clear HL hall
  show WP _ _ _ _ _ _
  refine g_reg0 [0, 1, 2] (by kernel_rfl) ?_
  refine s_val (some 23) (.int .i64 2) (fun w => by kernel_rfl) (by kernel_rfl) ?_
  refine s_val (some 24) (.int .i64 3) (fun w => by kernel_rfl) (by kernel_rfl) ?_
  refine s_val (some 7) (.int .i64 3) (fun w => by kernel_rfl) (by kernel_rfl) ?_
  refine s_nil ?_
  show WPL _ _ _ _ _ _
  refine g_next ?_
  refine g_seq (by kernel_rfl) ?_
  refine g_sreg [0, 1] (by kernel_rfl) (by kernel_rfl) ?_
  refine s_val (some 21) (.int .i64 3) (fun w => by kernel_rfl) (by kernel_rfl) ?_
  refine s_val (some 22) (.bool true) (fun w => by kernel_rfl) (by kernel_rfl) ?_
  refine s_nil ?_
  refine g_cond_t (by kernel_rfl) (by kernel_rfl) ?_
  refine g_skip (by kernel_rfl) ?_
  show WP _ _ _ _ _ _
  refine g_seq (by kernel_rfl) ?_
  refine g_block 3 (by kernel_rfl) ?_
  refine D2.g_draw0 [0, 1, 2, 3, 4, 5, 6, 7, 8, 9, 10, 11] [((some 25), fun _ => .int .i64 4), ((some 26), fun _ => .int .i64 4), ((some 27), fun _ => .pointer (some ⟨b3, 4, none⟩)), ((some 28), fun _ => wv (((nth s 4) ^^^ (nth s 9)) ^^^ (nth s 14))), ((some 29), fun _ => .int .i64 4), ((some 30), fun _ => .int .i64 3), ((some 31), fun _ => .int .i64 19), ((some 32), fun _ => .pointer (some ⟨b1, 19, none⟩)), ((some 33), fun _ => wv (nth s 19)), ((some 34), fun _ => wv ((((nth s 4) ^^^ (nth s 9)) ^^^ (nth s 14)) ^^^ (nth s 19))), ((some 35), fun _ => .pointer (some ⟨b3, 4, none⟩)), (none, fun _ => undef)] (D2.Pre w.heap.size w (fun L g => [(true, (bif L 11 then (b3, Obj.cells (Value.cells (cS23 s)) 44 (0, 0)) else (b3, Obj.cells (Value.cells (cS22 s)) 44 (0, 0)))), (true, (b2, Obj.cells Z25 26 (0, 0))), (true, (b1, Obj.cells (Value.cells (svn s)) 26 (0, 0)))]) (fun L g => True)) (by kernel_rfl) (by kernel_rfl) (by kernel_rfl) ⟨D2.StE.of H27.drew _ (by kernel_rfl), trivial⟩ ⟨?_, ?_, ?_, ?_, ?_, ?_, ?_, ?_, ?_, ?_, ?_, ?_, trivial⟩ ?_
  · exact D2.gv_val (fun _ _ _ h => h) (fun g w => by kernel_rfl)
  · exact D2.gv_val (fun _ _ _ h => h) (fun g w => by kernel_rfl)
  · exact D2.gv_val (fun _ _ _ h => h) (fun g w => by kernel_rfl)
  · exact D2.gv_load1 25 (.tmp 27) 0 (fun g => b3) (fun g => 4) (fun g => (Value.cells (cS22 s))) 44 (0, 0) (fun _ _ _ h => h) (fun g => by kernel_rfl) (fun g => by kernel_rfl) (fun L g hN => (by have hL11 : L 11 = false := (hN.post 11 (by kernel_rfl)); exact D2.ent_get' (p := true) (e := (bif L 11 then (b3, Obj.cells (Value.cells (cS23 s)) 44 (0, 0)) else (b3, Obj.cells (Value.cells (cS22 s)) 44 (0, 0)))) (by kernel_rfl) (by rfl) (by simp only [hL11, cond_true, cond_false] <;> rfl))) (by kernel_rfl) (fun L g hN hF => by kernel_rfl)
  · exact D2.gv_val (fun _ _ _ h => h) (fun g w => by kernel_rfl)
  · exact D2.gv_val (fun _ _ _ h => h) (fun g w => by kernel_rfl)
  · exact D2.gv_call 21 #[.int .i64 4, .int .i64 3] (fun _ _ _ h => h) (at_fn 4 3 (by omega) (by omega)) (fun g w => by kernel_rfl)
  · exact D2.gv_val (fun _ _ _ h => h) (fun g w => by kernel_rfl)
  · exact D2.gv_load1 25 (.tmp 32) 2 (fun g => b1) (fun g => 19) (fun g => (Value.cells (svn s))) 26 (0, 0) (fun _ _ _ h => h) (fun g => by kernel_rfl) (fun g => by kernel_rfl) (fun L g hN => (by kernel_rfl)) (by kernel_rfl) (fun L g hN hF => by kernel_rfl)
  · exact D2.gv_valE (fun _ _ _ h => h) (V' := .int .u64 (Go.bits .xor .u64 (((BitVec.toNat (((nth s 4) ^^^ (nth s 9)) ^^^ (nth s 14)) : Nat) : Int)) (((BitVec.toNat (nth s 19) : Nat) : Int)))) (fun g w => by kernel_rfl) (bv_xor_u64 (((nth s 4) ^^^ (nth s 9)) ^^^ (nth s 14)) (nth s 19))
  · exact D2.gv_val (fun _ _ _ h => h) (fun g w => by kernel_rfl)
  · exact D2.gv_store 0 25 (.tmp 35) (.tmp 34) (fun g => b3) (fun g => 4) (Value.cells (cS22 s)) (Value.cells (cS23 s)) 44 (wv ((((nth s 4) ^^^ (nth s 9)) ^^^ (nth s 14)) ^^^ (nth s 19))) (fun g => by kernel_rfl) (fun g => by kernel_rfl) (fun g => by kernel_rfl) (by kernel_rfl) (by kernel_rfl) (fun g => (of_decide_eq_true (by kernel_rfl))) (fun g => (by kernel_rfl)) (fun L g hN => ⟨(by have hL11 : L 11 = false := hN.1; exact D2.ent_get' (p := true) (e := (bif L 11 then (b3, Obj.cells (Value.cells (cS23 s)) 44 (0, 0)) else (b3, Obj.cells (Value.cells (cS22 s)) 44 (0, 0)))) (by kernel_rfl) (by rfl) (by simp only [hL11, cond_true, cond_false] <;> rfl)), (by kernel_rfl)⟩) (fun L g hN hF => hF)
  intro L0 G28 w28 hall HL; clear H27
  have H28 : St w.heap.size w w28 [(b3, Obj.cells (Value.cells (cS23 s)) 44 (0, 0)), (b2, Obj.cells Z25 26 (0, 0)), (b1, Obj.cells (Value.cells (svn s)) 26 (0, 0))] := by have e11 := hall 11 (Nat.le_of_ble_eq_true (by kernel_rfl)); have hS := D2.StE.st HL.1; simp only [e11, cond_true, D2.pres] at hS; exact hS
  clear HL hall
  show WP _ _ _ _ _ _
  refine g_reg0 [0, 1, 2] (by kernel_rfl) ?_
  refine s_val (some 23) (.int .i64 3) (fun w => by kernel_rfl) (by kernel_rfl) ?_
  refine s_val (some 24) (.int .i64 4) (fun w => by kernel_rfl) (by kernel_rfl) ?_
  refine s_val (some 7) (.int .i64 4) (fun w => by kernel_rfl) (by kernel_rfl) ?_
  refine s_nil ?_
  show WPL _ _ _ _ _ _
  refine g_next ?_
  refine g_seq (by kernel_rfl) ?_
  refine g_sreg [0, 1] (by kernel_rfl) (by kernel_rfl) ?_
  refine s_val (some 21) (.int .i64 4) (fun w => by kernel_rfl) (by kernel_rfl) ?_
  refine s_val (some 22) (.bool true) (fun w => by kernel_rfl) (by kernel_rfl) ?_
  refine s_nil ?_
  refine g_cond_t (by kernel_rfl) (by kernel_rfl) ?_
  refine g_skip (by kernel_rfl) ?_
  show WP _ _ _ _ _ _
  refine g_seq (by kernel_rfl) ?_
  refine g_block 3 (by kernel_rfl) ?_
  refine D2.g_draw0 [0, 1, 2, 3, 4, 5, 6, 7, 8, 9, 10, 11] [((some 25), fun _ => .int .i64 4), ((some 26), fun _ => .int .i64 4), ((some 27), fun _ => .pointer (some ⟨b3, 4, none⟩)), ((some 28), fun _ => wv ((((nth s 4) ^^^ (nth s 9)) ^^^ (nth s 14)) ^^^ (nth s 19))), ((some 29), fun _ => .int .i64 4), ((some 30), fun _ => .int .i64 4), ((some 31), fun _ => .int .i64 24), ((some 32), fun _ => .pointer (some ⟨b1, 24, none⟩)), ((some 33), fun _ => wv (nth s 24)), ((some 34), fun _ => wv (cC s 4)), ((some 35), fun _ => .pointer (some ⟨b3, 4, none⟩)), (none, fun _ => undef)] (D2.Pre w.heap.size w (fun L g => [(true, (bif L 11 then (b3, Obj.cells (Value.cells (cS24 s)) 44 (0, 0)) else (b3, Obj.cells (Value.cells (cS23 s)) 44 (0, 0)))), (true, (b2, Obj.cells Z25 26 (0, 0))), (true, (b1, Obj.cells (Value.cells (svn s)) 26 (0, 0)))]) (fun L g => True)) (by kernel_rfl) (by kernel_rfl) (by kernel_rfl) ⟨D2.StE.of H28.drew _ (by kernel_rfl), trivial⟩ ⟨?_, ?_, ?_, ?_, ?_, ?_, ?_, ?_, ?_, ?_, ?_, ?_, trivial⟩ ?_
  · exact D2.gv_val (fun _ _ _ h => h) (fun g w => by kernel_rfl)
  · exact D2.gv_val (fun _ _ _ h => h) (fun g w => by kernel_rfl)
  · exact D2.gv_val (fun _ _ _ h => h) (fun g w => by kernel_rfl)
  · exact D2.gv_load1 25 (.tmp 27) 0 (fun g => b3) (fun g => 4) (fun g => (Value.cells (cS23 s))) 44 (0, 0) (fun _ _ _ h => h) (fun g => by kernel_rfl) (fun g => by kernel_rfl) (fun L g hN => (by have hL11 : L 11 = false := (hN.post 11 (by kernel_rfl)); exact D2.ent_get' (p := true) (e := (bif L 11 then (b3, Obj.cells (Value.cells (cS24 s)) 44 (0, 0)) else (b3, Obj.cells (Value.cells (cS23 s)) 44 (0, 0)))) (by kernel_rfl) (by rfl) (by simp only [hL11, cond_true, cond_false] <;> rfl))) (by kernel_rfl) (fun L g hN hF => by kernel_rfl)
  · exact D2.gv_val (fun _ _ _ h => h) (fun g w => by kernel_rfl)
  · exact D2.gv_val (fun _ _ _ h => h) (fun g w => by kernel_rfl)
  · exact D2.gv_call 21 #[.int .i64 4, .int .i64 4] (fun _ _ _ h => h) (at_fn 4 4 (by omega) (by omega)) (fun g w => by kernel_rfl)
  · exact D2.gv_val (fun _ _ _ h => h) (fun g w => by kernel_rfl)
  · exact D2.gv_load1 25 (.tmp 32) 2 (fun g => b1) (fun g => 24) (fun g => (Value.cells (svn s))) 26 (0, 0) (fun _ _ _ h => h) (fun g => by kernel_rfl) (fun g => by kernel_rfl) (fun L g hN => (by kernel_rfl)) (by kernel_rfl) (fun L g hN hF => by kernel_rfl)
  · exact D2.gv_valE (fun _ _ _ h => h) (V' := .int .u64 (Go.bits .xor .u64 (((BitVec.toNat ((((nth s 4) ^^^ (nth s 9)) ^^^ (nth s 14)) ^^^ (nth s 19)) : Nat) : Int)) (((BitVec.toNat (nth s 24) : Nat) : Int)))) (fun g w => by kernel_rfl) (bv_xor_u64 ((((nth s 4) ^^^ (nth s 9)) ^^^ (nth s 14)) ^^^ (nth s 19)) (nth s 24))
  · exact D2.gv_val (fun _ _ _ h => h) (fun g w => by kernel_rfl)
  · exact D2.gv_store 0 25 (.tmp 35) (.tmp 34) (fun g => b3) (fun g => 4) (Value.cells (cS23 s)) (Value.cells (cS24 s)) 44 (wv (cC s 4)) (fun g => by kernel_rfl) (fun g => by kernel_rfl) (fun g => by kernel_rfl) (by kernel_rfl) (by kernel_rfl) (fun g => (of_decide_eq_true (by kernel_rfl))) (fun g => (by kernel_rfl)) (fun L g hN => ⟨(by have hL11 : L 11 = false := hN.1; exact D2.ent_get' (p := true) (e := (bif L 11 then (b3, Obj.cells (Value.cells (cS24 s)) 44 (0, 0)) else (b3, Obj.cells (Value.cells (cS23 s)) 44 (0, 0)))) (by kernel_rfl) (by rfl) (by simp only [hL11, cond_true, cond_false] <;> rfl)), (by kernel_rfl)⟩) (fun L g hN hF => hF)
  intro L0 G29 w29 hall HL; clear H28
  have H29 : St w.heap.size w w29 [(b3, Obj.cells (Value.cells (cS24 s)) 44 (0, 0)), (b2, Obj.cells Z25 26 (0, 0)), (b1, Obj.cells (Value.cells (svn s)) 26 (0, 0))] := by have e11 := hall 11 (Nat.le_of_ble_eq_true (by kernel_rfl)); have hS := D2.StE.st HL.1; simp only [e11, cond_true, D2.pres] at hS; exact hS
  clear HL hall
  show WP _ _ _ _ _ _
  refine g_reg0 [0, 1, 2] (by kernel_rfl) ?_
  refine s_val (some 23) (.int .i64 4) (fun w => by kernel_rfl) (by kernel_rfl) ?_
  refine s_val (some 24) (.int .i64 5) (fun w => by kernel_rfl) (by kernel_rfl) ?_
  refine s_val (some 7) (.int .i64 5) (fun w => by kernel_rfl) (by kernel_rfl) ?_
  refine s_nil ?_
  show WPL _ _ _ _ _ _
  refine g_next ?_
  refine g_seq (by kernel_rfl) ?_
  refine g_sreg [0, 1] (by kernel_rfl) (by kernel_rfl) ?_
  refine s_val (some 21) (.int .i64 5) (fun w => by kernel_rfl) (by kernel_rfl) ?_
  refine s_val (some 22) (.bool false) (fun w => by kernel_rfl) (by kernel_rfl) ?_
  refine s_nil ?_
  refine g_cond_f (by kernel_rfl) (by kernel_rfl) ?_
  refine g_exit 2 (by kernel_rfl) ?_
  show WP _ _ _ _ _ _
  refine g_reg0 [0, 1, 2] (by kernel_rfl) ?_
  refine s_val (some 19) (.int .i64 4) (fun w => by kernel_rfl) (by kernel_rfl) ?_
  refine s_val (some 20) (.int .i64 5) (fun w => by kernel_rfl) (by kernel_rfl) ?_
  refine s_val (some 6) (.int .i64 5) (fun w => by kernel_rfl) (by kernel_rfl) ?_
  refine s_nil ?_
  show WPL _ _ _ _ _ _
  refine g_next ?_
  refine g_seq (by kernel_rfl) ?_
  refine g_sreg [0, 1] (by kernel_rfl) (by kernel_rfl) ?_
  refine s_val (some 17) (.int .i64 5) (fun w => by kernel_rfl) (by kernel_rfl) ?_
  refine s_val (some 18) (.bool false) (fun w => by kernel_rfl) (by kernel_rfl) ?_
  refine s_nil ?_
  refine g_cond_f (by kernel_rfl) (by kernel_rfl) ?_
  refine g_exit 0 (by kernel_rfl) ?_
  show WP _ _ _ _ _ _
  exact rr_two s i hi w b3 b2 b1 w29 H29 _ (Is.of ⟨(by kernel_rfl), (by kernel_rfl), (by kernel_rfl), (by kernel_rfl), trivial⟩)
end Go.Proofs.YtddhadddpllbcaaDoor
