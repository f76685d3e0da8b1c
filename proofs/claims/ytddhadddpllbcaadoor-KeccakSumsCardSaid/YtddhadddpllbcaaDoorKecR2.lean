/-
  The reference: a round, its second loop.
-/
import Derived.Test.YtddhadddpllbcaaDoorProg
import Derived.Test.YtddhadddpllbcaaDoorStr
import Derived.Test.YtddhadddpllbcaaDoorKecM
import Derived.Test.YtddhadddpllbcaaDoorKecR3
namespace Go.Proofs.YtddhadddpllbcaaDoor
open Go Go.RowKit Go.Proofs.Kec
set_option linter.unusedVariables false
set_option maxRecDepth 100000 in
set_option maxHeartbeats 2000000 in
theorem rr_two (s : List (BitVec 64)) (i : Nat) (hi : i < 24) (w : World) (b3 b2 b1 : Nat) (w29 : World)
    (H29 : St w.heap.size w w29 [(b3, Obj.cells (Value.cells (cS24 s)) 44 (0, 0)), (b2, Obj.cells Z25 26 (0, 0)), (b1, Obj.cells (Value.cells (svn s)) 26 (0, 0))]) (ρ : Env) (hI : Is [(1, .int .i64 ((i : Nat) : Int)), (2, .pointer (some ⟨b1, 0, none⟩)), (4, .pointer (some ⟨b2, 0, none⟩)), (5, .pointer (some ⟨b3, 0, none⟩))] ρ) :
    WP Tryd.prog 117 (seqR (seqR (seqR (codeOf Tryd.f15)))) (ends Tryd.prog [.cell 4 26] fun v' w' => v' = svn (rm s (lastB i 7)) ∧ Below w.heap.size w w') ρ w29 := by
  obtain ⟨_, rfl⟩ := hI
  refine g_sreg [0, 1, 2] (by kernel_rfl) (by kernel_rfl) ?_
  refine s_val (some 36) (.agg Z25) (fun w => by kernel_rfl) (by kernel_rfl) ?_
  refine s_alloc H29 (some 8) 26 (.agg Z25) (by kernel_rfl) (by kernel_rfl) (by kernel_rfl) ?_
  intro b4 w30 H30; clear H29
  refine s_store H30 0 [(b4, Obj.cells Z25 26 (0, 0)), (b3, Obj.cells (Value.cells (cS24 s)) 44 (0, 0)), (b2, Obj.cells Z25 26 (0, 0)), (b1, Obj.cells (Value.cells (svn s)) 26 (0, 0))] 26 (.tmp 8) (.tmp 36) b4 (0) Z25 Z25 26 (.agg Z25) (by kernel_rfl) (by kernel_rfl) (by kernel_rfl) (by kernel_rfl) (by kernel_rfl) (by kernel_rfl) (of_decide_eq_true (by kernel_rfl)) (by kernel_rfl) (by kernel_rfl) ?_
  intro w31 H31; clear H30
  refine s_nil ?_
  refine g_seq (by kernel_rfl) ?_
  refine g_sreg [0] (by kernel_rfl) (by kernel_rfl) ?_
  refine s_val (some 9) (.int .i64 0) (fun w => by kernel_rfl) (by kernel_rfl) ?_
  refine s_nil ?_
  refine g_block 4 (by kernel_rfl) ?_
  refine g_first (by kernel_rfl) ?_
  refine g_seq (by kernel_rfl) ?_
  refine g_sreg [0, 1] (by kernel_rfl) (by kernel_rfl) ?_
  refine s_val (some 37) (.int .i64 0) (fun w => by kernel_rfl) (by kernel_rfl) ?_
  refine s_val (some 38) (.bool true) (fun w => by kernel_rfl) (by kernel_rfl) ?_
  refine s_nil ?_
  refine g_cond_t (by kernel_rfl) (by kernel_rfl) ?_
  refine g_skip (by kernel_rfl) ?_
  show WP _ _ _ _ _ _
  refine g_seq (by kernel_rfl) ?_
  refine g_block 5 (by kernel_rfl) ?_
  refine D2.g_sdraw [0, 1, 2, 3, 4, 5, 6, 7, 8, 9, 10, 11, 12] [((some 41), fun _ => .int .i64 0), ((some 42), fun _ => .int .i64 4), ((some 43), fun _ => .int .i64 4), ((some 44), fun _ => .pointer (some ⟨b3, 4, none⟩)), ((some 45), fun _ => wv (cC s 4)), ((some 46), fun _ => .int .i64 0), ((some 47), fun _ => .int .i64 1), ((some 48), fun _ => .int .i64 1), ((some 49), fun _ => .pointer (some ⟨b3, 1, none⟩)), ((some 50), fun _ => wv (cC s 1)), ((some 51), fun _ => wv (rl (cC s 1) 1)), ((some 52), fun _ => wv (dD (cC s) 0)), ((some 10), fun _ => wv (dD (cC s) 0))] (D2.Pre w.heap.size w (fun L g => [(true, (b4, Obj.cells Z25 26 (0, 0))), (true, (b3, Obj.cells (Value.cells (cS24 s)) 44 (0, 0))), (true, (b2, Obj.cells Z25 26 (0, 0))), (true, (b1, Obj.cells (Value.cells (svn s)) 26 (0, 0)))]) (fun L g => True)) (by kernel_rfl) (by kernel_rfl) (by kernel_rfl) (by kernel_rfl) ⟨D2.StE.of H31.drew _ (by kernel_rfl), trivial⟩ ⟨?_, ?_, ?_, ?_, ?_, ?_, ?_, ?_, ?_, ?_, ?_, ?_, ?_, trivial⟩ ?_
  · exact D2.gv_val (fun _ _ _ h => h) (fun g w => by kernel_rfl)
  · exact D2.gv_val (fun _ _ _ h => h) (fun g w => by kernel_rfl)
  · exact D2.gv_val (fun _ _ _ h => h) (fun g w => by kernel_rfl)
  · exact D2.gv_val (fun _ _ _ h => h) (fun g w => by kernel_rfl)
  · exact D2.gv_load1 25 (.tmp 44) 1 (fun g => b3) (fun g => 4) (fun g => (Value.cells (cS24 s))) 44 (0, 0) (fun _ _ _ h => h) (fun g => by kernel_rfl) (fun g => by kernel_rfl) (fun L g hN => (by kernel_rfl)) (by kernel_rfl) (fun L g hN hF => by kernel_rfl)
  · exact D2.gv_val (fun _ _ _ h => h) (fun g w => by kernel_rfl)
  · exact D2.gv_val (fun _ _ _ h => h) (fun g w => by kernel_rfl)
  · exact D2.gv_val (fun _ _ _ h => h) (fun g w => by kernel_rfl)
  · exact D2.gv_val (fun _ _ _ h => h) (fun g w => by kernel_rfl)
  · exact D2.gv_load1 25 (.tmp 49) 1 (fun g => b3) (fun g => 1) (fun g => (Value.cells (cS24 s))) 44 (0, 0) (fun _ _ _ h => h) (fun g => by kernel_rfl) (fun g => by kernel_rfl) (fun L g hN => (by kernel_rfl)) (by kernel_rfl) (fun L g hN hF => by kernel_rfl)
  · exact D2.gv_call 22 #[wv (cC s 1), .int .i64 1] (fun _ _ _ h => h) (left_fn (cC s 1) 1 (by omega) (by omega)) (fun g w => by kernel_rfl)
  · exact D2.gv_valE (fun _ _ _ h => h) (V' := .int .u64 (Go.bits .xor .u64 (((BitVec.toNat (cC s 4) : Nat) : Int)) (((BitVec.toNat (rl (cC s 1) 1) : Nat) : Int)))) (fun g w => by kernel_rfl) (bv_xor_u64 (cC s 4) (rl (cC s 1) 1))
  · exact D2.gv_val (fun _ _ _ h => h) (fun g w => by kernel_rfl)
  intro L0 G32 w32 hall HL; clear H31
  have H32 : St w.heap.size w w32 [(b4, Obj.cells Z25 26 (0, 0)), (b3, Obj.cells (Value.cells (cS24 s)) 44 (0, 0)), (b2, Obj.cells Z25 26 (0, 0)), (b1, Obj.cells (Value.cells (svn s)) 26 (0, 0))] := D2.StE.st HL.1
  clear HL hall
  refine g_sreg [0] (by kernel_rfl) (by kernel_rfl) ?_
  refine s_val (some 11) (.int .i64 0) (fun w => by kernel_rfl) (by kernel_rfl) ?_
  refine s_nil ?_
  refine g_block 6 (by kernel_rfl) ?_
  refine g_first (by kernel_rfl) ?_
  refine g_seq (by kernel_rfl) ?_
  refine g_sreg [0, 1] (by kernel_rfl) (by kernel_rfl) ?_
  refine s_val (some 53) (.int .i64 0) (fun w => by kernel_rfl) (by kernel_rfl) ?_
  refine s_val (some 54) (.bool true) (fun w => by kernel_rfl) (by kernel_rfl) ?_
  refine s_nil ?_
  refine g_cond_t (by kernel_rfl) (by kernel_rfl) ?_
  refine g_skip (by kernel_rfl) ?_
  show WP _ _ _ _ _ _
  refine g_seq (by kernel_rfl) ?_
  refine g_block 7 (by kernel_rfl) ?_
  refine D2.g_draw0 [0, 1, 2, 3, 4, 5, 6, 7, 8, 9, 10, 11, 12, 13, 14, 15, 16, 17, 18, 19] [((some 57), fun _ => .int .i64 0), ((some 58), fun _ => .int .i64 0), ((some 59), fun _ => .int .i64 0), ((some 60), fun _ => .int .i64 0), ((some 61), fun _ => .int .i64 0), ((some 62), fun _ => .int .i64 0), ((some 63), fun _ => .int .i64 0), ((some 64), fun _ => .int .i64 0), ((some 65), fun _ => .int .i64 0), ((some 66), fun _ => .int .i64 0), ((some 67), fun _ => .pointer (some ⟨b1, 0, none⟩)), ((some 68), fun _ => wv (nth s 0)), ((some 69), fun _ => wv (dD (cC s) 0)), ((some 70), fun _ => wv (th s 0)), ((some 71), fun _ => .int .i64 0), ((some 72), fun _ => .int .i64 0), ((some 73), fun _ => .int .i64 0), ((some 74), fun _ => wv (pI s 0)), ((some 75), fun _ => .pointer (some ⟨b4, 0, none⟩)), (none, fun _ => undef)] (D2.Pre w.heap.size w (fun L g => [(true, (bif L 19 then (b4, Obj.cells (Value.cells (bS0 s)) 26 (0, 0)) else (b4, Obj.cells Z25 26 (0, 0)))), (true, (b3, Obj.cells (Value.cells (cS24 s)) 44 (0, 0))), (true, (b2, Obj.cells Z25 26 (0, 0))), (true, (b1, Obj.cells (Value.cells (svn s)) 26 (0, 0)))]) (fun L g => True)) (by kernel_rfl) (by kernel_rfl) (by kernel_rfl) ⟨D2.StE.of H32.drew _ (by kernel_rfl), trivial⟩ ⟨?_, ?_, ?_, ?_, ?_, ?_, ?_, ?_, ?_, ?_, ?_, ?_, ?_, ?_, ?_, ?_, ?_, ?_, ?_, ?_, trivial⟩ ?_
  · exact D2.gv_val (fun _ _ _ h => h) (fun g w => by kernel_rfl)
  · exact D2.gv_val (fun _ _ _ h => h) (fun g w => by kernel_rfl)
  · exact D2.gv_val (fun _ _ _ h => h) (fun g w => by kernel_rfl)
  · exact D2.gv_val (fun _ _ _ h => h) (fun g w => by kernel_rfl)
  · exact D2.gv_val (fun _ _ _ h => h) (fun g w => by kernel_rfl)
  · exact D2.gv_val (fun _ _ _ h => h) (fun g w => by kernel_rfl)
  · exact D2.gv_call 21 #[.int .i64 0, .int .i64 0] (fun _ _ _ h => h) (at_fn 0 0 (by omega) (by omega)) (fun g w => by kernel_rfl)
  · exact D2.gv_val (fun _ _ _ h => h) (fun g w => by kernel_rfl)
  · exact D2.gv_val (fun _ _ _ h => h) (fun g w => by kernel_rfl)
  · exact D2.gv_call 21 #[.int .i64 0, .int .i64 0] (fun _ _ _ h => h) (at_fn 0 0 (by omega) (by omega)) (fun g w => by kernel_rfl)
  · exact D2.gv_val (fun _ _ _ h => h) (fun g w => by kernel_rfl)
  · exact D2.gv_load1 25 (.tmp 67) 3 (fun g => b1) (fun g => 0) (fun g => (Value.cells (svn s))) 26 (0, 0) (fun _ _ _ h => h) (fun g => by kernel_rfl) (fun g => by kernel_rfl) (fun L g hN => (by kernel_rfl)) (by kernel_rfl) (fun L g hN hF => by kernel_rfl)
  · exact D2.gv_val (fun _ _ _ h => h) (fun g w => by kernel_rfl)
  · exact D2.gv_valE (fun _ _ _ h => h) (V' := .int .u64 (Go.bits .xor .u64 (((BitVec.toNat (nth s 0) : Nat) : Int)) (((BitVec.toNat (dD (cC s) 0) : Nat) : Int)))) (fun g w => by kernel_rfl) (bv_xor_u64 (nth s 0) (dD (cC s) 0))
  · exact D2.gv_val (fun _ _ _ h => h) (fun g w => by kernel_rfl)
  · exact D2.gv_val (fun _ _ _ h => h) (fun g w => by kernel_rfl)
  · exact D2.gv_call 23 #[.int .i64 0, .int .i64 0] (fun _ _ _ h => h) (by have h := turnR_fn 0 0 (by omega) (by omega); rw [show rotN 0 0 = 0 by decide] at h; exact h) (fun g w => by kernel_rfl)
  · exact D2.gv_call 22 #[wv (th s 0), .int .i64 0] (fun _ _ _ h => h) (left0p s) (fun g w => by kernel_rfl)
  · exact D2.gv_val (fun _ _ _ h => h) (fun g w => by kernel_rfl)
  · exact D2.gv_store 0 25 (.tmp 75) (.tmp 74) (fun g => b4) (fun g => 0) Z25 (Value.cells (bS0 s)) 26 (wv (pI s 0)) (fun g => by kernel_rfl) (fun g => by kernel_rfl) (fun g => by kernel_rfl) (by kernel_rfl) (by kernel_rfl) (fun g => (of_decide_eq_true (by kernel_rfl))) (fun g => (by kernel_rfl)) (fun L g hN => ⟨(by have hL19 : L 19 = false := hN.1; exact D2.ent_get' (p := true) (e := (bif L 19 then (b4, Obj.cells (Value.cells (bS0 s)) 26 (0, 0)) else (b4, Obj.cells Z25 26 (0, 0)))) (by kernel_rfl) (by rfl) (by simp only [hL19, cond_true, cond_false] <;> rfl)), (by kernel_rfl)⟩) (fun L g hN hF => hF)
  intro L0 G33 w33 hall HL; clear H32
  have H33 : St w.heap.size w w33 [(b4, Obj.cells (Value.cells (bS0 s)) 26 (0, 0)), (b3, Obj.cells (Value.cells (cS24 s)) 44 (0, 0)), (b2, Obj.cells Z25 26 (0, 0)), (b1, Obj.cells (Value.cells (svn s)) 26 (0, 0))] := by have e19 := hall 19 (Nat.le_of_ble_eq_true (by kernel_rfl)); have hS := D2.StE.st HL.1; simp only [e19, cond_true, D2.pres] at hS; exact hS
  clear HL hall
  show WP _ _ _ _ _ _
  refine g_reg0 [0, 1, 2] (by kernel_rfl) ?_
  refine s_val (some 55) (.int .i64 0) (fun w => by kernel_rfl) (by kernel_rfl) ?_
  refine s_val (some 56) (.int .i64 1) (fun w => by kernel_rfl) (by kernel_rfl) ?_
  refine s_val (some 11) (.int .i64 1) (fun w => by kernel_rfl) (by kernel_rfl) ?_
  refine s_nil ?_
  show WPL _ _ _ _ _ _
  refine g_next ?_
  refine g_seq (by kernel_rfl) ?_
  refine g_sreg [0, 1] (by kernel_rfl) (by kernel_rfl) ?_
  refine s_val (some 53) (.int .i64 1) (fun w => by kernel_rfl) (by kernel_rfl) ?_
  refine s_val (some 54) (.bool true) (fun w => by kernel_rfl) (by kernel_rfl) ?_
  refine s_nil ?_
  refine g_cond_t (by kernel_rfl) (by kernel_rfl) ?_
  refine g_skip (by kernel_rfl) ?_
  show WP _ _ _ _ _ _
  refine g_seq (by kernel_rfl) ?_
  refine g_block 7 (by kernel_rfl) ?_
  refine D2.g_draw0 [0, 1, 2, 3, 4, 5, 6, 7, 8, 9, 10, 11, 12, 13, 14, 15, 16, 17, 18, 19] [((some 57), fun _ => .int .i64 1), ((some 58), fun _ => .int .i64 0), ((some 59), fun _ => .int .i64 0), ((some 60), fun _ => .int .i64 1), ((some 61), fun _ => .int .i64 3), ((some 62), fun _ => .int .i64 3), ((some 63), fun _ => .int .i64 16), ((some 64), fun _ => .int .i64 0), ((some 65), fun _ => .int .i64 1), ((some 66), fun _ => .int .i64 5), ((some 67), fun _ => .pointer (some ⟨b1, 5, none⟩)), ((some 68), fun _ => wv (nth s 5)), ((some 69), fun _ => wv (dD (cC s) 0)), ((some 70), fun _ => wv (th s 5)), ((some 71), fun _ => .int .i64 0), ((some 72), fun _ => .int .i64 1), ((some 73), fun _ => .int .i64 36), ((some 74), fun _ => wv (pI s 16)), ((some 75), fun _ => .pointer (some ⟨b4, 16, none⟩)), (none, fun _ => undef)] (D2.Pre w.heap.size w (fun L g => [(true, (bif L 19 then (b4, Obj.cells (Value.cells (bS1 s)) 26 (0, 0)) else (b4, Obj.cells (Value.cells (bS0 s)) 26 (0, 0)))), (true, (b3, Obj.cells (Value.cells (cS24 s)) 44 (0, 0))), (true, (b2, Obj.cells Z25 26 (0, 0))), (true, (b1, Obj.cells (Value.cells (svn s)) 26 (0, 0)))]) (fun L g => True)) (by kernel_rfl) (by kernel_rfl) (by kernel_rfl) ⟨D2.StE.of H33.drew _ (by kernel_rfl), trivial⟩ ⟨?_, ?_, ?_, ?_, ?_, ?_, ?_, ?_, ?_, ?_, ?_, ?_, ?_, ?_, ?_, ?_, ?_, ?_, ?_, ?_, trivial⟩ ?_
  · exact D2.gv_val (fun _ _ _ h => h) (fun g w => by kernel_rfl)
  · exact D2.gv_val (fun _ _ _ h => h) (fun g w => by kernel_rfl)
  · exact D2.gv_val (fun _ _ _ h => h) (fun g w => by kernel_rfl)
  · exact D2.gv_val (fun _ _ _ h => h) (fun g w => by kernel_rfl)
  · exact D2.gv_val (fun _ _ _ h => h) (fun g w => by kernel_rfl)
  · exact D2.gv_val (fun _ _ _ h => h) (fun g w => by kernel_rfl)
  · exact D2.gv_call 21 #[.int .i64 1, .int .i64 3] (fun _ _ _ h => h) (at_fn 1 3 (by omega) (by omega)) (fun g w => by kernel_rfl)
  · exact D2.gv_val (fun _ _ _ h => h) (fun g w => by kernel_rfl)
  · exact D2.gv_val (fun _ _ _ h => h) (fun g w => by kernel_rfl)
  · exact D2.gv_call 21 #[.int .i64 0, .int .i64 1] (fun _ _ _ h => h) (at_fn 0 1 (by omega) (by omega)) (fun g w => by kernel_rfl)
  · exact D2.gv_val (fun _ _ _ h => h) (fun g w => by kernel_rfl)
  · exact D2.gv_load1 25 (.tmp 67) 3 (fun g => b1) (fun g => 5) (fun g => (Value.cells (svn s))) 26 (0, 0) (fun _ _ _ h => h) (fun g => by kernel_rfl) (fun g => by kernel_rfl) (fun L g hN => (by kernel_rfl)) (by kernel_rfl) (fun L g hN hF => by kernel_rfl)
  · exact D2.gv_val (fun _ _ _ h => h) (fun g w => by kernel_rfl)
  · exact D2.gv_valE (fun _ _ _ h => h) (V' := .int .u64 (Go.bits .xor .u64 (((BitVec.toNat (nth s 5) : Nat) : Int)) (((BitVec.toNat (dD (cC s) 0) : Nat) : Int)))) (fun g w => by kernel_rfl) (bv_xor_u64 (nth s 5) (dD (cC s) 0))
  · exact D2.gv_val (fun _ _ _ h => h) (fun g w => by kernel_rfl)
  · exact D2.gv_val (fun _ _ _ h => h) (fun g w => by kernel_rfl)
  · exact D2.gv_call 23 #[.int .i64 0, .int .i64 1] (fun _ _ _ h => h) (by have h := turnR_fn 0 1 (by omega) (by omega); rw [show rotN 0 1 = 36 by decide] at h; exact h) (fun g w => by kernel_rfl)
  · exact D2.gv_call 22 #[wv (th s 5), .int .i64 36] (fun _ _ _ h => h) (left_fn (th s 5) 36 (by omega) (by omega)) (fun g w => by kernel_rfl)
  · exact D2.gv_val (fun _ _ _ h => h) (fun g w => by kernel_rfl)
  · exact D2.gv_store 0 25 (.tmp 75) (.tmp 74) (fun g => b4) (fun g => 16) (Value.cells (bS0 s)) (Value.cells (bS1 s)) 26 (wv (pI s 16)) (fun g => by kernel_rfl) (fun g => by kernel_rfl) (fun g => by kernel_rfl) (by kernel_rfl) (by kernel_rfl) (fun g => (of_decide_eq_true (by kernel_rfl))) (fun g => (by kernel_rfl)) (fun L g hN => ⟨(by have hL19 : L 19 = false := hN.1; exact D2.ent_get' (p := true) (e := (bif L 19 then (b4, Obj.cells (Value.cells (bS1 s)) 26 (0, 0)) else (b4, Obj.cells (Value.cells (bS0 s)) 26 (0, 0)))) (by kernel_rfl) (by rfl) (by simp only [hL19, cond_true, cond_false] <;> rfl)), (by kernel_rfl)⟩) (fun L g hN hF => hF)
  intro L0 G34 w34 hall HL; clear H33
  have H34 : St w.heap.size w w34 [(b4, Obj.cells (Value.cells (bS1 s)) 26 (0, 0)), (b3, Obj.cells (Value.cells (cS24 s)) 44 (0, 0)), (b2, Obj.cells Z25 26 (0, 0)), (b1, Obj.cells (Value.cells (svn s)) 26 (0, 0))] := by have e19 := hall 19 (Nat.le_of_ble_eq_true (by kernel_rfl)); have hS := D2.StE.st HL.1; simp only [e19, cond_true, D2.pres] at hS; exact hS
  clear HL hall
  show WP _ _ _ _ _ _
  refine g_reg0 [0, 1, 2] (by kernel_rfl) ?_
  refine s_val (some 55) (.int .i64 1) (fun w => by kernel_rfl) (by kernel_rfl) ?_
  refine s_val (some 56) (.int .i64 2) (fun w => by kernel_rfl) (by kernel_rfl) ?_
  refine s_val (some 11) (.int .i64 2) (fun w => by kernel_rfl) (by kernel_rfl) ?_
  refine s_nil ?_
  show WPL _ _ _ _ _ _
  refine g_next ?_
  refine g_seq (by kernel_rfl) ?_
  refine g_sreg [0, 1] (by kernel_rfl) (by kernel_rfl) ?_
  refine s_val (some 53) (.int .i64 2) (fun w => by kernel_rfl) (by kernel_rfl) ?_
  refine s_val (some 54) (.bool true) (fun w => by kernel_rfl) (by kernel_rfl) ?_
  refine s_nil ?_
  refine g_cond_t (by kernel_rfl) (by kernel_rfl) ?_
  refine g_skip (by kernel_rfl) ?_
  show WP _ _ _ _ _ _
  refine g_seq (by kernel_rfl) ?_
  refine g_block 7 (by kernel_rfl) ?_
  refine D2.g_draw0 [0, 1, 2, 3, 4, 5, 6, 7, 8, 9, 10, 11, 12, 13, 14, 15, 16, 17, 18, 19] [((some 57), fun _ => .int .i64 2), ((some 58), fun _ => .int .i64 0), ((some 59), fun _ => .int .i64 0), ((some 60), fun _ => .int .i64 2), ((some 61), fun _ => .int .i64 6), ((some 62), fun _ => .int .i64 6), ((some 63), fun _ => .int .i64 7), ((some 64), fun _ => .int .i64 0), ((some 65), fun _ => .int .i64 2), ((some 66), fun _ => .int .i64 10), ((some 67), fun _ => .pointer (some ⟨b1, 10, none⟩)), ((some 68), fun _ => wv (nth s 10)), ((some 69), fun _ => wv (dD (cC s) 0)), ((some 70), fun _ => wv (th s 10)), ((some 71), fun _ => .int .i64 0), ((some 72), fun _ => .int .i64 2), ((some 73), fun _ => .int .i64 3), ((some 74), fun _ => wv (pI s 7)), ((some 75), fun _ => .pointer (some ⟨b4, 7, none⟩)), (none, fun _ => undef)] (D2.Pre w.heap.size w (fun L g => [(true, (bif L 19 then (b4, Obj.cells (Value.cells (bS2 s)) 26 (0, 0)) else (b4, Obj.cells (Value.cells (bS1 s)) 26 (0, 0)))), (true, (b3, Obj.cells (Value.cells (cS24 s)) 44 (0, 0))), (true, (b2, Obj.cells Z25 26 (0, 0))), (true, (b1, Obj.cells (Value.cells (svn s)) 26 (0, 0)))]) (fun L g => True)) (by kernel_rfl) (by kernel_rfl) (by kernel_rfl) ⟨D2.StE.of H34.drew _ (by kernel_rfl), trivial⟩ ⟨?_, ?_, ?_, ?_, ?_, ?_, ?_, ?_, ?_, ?_, ?_, ?_, ?_, ?_, ?_, ?_, ?_, ?_, ?_, ?_, trivial⟩ ?_
  · exact D2.gv_val (fun _ _ _ h => h) (fun g w => by kernel_rfl)
  · exact D2.gv_val (fun _ _ _ h => h) (fun g w => by kernel_rfl)
  · exact D2.gv_val (fun _ _ _ h => h) (fun g w => by kernel_rfl)
  · exact D2.gv_val (fun _ _ _ h => h) (fun g w => by kernel_rfl)
  · exact D2.gv_val (fun _ _ _ h => h) (fun g w => by kernel_rfl)
  · exact D2.gv_val (fun _ _ _ h => h) (fun g w => by kernel_rfl)
  · exact D2.gv_call 21 #[.int .i64 2, .int .i64 6] (fun _ _ _ h => h) (at_fn 2 6 (by omega) (by omega)) (fun g w => by kernel_rfl)
  · exact D2.gv_val (fun _ _ _ h => h) (fun g w => by kernel_rfl)
  · exact D2.gv_val (fun _ _ _ h => h) (fun g w => by kernel_rfl)
  · exact D2.gv_call 21 #[.int .i64 0, .int .i64 2] (fun _ _ _ h => h) (at_fn 0 2 (by omega) (by omega)) (fun g w => by kernel_rfl)
  · exact D2.gv_val (fun _ _ _ h => h) (fun g w => by kernel_rfl)
  · exact D2.gv_load1 25 (.tmp 67) 3 (fun g => b1) (fun g => 10) (fun g => (Value.cells (svn s))) 26 (0, 0) (fun _ _ _ h => h) (fun g => by kernel_rfl) (fun g => by kernel_rfl) (fun L g hN => (by kernel_rfl)) (by kernel_rfl) (fun L g hN hF => by kernel_rfl)
  · exact D2.gv_val (fun _ _ _ h => h) (fun g w => by kernel_rfl)
  · exact D2.gv_valE (fun _ _ _ h => h) (V' := .int .u64 (Go.bits .xor .u64 (((BitVec.toNat (nth s 10) : Nat) : Int)) (((BitVec.toNat (dD (cC s) 0) : Nat) : Int)))) (fun g w => by kernel_rfl) (bv_xor_u64 (nth s 10) (dD (cC s) 0))
  · exact D2.gv_val (fun _ _ _ h => h) (fun g w => by kernel_rfl)
  · exact D2.gv_val (fun _ _ _ h => h) (fun g w => by kernel_rfl)
  · exact D2.gv_call 23 #[.int .i64 0, .int .i64 2] (fun _ _ _ h => h) (by have h := turnR_fn 0 2 (by omega) (by omega); rw [show rotN 0 2 = 3 by decide] at h; exact h) (fun g w => by kernel_rfl)
  · exact D2.gv_call 22 #[wv (th s 10), .int .i64 3] (fun _ _ _ h => h) (left_fn (th s 10) 3 (by omega) (by omega)) (fun g w => by kernel_rfl)
  · exact D2.gv_val (fun _ _ _ h => h) (fun g w => by kernel_rfl)
  · exact D2.gv_store 0 25 (.tmp 75) (.tmp 74) (fun g => b4) (fun g => 7) (Value.cells (bS1 s)) (Value.cells (bS2 s)) 26 (wv (pI s 7)) (fun g => by kernel_rfl) (fun g => by kernel_rfl) (fun g => by kernel_rfl) (by kernel_rfl) (by kernel_rfl) (fun g => (of_decide_eq_true (by kernel_rfl))) (fun g => (by kernel_rfl)) (fun L g hN => ⟨(by have hL19 : L 19 = false := hN.1; exact D2.ent_get' (p := true) (e := (bif L 19 then (b4, Obj.cells (Value.cells (bS2 s)) 26 (0, 0)) else (b4, Obj.cells (Value.cells (bS1 s)) 26 (0, 0)))) (by kernel_rfl) (by rfl) (by simp only [hL19, cond_true, cond_false] <;> rfl)), (by kernel_rfl)⟩) (fun L g hN hF => hF)
  intro L0 G35 w35 hall HL; clear H34
  have H35 : St w.heap.size w w35 [(b4, Obj.cells (Value.cells (bS2 s)) 26 (0, 0)), (b3, Obj.cells (Value.cells (cS24 s)) 44 (0, 0)), (b2, Obj.cells Z25 26 (0, 0)), (b1, Obj.cells (Value.cells (svn s)) 26 (0, 0))] := by have e19 := hall 19 (Nat.le_of_ble_eq_true (by kernel_rfl)); have hS := D2.StE.st HL.1; simp only [e19, cond_true, D2.pres] at hS; exact hS
  clear HL hall
  show WP _ _ _ _ _ _
  refine g_reg0 [0, 1, 2] (by kernel_rfl) ?_
  refine s_val (some 55) (.int .i64 2) (fun w => by kernel_rfl) (by kernel_rfl) ?_
  refine s_val (some 56) (.int .i64 3) (fun w => by kernel_rfl) (by kernel_rfl) ?_
  refine s_val (some 11) (.int .i64 3) (fun w => by kernel_rfl) (by kernel_rfl) ?_
  refine s_nil ?_
  show WPL _ _ _ _ _ _
  refine g_next ?_
  refine g_seq (by kernel_rfl) ?_
  refine g_sreg [0, 1] (by kernel_rfl) (by kernel_rfl) ?_
  refine s_val (some 53) (.int .i64 3) (fun w => by kernel_rfl) (by kernel_rfl) ?_
  refine s_val (some 54) (.bool true) (fun w => by kernel_rfl) (by kernel_rfl) ?_
  refine s_nil ?_
  refine g_cond_t (by kernel_rfl) (by kernel_rfl) ?_
  refine g_skip (by kernel_rfl) ?_
  show WP _ _ _ _ _ _
  refine g_seq (by kernel_rfl) ?_
  refine g_block 7 (by kernel_rfl) ?_
  refine D2.g_draw0 [0, 1, 2, 3, 4, 5, 6, 7, 8, 9, 10, 11, 12, 13, 14, 15, 16, 17, 18, 19] [((some 57), fun _ => .int .i64 3), ((some 58), fun _ => .int .i64 0), ((some 59), fun _ => .int .i64 0), ((some 60), fun _ => .int .i64 3), ((some 61), fun _ => .int .i64 9), ((some 62), fun _ => .int .i64 9), ((some 63), fun _ => .int .i64 23), ((some 64), fun _ => .int .i64 0), ((some 65), fun _ => .int .i64 3), ((some 66), fun _ => .int .i64 15), ((some 67), fun _ => .pointer (some ⟨b1, 15, none⟩)), ((some 68), fun _ => wv (nth s 15)), ((some 69), fun _ => wv (dD (cC s) 0)), ((some 70), fun _ => wv (th s 15)), ((some 71), fun _ => .int .i64 0), ((some 72), fun _ => .int .i64 3), ((some 73), fun _ => .int .i64 41), ((some 74), fun _ => wv (pI s 23)), ((some 75), fun _ => .pointer (some ⟨b4, 23, none⟩)), (none, fun _ => undef)] (D2.Pre w.heap.size w (fun L g => [(true, (bif L 19 then (b4, Obj.cells (Value.cells (bS3 s)) 26 (0, 0)) else (b4, Obj.cells (Value.cells (bS2 s)) 26 (0, 0)))), (true, (b3, Obj.cells (Value.cells (cS24 s)) 44 (0, 0))), (true, (b2, Obj.cells Z25 26 (0, 0))), (true, (b1, Obj.cells (Value.cells (svn s)) 26 (0, 0)))]) (fun L g => True)) (by kernel_rfl) (by kernel_rfl) (by kernel_rfl) ⟨D2.StE.of H35.drew _ (by kernel_rfl), trivial⟩ ⟨?_, ?_, ?_, ?_, ?_, ?_, ?_, ?_, ?_, ?_, ?_, ?_, ?_, ?_, ?_, ?_, ?_, ?_, ?_, ?_, trivial⟩ ?_
  · exact D2.gv_val (fun _ _ _ h => h) (fun g w => by kernel_rfl)
  · exact D2.gv_val (fun _ _ _ h => h) (fun g w => by kernel_rfl)
  · exact D2.gv_val (fun _ _ _ h => h) (fun g w => by kernel_rfl)
  · exact D2.gv_val (fun _ _ _ h => h) (fun g w => by kernel_rfl)
  · exact D2.gv_val (fun _ _ _ h => h) (fun g w => by kernel_rfl)
  · exact D2.gv_val (fun _ _ _ h => h) (fun g w => by kernel_rfl)
  · exact D2.gv_call 21 #[.int .i64 3, .int .i64 9] (fun _ _ _ h => h) (at_fn 3 9 (by omega) (by omega)) (fun g w => by kernel_rfl)
  · exact D2.gv_val (fun _ _ _ h => h) (fun g w => by kernel_rfl)
  · exact D2.gv_val (fun _ _ _ h => h) (fun g w => by kernel_rfl)
  · exact D2.gv_call 21 #[.int .i64 0, .int .i64 3] (fun _ _ _ h => h) (at_fn 0 3 (by omega) (by omega)) (fun g w => by kernel_rfl)
  · exact D2.gv_val (fun _ _ _ h => h) (fun g w => by kernel_rfl)
  · exact D2.gv_load1 25 (.tmp 67) 3 (fun g => b1) (fun g => 15) (fun g => (Value.cells (svn s))) 26 (0, 0) (fun _ _ _ h => h) (fun g => by kernel_rfl) (fun g => by kernel_rfl) (fun L g hN => (by kernel_rfl)) (by kernel_rfl) (fun L g hN hF => by kernel_rfl)
  · exact D2.gv_val (fun _ _ _ h => h) (fun g w => by kernel_rfl)
  · exact D2.gv_valE (fun _ _ _ h => h) (V' := .int .u64 (Go.bits .xor .u64 (((BitVec.toNat (nth s 15) : Nat) : Int)) (((BitVec.toNat (dD (cC s) 0) : Nat) : Int)))) (fun g w => by kernel_rfl) (bv_xor_u64 (nth s 15) (dD (cC s) 0))
  · exact D2.gv_val (fun _ _ _ h => h) (fun g w => by kernel_rfl)
  · exact D2.gv_val (fun _ _ _ h => h) (fun g w => by kernel_rfl)
  · exact D2.gv_call 23 #[.int .i64 0, .int .i64 3] (fun _ _ _ h => h) (by have h := turnR_fn 0 3 (by omega) (by omega); rw [show rotN 0 3 = 41 by decide] at h; exact h) (fun g w => by kernel_rfl)
  · exact D2.gv_call 22 #[wv (th s 15), .int .i64 41] (fun _ _ _ h => h) (left_fn (th s 15) 41 (by omega) (by omega)) (fun g w => by kernel_rfl)
  · exact D2.gv_val (fun _ _ _ h => h) (fun g w => by kernel_rfl)
  · exact D2.gv_store 0 25 (.tmp 75) (.tmp 74) (fun g => b4) (fun g => 23) (Value.cells (bS2 s)) (Value.cells (bS3 s)) 26 (wv (pI s 23)) (fun g => by kernel_rfl) (fun g => by kernel_rfl) (fun g => by kernel_rfl) (by kernel_rfl) (by kernel_rfl) (fun g => (of_decide_eq_true (by kernel_rfl))) (fun g => (by kernel_rfl)) (fun L g hN => ⟨(by have hL19 : L 19 = false := hN.1; exact D2.ent_get' (p := true) (e := (bif L 19 then (b4, Obj.cells (Value.cells (bS3 s)) 26 (0, 0)) else (b4, Obj.cells (Value.cells (bS2 s)) 26 (0, 0)))) (by kernel_rfl) (by rfl) (by simp only [hL19, cond_true, cond_false] <;> rfl)), (by kernel_rfl)⟩) (fun L g hN hF => hF)
  intro L0 G36 w36 hall HL; clear H35
  have H36 : St w.heap.size w w36 [(b4, Obj.cells (Value.cells (bS3 s)) 26 (0, 0)), (b3, Obj.cells (Value.cells (cS24 s)) 44 (0, 0)), (b2, Obj.cells Z25 26 (0, 0)), (b1, Obj.cells (Value.cells (svn s)) 26 (0, 0))] := by have e19 := hall 19 (Nat.le_of_ble_eq_true (by kernel_rfl)); have hS := D2.StE.st HL.1; simp only [e19, cond_true, D2.pres] at hS; exact hS
  clear HL hall
  show WP _ _ _ _ _ _
  refine g_reg0 [0, 1, 2] (by kernel_rfl) ?_
  refine s_val (some 55) (.int .i64 3) (fun w => by kernel_rfl) (by kernel_rfl) ?_
  refine s_val (some 56) (.int .i64 4) (fun w => by kernel_rfl) (by kernel_rfl) ?_
  refine s_val (some 11) (.int .i64 4) (fun w => by kernel_rfl) (by kernel_rfl) ?_
  refine s_nil ?_
  show WPL _ _ _ _ _ _
  refine g_next ?_
  refine g_seq (by kernel_rfl) ?_
  refine g_sreg [0, 1] (by kernel_rfl) (by kernel_rfl) ?_
  refine s_val (some 53) (.int .i64 4) (fun w => by kernel_rfl) (by kernel_rfl) ?_
  refine s_val (some 54) (.bool true) (fun w => by kernel_rfl) (by kernel_rfl) ?_
  refine s_nil ?_
  refine g_cond_t (by kernel_rfl) (by kernel_rfl) ?_
  refine g_skip (by kernel_rfl) ?_
  show WP _ _ _ _ _ _
  refine g_seq (by kernel_rfl) ?_
  refine g_block 7 (by kernel_rfl) ?_
  refine D2.g_draw0 [0, 1, 2, 3, 4, 5, 6, 7, 8, 9, 10, 11, 12, 13, 14, 15, 16, 17, 18, 19] [((some 57), fun _ => .int .i64 4), ((some 58), fun _ => .int .i64 0), ((some 59), fun _ => .int .i64 0), ((some 60), fun _ => .int .i64 4), ((some 61), fun _ => .int .i64 12), ((some 62), fun _ => .int .i64 12), ((some 63), fun _ => .int .i64 14), ((some 64), fun _ => .int .i64 0), ((some 65), fun _ => .int .i64 4), ((some 66), fun _ => .int .i64 20), ((some 67), fun _ => .pointer (some ⟨b1, 20, none⟩)), ((some 68), fun _ => wv (nth s 20)), ((some 69), fun _ => wv (dD (cC s) 0)), ((some 70), fun _ => wv (th s 20)), ((some 71), fun _ => .int .i64 0), ((some 72), fun _ => .int .i64 4), ((some 73), fun _ => .int .i64 18), ((some 74), fun _ => wv (pI s 14)), ((some 75), fun _ => .pointer (some ⟨b4, 14, none⟩)), (none, fun _ => undef)] (D2.Pre w.heap.size w (fun L g => [(true, (bif L 19 then (b4, Obj.cells (Value.cells (bS4 s)) 26 (0, 0)) else (b4, Obj.cells (Value.cells (bS3 s)) 26 (0, 0)))), (true, (b3, Obj.cells (Value.cells (cS24 s)) 44 (0, 0))), (true, (b2, Obj.cells Z25 26 (0, 0))), (true, (b1, Obj.cells (Value.cells (svn s)) 26 (0, 0)))]) (fun L g => True)) (by kernel_rfl) (by kernel_rfl) (by kernel_rfl) ⟨D2.StE.of H36.drew _ (by kernel_rfl), trivial⟩ ⟨?_, ?_, ?_, ?_, ?_, ?_, ?_, ?_, ?_, ?_, ?_, ?_, ?_, ?_, ?_, ?_, ?_, ?_, ?_, ?_, trivial⟩ ?_
  · exact D2.gv_val (fun _ _ _ h => h) (fun g w => by kernel_rfl)
  · exact D2.gv_val (fun _ _ _ h => h) (fun g w => by kernel_rfl)
  · exact D2.gv_val (fun _ _ _ h => h) (fun g w => by kernel_rfl)
  · exact D2.gv_val (fun _ _ _ h => h) (fun g w => by kernel_rfl)
  · exact D2.gv_val (fun _ _ _ h => h) (fun g w => by kernel_rfl)
  · exact D2.gv_val (fun _ _ _ h => h) (fun g w => by kernel_rfl)
  · exact D2.gv_call 21 #[.int .i64 4, .int .i64 12] (fun _ _ _ h => h) (at_fn 4 12 (by omega) (by omega)) (fun g w => by kernel_rfl)
  · exact D2.gv_val (fun _ _ _ h => h) (fun g w => by kernel_rfl)
  · exact D2.gv_val (fun _ _ _ h => h) (fun g w => by kernel_rfl)
  · exact D2.gv_call 21 #[.int .i64 0, .int .i64 4] (fun _ _ _ h => h) (at_fn 0 4 (by omega) (by omega)) (fun g w => by kernel_rfl)
  · exact D2.gv_val (fun _ _ _ h => h) (fun g w => by kernel_rfl)
  · exact D2.gv_load1 25 (.tmp 67) 3 (fun g => b1) (fun g => 20) (fun g => (Value.cells (svn s))) 26 (0, 0) (fun _ _ _ h => h) (fun g => by kernel_rfl) (fun g => by kernel_rfl) (fun L g hN => (by kernel_rfl)) (by kernel_rfl) (fun L g hN hF => by kernel_rfl)
  · exact D2.gv_val (fun _ _ _ h => h) (fun g w => by kernel_rfl)
  · exact D2.gv_valE (fun _ _ _ h => h) (V' := .int .u64 (Go.bits .xor .u64 (((BitVec.toNat (nth s 20) : Nat) : Int)) (((BitVec.toNat (dD (cC s) 0) : Nat) : Int)))) (fun g w => by kernel_rfl) (bv_xor_u64 (nth s 20) (dD (cC s) 0))
  · exact D2.gv_val (fun _ _ _ h => h) (fun g w => by kernel_rfl)
  · exact D2.gv_val (fun _ _ _ h => h) (fun g w => by kernel_rfl)
  · exact D2.gv_call 23 #[.int .i64 0, .int .i64 4] (fun _ _ _ h => h) (by have h := turnR_fn 0 4 (by omega) (by omega); rw [show rotN 0 4 = 18 by decide] at h; exact h) (fun g w => by kernel_rfl)
  · exact D2.gv_call 22 #[wv (th s 20), .int .i64 18] (fun _ _ _ h => h) (left_fn (th s 20) 18 (by omega) (by omega)) (fun g w => by kernel_rfl)
  · exact D2.gv_val (fun _ _ _ h => h) (fun g w => by kernel_rfl)
  · exact D2.gv_store 0 25 (.tmp 75) (.tmp 74) (fun g => b4) (fun g => 14) (Value.cells (bS3 s)) (Value.cells (bS4 s)) 26 (wv (pI s 14)) (fun g => by kernel_rfl) (fun g => by kernel_rfl) (fun g => by kernel_rfl) (by kernel_rfl) (by kernel_rfl) (fun g => (of_decide_eq_true (by kernel_rfl))) (fun g => (by kernel_rfl)) (fun L g hN => ⟨(by have hL19 : L 19 = false := hN.1; exact D2.ent_get' (p := true) (e := (bif L 19 then (b4, Obj.cells (Value.cells (bS4 s)) 26 (0, 0)) else (b4, Obj.cells (Value.cells (bS3 s)) 26 (0, 0)))) (by kernel_rfl) (by rfl) (by simp only [hL19, cond_true, cond_false] <;> rfl)), (by kernel_rfl)⟩) (fun L g hN hF => hF)
  intro L0 G37 w37 hall HL; clear H36
  have H37 : St w.heap.size w w37 [(b4, Obj.cells (Value.cells (bS4 s)) 26 (0, 0)), (b3, Obj.cells (Value.cells (cS24 s)) 44 (0, 0)), (b2, Obj.cells Z25 26 (0, 0)), (b1, Obj.cells (Value.cells (svn s)) 26 (0, 0))] := by have e19 := hall 19 (Nat.le_of_ble_eq_true (by kernel_rfl)); have hS := D2.StE.st HL.1; simp only [e19, cond_true, D2.pres] at hS; exact hS
  clear HL hall
  show WP _ _ _ _ _ _
  refine g_reg0 [0, 1, 2] (by kernel_rfl) ?_
  refine s_val (some 55) (.int .i64 4) (fun w => by kernel_rfl) (by kernel_rfl) ?_
  refine s_val (some 56) (.int .i64 5) (fun w => by kernel_rfl) (by kernel_rfl) ?_
  refine s_val (some 11) (.int .i64 5) (fun w => by kernel_rfl) (by kernel_rfl) ?_
  refine s_nil ?_
  show WPL _ _ _ _ _ _
  refine g_next ?_
  refine g_seq (by kernel_rfl) ?_
  refine g_sreg [0, 1] (by kernel_rfl) (by kernel_rfl) ?_
  refine s_val (some 53) (.int .i64 5) (fun w => by kernel_rfl) (by kernel_rfl) ?_
  refine s_val (some 54) (.bool false) (fun w => by kernel_rfl) (by kernel_rfl) ?_
  refine s_nil ?_
  refine g_cond_f (by kernel_rfl) (by kernel_rfl) ?_
  refine g_exit 6 (by kernel_rfl) ?_
  show WP _ _ _ _ _ _
  refine g_reg0 [0, 1, 2] (by kernel_rfl) ?_
  refine s_val (some 39) (.int .i64 0) (fun w => by kernel_rfl) (by kernel_rfl) ?_
  refine s_val (some 40) (.int .i64 1) (fun w => by kernel_rfl) (by kernel_rfl) ?_
  refine s_val (some 9) (.int .i64 1) (fun w => by kernel_rfl) (by kernel_rfl) ?_
  refine s_nil ?_
  show WPL _ _ _ _ _ _
  refine g_next ?_
  refine g_seq (by kernel_rfl) ?_
  refine g_sreg [0, 1] (by kernel_rfl) (by kernel_rfl) ?_
  refine s_val (some 37) (.int .i64 1) (fun w => by kernel_rfl) (by kernel_rfl) ?_
  refine s_val (some 38) (.bool true) (fun w => by kernel_rfl) (by kernel_rfl) ?_
  refine s_nil ?_
  refine g_cond_t (by kernel_rfl) (by kernel_rfl) ?_
  refine g_skip (by kernel_rfl) ?_
  show WP _ _ _ _ _ _
  refine g_seq (by kernel_rfl) ?_
  refine g_block 5 (by kernel_rfl) ?_
  refine D2.g_sdraw [0, 1, 2, 3, 4, 5, 6, 7, 8, 9, 10, 11, 12] [((some 41), fun _ => .int .i64 1), ((some 42), fun _ => .int .i64 5), ((some 43), fun _ => .int .i64 0), ((some 44), fun _ => .pointer (some ⟨b3, 0, none⟩)), ((some 45), fun _ => wv (cC s 0)), ((some 46), fun _ => .int .i64 1), ((some 47), fun _ => .int .i64 2), ((some 48), fun _ => .int .i64 2), ((some 49), fun _ => .pointer (some ⟨b3, 2, none⟩)), ((some 50), fun _ => wv (cC s 2)), ((some 51), fun _ => wv (rl (cC s 2) 1)), ((some 52), fun _ => wv (dD (cC s) 1)), ((some 10), fun _ => wv (dD (cC s) 1))] (D2.Pre w.heap.size w (fun L g => [(true, (b4, Obj.cells (Value.cells (bS4 s)) 26 (0, 0))), (true, (b3, Obj.cells (Value.cells (cS24 s)) 44 (0, 0))), (true, (b2, Obj.cells Z25 26 (0, 0))), (true, (b1, Obj.cells (Value.cells (svn s)) 26 (0, 0)))]) (fun L g => True)) (by kernel_rfl) (by kernel_rfl) (by kernel_rfl) (by kernel_rfl) ⟨D2.StE.of H37.drew _ (by kernel_rfl), trivial⟩ ⟨?_, ?_, ?_, ?_, ?_, ?_, ?_, ?_, ?_, ?_, ?_, ?_, ?_, trivial⟩ ?_
  · exact D2.gv_val (fun _ _ _ h => h) (fun g w => by kernel_rfl)
  · exact D2.gv_val (fun _ _ _ h => h) (fun g w => by kernel_rfl)
  · exact D2.gv_val (fun _ _ _ h => h) (fun g w => by kernel_rfl)
  · exact D2.gv_val (fun _ _ _ h => h) (fun g w => by kernel_rfl)
  · exact D2.gv_load1 25 (.tmp 44) 1 (fun g => b3) (fun g => 0) (fun g => (Value.cells (cS24 s))) 44 (0, 0) (fun _ _ _ h => h) (fun g => by kernel_rfl) (fun g => by kernel_rfl) (fun L g hN => (by kernel_rfl)) (by kernel_rfl) (fun L g hN hF => by kernel_rfl)
  · exact D2.gv_val (fun _ _ _ h => h) (fun g w => by kernel_rfl)
  · exact D2.gv_val (fun _ _ _ h => h) (fun g w => by kernel_rfl)
  · exact D2.gv_val (fun _ _ _ h => h) (fun g w => by kernel_rfl)
  · exact D2.gv_val (fun _ _ _ h => h) (fun g w => by kernel_rfl)
  · exact D2.gv_load1 25 (.tmp 49) 1 (fun g => b3) (fun g => 2) (fun g => (Value.cells (cS24 s))) 44 (0, 0) (fun _ _ _ h => h) (fun g => by kernel_rfl) (fun g => by kernel_rfl) (fun L g hN => (by kernel_rfl)) (by kernel_rfl) (fun L g hN hF => by kernel_rfl)
  · exact D2.gv_call 22 #[wv (cC s 2), .int .i64 1] (fun _ _ _ h => h) (left_fn (cC s 2) 1 (by omega) (by omega)) (fun g w => by kernel_rfl)
  · exact D2.gv_valE (fun _ _ _ h => h) (V' := .int .u64 (Go.bits .xor .u64 (((BitVec.toNat (cC s 0) : Nat) : Int)) (((BitVec.toNat (rl (cC s 2) 1) : Nat) : Int)))) (fun g w => by kernel_rfl) (bv_xor_u64 (cC s 0) (rl (cC s 2) 1))
  · exact D2.gv_val (fun _ _ _ h => h) (fun g w => by kernel_rfl)
  intro L0 G38 w38 hall HL; clear H37
  have H38 : St w.heap.size w w38 [(b4, Obj.cells (Value.cells (bS4 s)) 26 (0, 0)), (b3, Obj.cells (Value.cells (cS24 s)) 44 (0, 0)), (b2, Obj.cells Z25 26 (0, 0)), (b1, Obj.cells (Value.cells (svn s)) 26 (0, 0))] := D2.StE.st HL.1
  clear HL hall
  refine g_sreg [0] (by kernel_rfl) (by kernel_rfl) ?_
  refine s_val (some 11) (.int .i64 0) (fun w => by kernel_rfl) (by kernel_rfl) ?_
  refine s_nil ?_
  refine g_block 6 (by kernel_rfl) ?_
  refine g_first (by kernel_rfl) ?_
  refine g_seq (by kernel_rfl) ?_
  refine g_sreg [0, 1] (by kernel_rfl) (by kernel_rfl) ?_
  refine s_val (some 53) (.int .i64 0) (fun w => by kernel_rfl) (by kernel_rfl) ?_
  refine s_val (some 54) (.bool true) (fun w => by kernel_rfl) (by kernel_rfl) ?_
  refine s_nil ?_
  refine g_cond_t (by kernel_rfl) (by kernel_rfl) ?_
  refine g_skip (by kernel_rfl) ?_
  show WP _ _ _ _ _ _
  refine g_seq (by kernel_rfl) ?_
  refine g_block 7 (by kernel_rfl) ?_
  refine D2.g_draw0 [0, 1, 2, 3, 4, 5, 6, 7, 8, 9, 10, 11, 12, 13, 14, 15, 16, 17, 18, 19] [((some 57), fun _ => .int .i64 0), ((some 58), fun _ => .int .i64 1), ((some 59), fun _ => .int .i64 2), ((some 60), fun _ => .int .i64 0), ((some 61), fun _ => .int .i64 0), ((some 62), fun _ => .int .i64 2), ((some 63), fun _ => .int .i64 10), ((some 64), fun _ => .int .i64 1), ((some 65), fun _ => .int .i64 0), ((some 66), fun _ => .int .i64 1), ((some 67), fun _ => .pointer (some ⟨b1, 1, none⟩)), ((some 68), fun _ => wv (nth s 1)), ((some 69), fun _ => wv (dD (cC s) 1)), ((some 70), fun _ => wv (th s 1)), ((some 71), fun _ => .int .i64 1), ((some 72), fun _ => .int .i64 0), ((some 73), fun _ => .int .i64 1), ((some 74), fun _ => wv (pI s 10)), ((some 75), fun _ => .pointer (some ⟨b4, 10, none⟩)), (none, fun _ => undef)] (D2.Pre w.heap.size w (fun L g => [(true, (bif L 19 then (b4, Obj.cells (Value.cells (bS5 s)) 26 (0, 0)) else (b4, Obj.cells (Value.cells (bS4 s)) 26 (0, 0)))), (true, (b3, Obj.cells (Value.cells (cS24 s)) 44 (0, 0))), (true, (b2, Obj.cells Z25 26 (0, 0))), (true, (b1, Obj.cells (Value.cells (svn s)) 26 (0, 0)))]) (fun L g => True)) (by kernel_rfl) (by kernel_rfl) (by kernel_rfl) ⟨D2.StE.of H38.drew _ (by kernel_rfl), trivial⟩ ⟨?_, ?_, ?_, ?_, ?_, ?_, ?_, ?_, ?_, ?_, ?_, ?_, ?_, ?_, ?_, ?_, ?_, ?_, ?_, ?_, trivial⟩ ?_
  · exact D2.gv_val (fun _ _ _ h => h) (fun g w => by kernel_rfl)
  · exact D2.gv_val (fun _ _ _ h => h) (fun g w => by kernel_rfl)
  · exact D2.gv_val (fun _ _ _ h => h) (fun g w => by kernel_rfl)
  · exact D2.gv_val (fun _ _ _ h => h) (fun g w => by kernel_rfl)
  · exact D2.gv_val (fun _ _ _ h => h) (fun g w => by kernel_rfl)
  · exact D2.gv_val (fun _ _ _ h => h) (fun g w => by kernel_rfl)
  · exact D2.gv_call 21 #[.int .i64 0, .int .i64 2] (fun _ _ _ h => h) (at_fn 0 2 (by omega) (by omega)) (fun g w => by kernel_rfl)
  · exact D2.gv_val (fun _ _ _ h => h) (fun g w => by kernel_rfl)
  · exact D2.gv_val (fun _ _ _ h => h) (fun g w => by kernel_rfl)
  · exact D2.gv_call 21 #[.int .i64 1, .int .i64 0] (fun _ _ _ h => h) (at_fn 1 0 (by omega) (by omega)) (fun g w => by kernel_rfl)
  · exact D2.gv_val (fun _ _ _ h => h) (fun g w => by kernel_rfl)
  · exact D2.gv_load1 25 (.tmp 67) 3 (fun g => b1) (fun g => 1) (fun g => (Value.cells (svn s))) 26 (0, 0) (fun _ _ _ h => h) (fun g => by kernel_rfl) (fun g => by kernel_rfl) (fun L g hN => (by kernel_rfl)) (by kernel_rfl) (fun L g hN hF => by kernel_rfl)
  · exact D2.gv_val (fun _ _ _ h => h) (fun g w => by kernel_rfl)
  · exact D2.gv_valE (fun _ _ _ h => h) (V' := .int .u64 (Go.bits .xor .u64 (((BitVec.toNat (nth s 1) : Nat) : Int)) (((BitVec.toNat (dD (cC s) 1) : Nat) : Int)))) (fun g w => by kernel_rfl) (bv_xor_u64 (nth s 1) (dD (cC s) 1))
  · exact D2.gv_val (fun _ _ _ h => h) (fun g w => by kernel_rfl)
  · exact D2.gv_val (fun _ _ _ h => h) (fun g w => by kernel_rfl)
  · exact D2.gv_call 23 #[.int .i64 1, .int .i64 0] (fun _ _ _ h => h) (by have h := turnR_fn 1 0 (by omega) (by omega); rw [show rotN 1 0 = 1 by decide] at h; exact h) (fun g w => by kernel_rfl)
  · exact D2.gv_call 22 #[wv (th s 1), .int .i64 1] (fun _ _ _ h => h) (left_fn (th s 1) 1 (by omega) (by omega)) (fun g w => by kernel_rfl)
  · exact D2.gv_val (fun _ _ _ h => h) (fun g w => by kernel_rfl)
  · exact D2.gv_store 0 25 (.tmp 75) (.tmp 74) (fun g => b4) (fun g => 10) (Value.cells (bS4 s)) (Value.cells (bS5 s)) 26 (wv (pI s 10)) (fun g => by kernel_rfl) (fun g => by kernel_rfl) (fun g => by kernel_rfl) (by kernel_rfl) (by kernel_rfl) (fun g => (of_decide_eq_true (by kernel_rfl))) (fun g => (by kernel_rfl)) (fun L g hN => ⟨(by have hL19 : L 19 = false := hN.1; exact D2.ent_get' (p := true) (e := (bif L 19 then (b4, Obj.cells (Value.cells (bS5 s)) 26 (0, 0)) else (b4, Obj.cells (Value.cells (bS4 s)) 26 (0, 0)))) (by kernel_rfl) (by rfl) (by simp only [hL19, cond_true, cond_false] <;> rfl)), (by kernel_rfl)⟩) (fun L g hN hF => hF)
  intro L0 G39 w39 hall HL; clear H38
  have H39 : St w.heap.size w w39 [(b4, Obj.cells (Value.cells (bS5 s)) 26 (0, 0)), (b3, Obj.cells (Value.cells (cS24 s)) 44 (0, 0)), (b2, Obj.cells Z25 26 (0, 0)), (b1, Obj.cells (Value.cells (svn s)) 26 (0, 0))] := by have e19 := hall 19 (Nat.le_of_ble_eq_true (by kernel_rfl)); have hS := D2.StE.st HL.1; simp only [e19, cond_true, D2.pres] at hS; exact hS
  clear HL hall
  show WP _ _ _ _ _ _
  refine g_reg0 [0, 1, 2] (by kernel_rfl) ?_
  refine s_val (some 55) (.int .i64 0) (fun w => by kernel_rfl) (by kernel_rfl) ?_
  refine s_val (some 56) (.int .i64 1) (fun w => by kernel_rfl) (by kernel_rfl) ?_
  refine s_val (some 11) (.int .i64 1) (fun w => by kernel_rfl) (by kernel_rfl) ?_
  refine s_nil ?_
  show WPL _ _ _ _ _ _
  refine g_next ?_
  refine g_seq (by kernel_rfl) ?_
  refine g_sreg [0, 1] (by kernel_rfl) (by kernel_rfl) ?_
  refine s_val (some 53) (.int .i64 1) (fun w => by kernel_rfl) (by kernel_rfl) ?_
  refine s_val (some 54) (.bool true) (fun w => by kernel_rfl) (by kernel_rfl) ?_
  refine s_nil ?_
  refine g_cond_t (by kernel_rfl) (by kernel_rfl) ?_
  refine g_skip (by kernel_rfl) ?_
  show WP _ _ _ _ _ _
  refine g_seq (by kernel_rfl) ?_
  refine g_block 7 (by kernel_rfl) ?_
  refine D2.g_draw0 [0, 1, 2, 3, 4, 5, 6, 7, 8, 9, 10, 11, 12, 13, 14, 15, 16, 17, 18, 19] [((some 57), fun _ => .int .i64 1), ((some 58), fun _ => .int .i64 1), ((some 59), fun _ => .int .i64 2), ((some 60), fun _ => .int .i64 1), ((some 61), fun _ => .int .i64 3), ((some 62), fun _ => .int .i64 5), ((some 63), fun _ => .int .i64 1), ((some 64), fun _ => .int .i64 1), ((some 65), fun _ => .int .i64 1), ((some 66), fun _ => .int .i64 6), ((some 67), fun _ => .pointer (some ⟨b1, 6, none⟩)), ((some 68), fun _ => wv (nth s 6)), ((some 69), fun _ => wv (dD (cC s) 1)), ((some 70), fun _ => wv (th s 6)), ((some 71), fun _ => .int .i64 1), ((some 72), fun _ => .int .i64 1), ((some 73), fun _ => .int .i64 44), ((some 74), fun _ => wv (pI s 1)), ((some 75), fun _ => .pointer (some ⟨b4, 1, none⟩)), (none, fun _ => undef)] (D2.Pre w.heap.size w (fun L g => [(true, (bif L 19 then (b4, Obj.cells (Value.cells (bS6 s)) 26 (0, 0)) else (b4, Obj.cells (Value.cells (bS5 s)) 26 (0, 0)))), (true, (b3, Obj.cells (Value.cells (cS24 s)) 44 (0, 0))), (true, (b2, Obj.cells Z25 26 (0, 0))), (true, (b1, Obj.cells (Value.cells (svn s)) 26 (0, 0)))]) (fun L g => True)) (by kernel_rfl) (by kernel_rfl) (by kernel_rfl) ⟨D2.StE.of H39.drew _ (by kernel_rfl), trivial⟩ ⟨?_, ?_, ?_, ?_, ?_, ?_, ?_, ?_, ?_, ?_, ?_, ?_, ?_, ?_, ?_, ?_, ?_, ?_, ?_, ?_, trivial⟩ ?_
  · exact D2.gv_val (fun _ _ _ h => h) (fun g w => by kernel_rfl)
  · exact D2.gv_val (fun _ _ _ h => h) (fun g w => by kernel_rfl)
  · exact D2.gv_val (fun _ _ _ h => h) (fun g w => by kernel_rfl)
  · exact D2.gv_val (fun _ _ _ h => h) (fun g w => by kernel_rfl)
  · exact D2.gv_val (fun _ _ _ h => h) (fun g w => by kernel_rfl)
  · exact D2.gv_val (fun _ _ _ h => h) (fun g w => by kernel_rfl)
  · exact D2.gv_call 21 #[.int .i64 1, .int .i64 5] (fun _ _ _ h => h) (at_fn 1 5 (by omega) (by omega)) (fun g w => by kernel_rfl)
  · exact D2.gv_val (fun _ _ _ h => h) (fun g w => by kernel_rfl)
  · exact D2.gv_val (fun _ _ _ h => h) (fun g w => by kernel_rfl)
  · exact D2.gv_call 21 #[.int .i64 1, .int .i64 1] (fun _ _ _ h => h) (at_fn 1 1 (by omega) (by omega)) (fun g w => by kernel_rfl)
  · exact D2.gv_val (fun _ _ _ h => h) (fun g w => by kernel_rfl)
  · exact D2.gv_load1 25 (.tmp 67) 3 (fun g => b1) (fun g => 6) (fun g => (Value.cells (svn s))) 26 (0, 0) (fun _ _ _ h => h) (fun g => by kernel_rfl) (fun g => by kernel_rfl) (fun L g hN => (by kernel_rfl)) (by kernel_rfl) (fun L g hN hF => by kernel_rfl)
  · exact D2.gv_val (fun _ _ _ h => h) (fun g w => by kernel_rfl)
  · exact D2.gv_valE (fun _ _ _ h => h) (V' := .int .u64 (Go.bits .xor .u64 (((BitVec.toNat (nth s 6) : Nat) : Int)) (((BitVec.toNat (dD (cC s) 1) : Nat) : Int)))) (fun g w => by kernel_rfl) (bv_xor_u64 (nth s 6) (dD (cC s) 1))
  · exact D2.gv_val (fun _ _ _ h => h) (fun g w => by kernel_rfl)
  · exact D2.gv_val (fun _ _ _ h => h) (fun g w => by kernel_rfl)
  · exact D2.gv_call 23 #[.int .i64 1, .int .i64 1] (fun _ _ _ h => h) (by have h := turnR_fn 1 1 (by omega) (by omega); rw [show rotN 1 1 = 44 by decide] at h; exact h) (fun g w => by kernel_rfl)
  · exact D2.gv_call 22 #[wv (th s 6), .int .i64 44] (fun _ _ _ h => h) (left_fn (th s 6) 44 (by omega) (by omega)) (fun g w => by kernel_rfl)
  · exact D2.gv_val (fun _ _ _ h => h) (fun g w => by kernel_rfl)
  · exact D2.gv_store 0 25 (.tmp 75) (.tmp 74) (fun g => b4) (fun g => 1) (Value.cells (bS5 s)) (Value.cells (bS6 s)) 26 (wv (pI s 1)) (fun g => by kernel_rfl) (fun g => by kernel_rfl) (fun g => by kernel_rfl) (by kernel_rfl) (by kernel_rfl) (fun g => (of_decide_eq_true (by kernel_rfl))) (fun g => (by kernel_rfl)) (fun L g hN => ⟨(by have hL19 : L 19 = false := hN.1; exact D2.ent_get' (p := true) (e := (bif L 19 then (b4, Obj.cells (Value.cells (bS6 s)) 26 (0, 0)) else (b4, Obj.cells (Value.cells (bS5 s)) 26 (0, 0)))) (by kernel_rfl) (by rfl) (by simp only [hL19, cond_true, cond_false] <;> rfl)), (by kernel_rfl)⟩) (fun L g hN hF => hF)
  intro L0 G40 w40 hall HL; clear H39
  have H40 : St w.heap.size w w40 [(b4, Obj.cells (Value.cells (bS6 s)) 26 (0, 0)), (b3, Obj.cells (Value.cells (cS24 s)) 44 (0, 0)), (b2, Obj.cells Z25 26 (0, 0)), (b1, Obj.cells (Value.cells (svn s)) 26 (0, 0))] := by have e19 := hall 19 (Nat.le_of_ble_eq_true (by kernel_rfl)); have hS := D2.StE.st HL.1; simp only [e19, cond_true, D2.pres] at hS; exact hS
  clear HL hall
  show WP _ _ _ _ _ _
  refine g_reg0 [0, 1, 2] (by kernel_rfl) ?_
  refine s_val (some 55) (.int .i64 1) (fun w => by kernel_rfl) (by kernel_rfl) ?_
  refine s_val (some 56) (.int .i64 2) (fun w => by kernel_rfl) (by kernel_rfl) ?_
  refine s_val (some 11) (.int .i64 2) (fun w => by kernel_rfl) (by kernel_rfl) ?_
  refine s_nil ?_
  show WPL _ _ _ _ _ _
  refine g_next ?_
  refine g_seq (by kernel_rfl) ?_
  refine g_sreg [0, 1] (by kernel_rfl) (by kernel_rfl) ?_
  refine s_val (some 53) (.int .i64 2) (fun w => by kernel_rfl) (by kernel_rfl) ?_
  refine s_val (some 54) (.bool true) (fun w => by kernel_rfl) (by kernel_rfl) ?_
  refine s_nil ?_
  refine g_cond_t (by kernel_rfl) (by kernel_rfl) ?_
  refine g_skip (by kernel_rfl) ?_
  show WP _ _ _ _ _ _
  refine g_seq (by kernel_rfl) ?_
  refine g_block 7 (by kernel_rfl) ?_
  refine D2.g_draw0 [0, 1, 2, 3, 4, 5, 6, 7, 8, 9, 10, 11, 12, 13, 14, 15, 16, 17, 18, 19] [((some 57), fun _ => .int .i64 2), ((some 58), fun _ => .int .i64 1), ((some 59), fun _ => .int .i64 2), ((some 60), fun _ => .int .i64 2), ((some 61), fun _ => .int .i64 6), ((some 62), fun _ => .int .i64 8), ((some 63), fun _ => .int .i64 17), ((some 64), fun _ => .int .i64 1), ((some 65), fun _ => .int .i64 2), ((some 66), fun _ => .int .i64 11), ((some 67), fun _ => .pointer (some ⟨b1, 11, none⟩)), ((some 68), fun _ => wv (nth s 11)), ((some 69), fun _ => wv (dD (cC s) 1)), ((some 70), fun _ => wv (th s 11)), ((some 71), fun _ => .int .i64 1), ((some 72), fun _ => .int .i64 2), ((some 73), fun _ => .int .i64 10), ((some 74), fun _ => wv (pI s 17)), ((some 75), fun _ => .pointer (some ⟨b4, 17, none⟩)), (none, fun _ => undef)] (D2.Pre w.heap.size w (fun L g => [(true, (bif L 19 then (b4, Obj.cells (Value.cells (bS7 s)) 26 (0, 0)) else (b4, Obj.cells (Value.cells (bS6 s)) 26 (0, 0)))), (true, (b3, Obj.cells (Value.cells (cS24 s)) 44 (0, 0))), (true, (b2, Obj.cells Z25 26 (0, 0))), (true, (b1, Obj.cells (Value.cells (svn s)) 26 (0, 0)))]) (fun L g => True)) (by kernel_rfl) (by kernel_rfl) (by kernel_rfl) ⟨D2.StE.of H40.drew _ (by kernel_rfl), trivial⟩ ⟨?_, ?_, ?_, ?_, ?_, ?_, ?_, ?_, ?_, ?_, ?_, ?_, ?_, ?_, ?_, ?_, ?_, ?_, ?_, ?_, trivial⟩ ?_
  · exact D2.gv_val (fun _ _ _ h => h) (fun g w => by kernel_rfl)
  · exact D2.gv_val (fun _ _ _ h => h) (fun g w => by kernel_rfl)
  · exact D2.gv_val (fun _ _ _ h => h) (fun g w => by kernel_rfl)
  · exact D2.gv_val (fun _ _ _ h => h) (fun g w => by kernel_rfl)
  · exact D2.gv_val (fun _ _ _ h => h) (fun g w => by kernel_rfl)
  · exact D2.gv_val (fun _ _ _ h => h) (fun g w => by kernel_rfl)
  · exact D2.gv_call 21 #[.int .i64 2, .int .i64 8] (fun _ _ _ h => h) (at_fn 2 8 (by omega) (by omega)) (fun g w => by kernel_rfl)
  · exact D2.gv_val (fun _ _ _ h => h) (fun g w => by kernel_rfl)
  · exact D2.gv_val (fun _ _ _ h => h) (fun g w => by kernel_rfl)
  · exact D2.gv_call 21 #[.int .i64 1, .int .i64 2] (fun _ _ _ h => h) (at_fn 1 2 (by omega) (by omega)) (fun g w => by kernel_rfl)
  · exact D2.gv_val (fun _ _ _ h => h) (fun g w => by kernel_rfl)
  · exact D2.gv_load1 25 (.tmp 67) 3 (fun g => b1) (fun g => 11) (fun g => (Value.cells (svn s))) 26 (0, 0) (fun _ _ _ h => h) (fun g => by kernel_rfl) (fun g => by kernel_rfl) (fun L g hN => (by kernel_rfl)) (by kernel_rfl) (fun L g hN hF => by kernel_rfl)
  · exact D2.gv_val (fun _ _ _ h => h) (fun g w => by kernel_rfl)
  · exact D2.gv_valE (fun _ _ _ h => h) (V' := .int .u64 (Go.bits .xor .u64 (((BitVec.toNat (nth s 11) : Nat) : Int)) (((BitVec.toNat (dD (cC s) 1) : Nat) : Int)))) (fun g w => by kernel_rfl) (bv_xor_u64 (nth s 11) (dD (cC s) 1))
  · exact D2.gv_val (fun _ _ _ h => h) (fun g w => by kernel_rfl)
  · exact D2.gv_val (fun _ _ _ h => h) (fun g w => by kernel_rfl)
  · exact D2.gv_call 23 #[.int .i64 1, .int .i64 2] (fun _ _ _ h => h) (by have h := turnR_fn 1 2 (by omega) (by omega); rw [show rotN 1 2 = 10 by decide] at h; exact h) (fun g w => by kernel_rfl)
  · exact D2.gv_call 22 #[wv (th s 11), .int .i64 10] (fun _ _ _ h => h) (left_fn (th s 11) 10 (by omega) (by omega)) (fun g w => by kernel_rfl)
  · exact D2.gv_val (fun _ _ _ h => h) (fun g w => by kernel_rfl)
  · exact D2.gv_store 0 25 (.tmp 75) (.tmp 74) (fun g => b4) (fun g => 17) (Value.cells (bS6 s)) (Value.cells (bS7 s)) 26 (wv (pI s 17)) (fun g => by kernel_rfl) (fun g => by kernel_rfl) (fun g => by kernel_rfl) (by kernel_rfl) (by kernel_rfl) (fun g => (of_decide_eq_true (by kernel_rfl))) (fun g => (by kernel_rfl)) (fun L g hN => ⟨(by have hL19 : L 19 = false := hN.1; exact D2.ent_get' (p := true) (e := (bif L 19 then (b4, Obj.cells (Value.cells (bS7 s)) 26 (0, 0)) else (b4, Obj.cells (Value.cells (bS6 s)) 26 (0, 0)))) (by kernel_rfl) (by rfl) (by simp only [hL19, cond_true, cond_false] <;> rfl)), (by kernel_rfl)⟩) (fun L g hN hF => hF)
  intro L0 G41 w41 hall HL; clear H40
  have H41 : St w.heap.size w w41 [(b4, Obj.cells (Value.cells (bS7 s)) 26 (0, 0)), (b3, Obj.cells (Value.cells (cS24 s)) 44 (0, 0)), (b2, Obj.cells Z25 26 (0, 0)), (b1, Obj.cells (Value.cells (svn s)) 26 (0, 0))] := by have e19 := hall 19 (Nat.le_of_ble_eq_true (by kernel_rfl)); have hS := D2.StE.st HL.1; simp only [e19, cond_true, D2.pres] at hS; exact hS
  clear HL hall
  show WP _ _ _ _ _ _
  refine g_reg0 [0, 1, 2] (by kernel_rfl) ?_
  refine s_val (some 55) (.int .i64 2) (fun w => by kernel_rfl) (by kernel_rfl) ?_
  refine s_val (some 56) (.int .i64 3) (fun w => by kernel_rfl) (by kernel_rfl) ?_
  refine s_val (some 11) (.int .i64 3) (fun w => by kernel_rfl) (by kernel_rfl) ?_
  refine s_nil ?_
  show WPL _ _ _ _ _ _
  refine g_next ?_
  refine g_seq (by kernel_rfl) ?_
  refine g_sreg [0, 1] (by kernel_rfl) (by kernel_rfl) ?_
  refine s_val (some 53) (.int .i64 3) (fun w => by kernel_rfl) (by kernel_rfl) ?_
  refine s_val (some 54) (.bool true) (fun w => by kernel_rfl) (by kernel_rfl) ?_
  refine s_nil ?_
  refine g_cond_t (by kernel_rfl) (by kernel_rfl) ?_
  refine g_skip (by kernel_rfl) ?_
  show WP _ _ _ _ _ _
  refine g_seq (by kernel_rfl) ?_
  refine g_block 7 (by kernel_rfl) ?_
  refine D2.g_draw0 [0, 1, 2, 3, 4, 5, 6, 7, 8, 9, 10, 11, 12, 13, 14, 15, 16, 17, 18, 19] [((some 57), fun _ => .int .i64 3), ((some 58), fun _ => .int .i64 1), ((some 59), fun _ => .int .i64 2), ((some 60), fun _ => .int .i64 3), ((some 61), fun _ => .int .i64 9), ((some 62), fun _ => .int .i64 11), ((some 63), fun _ => .int .i64 8), ((some 64), fun _ => .int .i64 1), ((some 65), fun _ => .int .i64 3), ((some 66), fun _ => .int .i64 16), ((some 67), fun _ => .pointer (some ⟨b1, 16, none⟩)), ((some 68), fun _ => wv (nth s 16)), ((some 69), fun _ => wv (dD (cC s) 1)), ((some 70), fun _ => wv (th s 16)), ((some 71), fun _ => .int .i64 1), ((some 72), fun _ => .int .i64 3), ((some 73), fun _ => .int .i64 45), ((some 74), fun _ => wv (pI s 8)), ((some 75), fun _ => .pointer (some ⟨b4, 8, none⟩)), (none, fun _ => undef)] (D2.Pre w.heap.size w (fun L g => [(true, (bif L 19 then (b4, Obj.cells (Value.cells (bS8 s)) 26 (0, 0)) else (b4, Obj.cells (Value.cells (bS7 s)) 26 (0, 0)))), (true, (b3, Obj.cells (Value.cells (cS24 s)) 44 (0, 0))), (true, (b2, Obj.cells Z25 26 (0, 0))), (true, (b1, Obj.cells (Value.cells (svn s)) 26 (0, 0)))]) (fun L g => True)) (by kernel_rfl) (by kernel_rfl) (by kernel_rfl) ⟨D2.StE.of H41.drew _ (by kernel_rfl), trivial⟩ ⟨?_, ?_, ?_, ?_, ?_, ?_, ?_, ?_, ?_, ?_, ?_, ?_, ?_, ?_, ?_, ?_, ?_, ?_, ?_, ?_, trivial⟩ ?_
  · exact D2.gv_val (fun _ _ _ h => h) (fun g w => by kernel_rfl)
  · exact D2.gv_val (fun _ _ _ h => h) (fun g w => by kernel_rfl)
  · exact D2.gv_val (fun _ _ _ h => h) (fun g w => by kernel_rfl)
  · exact D2.gv_val (fun _ _ _ h => h) (fun g w => by kernel_rfl)
  · exact D2.gv_val (fun _ _ _ h => h) (fun g w => by kernel_rfl)
  · exact D2.gv_val (fun _ _ _ h => h) (fun g w => by kernel_rfl)
  · exact D2.gv_call 21 #[.int .i64 3, .int .i64 11] (fun _ _ _ h => h) (at_fn 3 11 (by omega) (by omega)) (fun g w => by kernel_rfl)
  · exact D2.gv_val (fun _ _ _ h => h) (fun g w => by kernel_rfl)
  · exact D2.gv_val (fun _ _ _ h => h) (fun g w => by kernel_rfl)
  · exact D2.gv_call 21 #[.int .i64 1, .int .i64 3] (fun _ _ _ h => h) (at_fn 1 3 (by omega) (by omega)) (fun g w => by kernel_rfl)
  · exact D2.gv_val (fun _ _ _ h => h) (fun g w => by kernel_rfl)
  · exact D2.gv_load1 25 (.tmp 67) 3 (fun g => b1) (fun g => 16) (fun g => (Value.cells (svn s))) 26 (0, 0) (fun _ _ _ h => h) (fun g => by kernel_rfl) (fun g => by kernel_rfl) (fun L g hN => (by kernel_rfl)) (by kernel_rfl) (fun L g hN hF => by kernel_rfl)
  · exact D2.gv_val (fun _ _ _ h => h) (fun g w => by kernel_rfl)
  · exact D2.gv_valE (fun _ _ _ h => h) (V' := .int .u64 (Go.bits .xor .u64 (((BitVec.toNat (nth s 16) : Nat) : Int)) (((BitVec.toNat (dD (cC s) 1) : Nat) : Int)))) (fun g w => by kernel_rfl) (bv_xor_u64 (nth s 16) (dD (cC s) 1))
  · exact D2.gv_val (fun _ _ _ h => h) (fun g w => by kernel_rfl)
  · exact D2.gv_val (fun _ _ _ h => h) (fun g w => by kernel_rfl)
  · exact D2.gv_call 23 #[.int .i64 1, .int .i64 3] (fun _ _ _ h => h) (by have h := turnR_fn 1 3 (by omega) (by omega); rw [show rotN 1 3 = 45 by decide] at h; exact h) (fun g w => by kernel_rfl)
  · exact D2.gv_call 22 #[wv (th s 16), .int .i64 45] (fun _ _ _ h => h) (left_fn (th s 16) 45 (by omega) (by omega)) (fun g w => by kernel_rfl)
  · exact D2.gv_val (fun _ _ _ h => h) (fun g w => by kernel_rfl)
  · exact D2.gv_store 0 25 (.tmp 75) (.tmp 74) (fun g => b4) (fun g => 8) (Value.cells (bS7 s)) (Value.cells (bS8 s)) 26 (wv (pI s 8)) (fun g => by kernel_rfl) (fun g => by kernel_rfl) (fun g => by kernel_rfl) (by kernel_rfl) (by kernel_rfl) (fun g => (of_decide_eq_true (by kernel_rfl))) (fun g => (by kernel_rfl)) (fun L g hN => ⟨(by have hL19 : L 19 = false := hN.1; exact D2.ent_get' (p := true) (e := (bif L 19 then (b4, Obj.cells (Value.cells (bS8 s)) 26 (0, 0)) else (b4, Obj.cells (Value.cells (bS7 s)) 26 (0, 0)))) (by kernel_rfl) (by rfl) (by simp only [hL19, cond_true, cond_false] <;> rfl)), (by kernel_rfl)⟩) (fun L g hN hF => hF)
  intro L0 G42 w42 hall HL; clear H41
  have H42 : St w.heap.size w w42 [(b4, Obj.cells (Value.cells (bS8 s)) 26 (0, 0)), (b3, Obj.cells (Value.cells (cS24 s)) 44 (0, 0)), (b2, Obj.cells Z25 26 (0, 0)), (b1, Obj.cells (Value.cells (svn s)) 26 (0, 0))] := by have e19 := hall 19 (Nat.le_of_ble_eq_true (by kernel_rfl)); have hS := D2.StE.st HL.1; simp only [e19, cond_true, D2.pres] at hS; exact hS
  clear HL hall
  show WP _ _ _ _ _ _
  refine g_reg0 [0, 1, 2] (by kernel_rfl) ?_
  refine s_val (some 55) (.int .i64 3) (fun w => by kernel_rfl) (by kernel_rfl) ?_
  refine s_val (some 56) (.int .i64 4) (fun w => by kernel_rfl) (by kernel_rfl) ?_
  refine s_val (some 11) (.int .i64 4) (fun w => by kernel_rfl) (by kernel_rfl) ?_
  refine s_nil ?_
  show WPL _ _ _ _ _ _
  refine g_next ?_
  refine g_seq (by kernel_rfl) ?_
  refine g_sreg [0, 1] (by kernel_rfl) (by kernel_rfl) ?_
  refine s_val (some 53) (.int .i64 4) (fun w => by kernel_rfl) (by kernel_rfl) ?_
  refine s_val (some 54) (.bool true) (fun w => by kernel_rfl) (by kernel_rfl) ?_
  refine s_nil ?_
  refine g_cond_t (by kernel_rfl) (by kernel_rfl) ?_
  refine g_skip (by kernel_rfl) ?_
  show WP _ _ _ _ _ _
  refine g_seq (by kernel_rfl) ?_
  refine g_block 7 (by kernel_rfl) ?_
  refine D2.g_draw0 [0, 1, 2, 3, 4, 5, 6, 7, 8, 9, 10, 11, 12, 13, 14, 15, 16, 17, 18, 19] [((some 57), fun _ => .int .i64 4), ((some 58), fun _ => .int .i64 1), ((some 59), fun _ => .int .i64 2), ((some 60), fun _ => .int .i64 4), ((some 61), fun _ => .int .i64 12), ((some 62), fun _ => .int .i64 14), ((some 63), fun _ => .int .i64 24), ((some 64), fun _ => .int .i64 1), ((some 65), fun _ => .int .i64 4), ((some 66), fun _ => .int .i64 21), ((some 67), fun _ => .pointer (some ⟨b1, 21, none⟩)), ((some 68), fun _ => wv (nth s 21)), ((some 69), fun _ => wv (dD (cC s) 1)), ((some 70), fun _ => wv (th s 21)), ((some 71), fun _ => .int .i64 1), ((some 72), fun _ => .int .i64 4), ((some 73), fun _ => .int .i64 2), ((some 74), fun _ => wv (pI s 24)), ((some 75), fun _ => .pointer (some ⟨b4, 24, none⟩)), (none, fun _ => undef)] (D2.Pre w.heap.size w (fun L g => [(true, (bif L 19 then (b4, Obj.cells (Value.cells (bS9 s)) 26 (0, 0)) else (b4, Obj.cells (Value.cells (bS8 s)) 26 (0, 0)))), (true, (b3, Obj.cells (Value.cells (cS24 s)) 44 (0, 0))), (true, (b2, Obj.cells Z25 26 (0, 0))), (true, (b1, Obj.cells (Value.cells (svn s)) 26 (0, 0)))]) (fun L g => True)) (by kernel_rfl) (by kernel_rfl) (by kernel_rfl) ⟨D2.StE.of H42.drew _ (by kernel_rfl), trivial⟩ ⟨?_, ?_, ?_, ?_, ?_, ?_, ?_, ?_, ?_, ?_, ?_, ?_, ?_, ?_, ?_, ?_, ?_, ?_, ?_, ?_, trivial⟩ ?_
  · exact D2.gv_val (fun _ _ _ h => h) (fun g w => by kernel_rfl)
  · exact D2.gv_val (fun _ _ _ h => h) (fun g w => by kernel_rfl)
  · exact D2.gv_val (fun _ _ _ h => h) (fun g w => by kernel_rfl)
  · exact D2.gv_val (fun _ _ _ h => h) (fun g w => by kernel_rfl)
  · exact D2.gv_val (fun _ _ _ h => h) (fun g w => by kernel_rfl)
  · exact D2.gv_val (fun _ _ _ h => h) (fun g w => by kernel_rfl)
  · exact D2.gv_call 21 #[.int .i64 4, .int .i64 14] (fun _ _ _ h => h) (at_fn 4 14 (by omega) (by omega)) (fun g w => by kernel_rfl)
  · exact D2.gv_val (fun _ _ _ h => h) (fun g w => by kernel_rfl)
  · exact D2.gv_val (fun _ _ _ h => h) (fun g w => by kernel_rfl)
  · exact D2.gv_call 21 #[.int .i64 1, .int .i64 4] (fun _ _ _ h => h) (at_fn 1 4 (by omega) (by omega)) (fun g w => by kernel_rfl)
  · exact D2.gv_val (fun _ _ _ h => h) (fun g w => by kernel_rfl)
  · exact D2.gv_load1 25 (.tmp 67) 3 (fun g => b1) (fun g => 21) (fun g => (Value.cells (svn s))) 26 (0, 0) (fun _ _ _ h => h) (fun g => by kernel_rfl) (fun g => by kernel_rfl) (fun L g hN => (by kernel_rfl)) (by kernel_rfl) (fun L g hN hF => by kernel_rfl)
  · exact D2.gv_val (fun _ _ _ h => h) (fun g w => by kernel_rfl)
  · exact D2.gv_valE (fun _ _ _ h => h) (V' := .int .u64 (Go.bits .xor .u64 (((BitVec.toNat (nth s 21) : Nat) : Int)) (((BitVec.toNat (dD (cC s) 1) : Nat) : Int)))) (fun g w => by kernel_rfl) (bv_xor_u64 (nth s 21) (dD (cC s) 1))
  · exact D2.gv_val (fun _ _ _ h => h) (fun g w => by kernel_rfl)
  · exact D2.gv_val (fun _ _ _ h => h) (fun g w => by kernel_rfl)
  · exact D2.gv_call 23 #[.int .i64 1, .int .i64 4] (fun _ _ _ h => h) (by have h := turnR_fn 1 4 (by omega) (by omega); rw [show rotN 1 4 = 2 by decide] at h; exact h) (fun g w => by kernel_rfl)
  · exact D2.gv_call 22 #[wv (th s 21), .int .i64 2] (fun _ _ _ h => h) (left_fn (th s 21) 2 (by omega) (by omega)) (fun g w => by kernel_rfl)
  · exact D2.gv_val (fun _ _ _ h => h) (fun g w => by kernel_rfl)
  · exact D2.gv_store 0 25 (.tmp 75) (.tmp 74) (fun g => b4) (fun g => 24) (Value.cells (bS8 s)) (Value.cells (bS9 s)) 26 (wv (pI s 24)) (fun g => by kernel_rfl) (fun g => by kernel_rfl) (fun g => by kernel_rfl) (by kernel_rfl) (by kernel_rfl) (fun g => (of_decide_eq_true (by kernel_rfl))) (fun g => (by kernel_rfl)) (fun L g hN => ⟨(by have hL19 : L 19 = false := hN.1; exact D2.ent_get' (p := true) (e := (bif L 19 then (b4, Obj.cells (Value.cells (bS9 s)) 26 (0, 0)) else (b4, Obj.cells (Value.cells (bS8 s)) 26 (0, 0)))) (by kernel_rfl) (by rfl) (by simp only [hL19, cond_true, cond_false] <;> rfl)), (by kernel_rfl)⟩) (fun L g hN hF => hF)
  intro L0 G43 w43 hall HL; clear H42
  have H43 : St w.heap.size w w43 [(b4, Obj.cells (Value.cells (bS9 s)) 26 (0, 0)), (b3, Obj.cells (Value.cells (cS24 s)) 44 (0, 0)), (b2, Obj.cells Z25 26 (0, 0)), (b1, Obj.cells (Value.cells (svn s)) 26 (0, 0))] := by have e19 := hall 19 (Nat.le_of_ble_eq_true (by kernel_rfl)); have hS := D2.StE.st HL.1; simp only [e19, cond_true, D2.pres] at hS; exact hS
  clear HL hall
  show WP _ _ _ _ _ _
  refine g_reg0 [0, 1, 2] (by kernel_rfl) ?_
  refine s_val (some 55) (.int .i64 4) (fun w => by kernel_rfl) (by kernel_rfl) ?_
  refine s_val (some 56) (.int .i64 5) (fun w => by kernel_rfl) (by kernel_rfl) ?_
  refine s_val (some 11) (.int .i64 5) (fun w => by kernel_rfl) (by kernel_rfl) ?_
  refine s_nil ?_
  show WPL _ _ _ _ _ _
  refine g_next ?_
  refine g_seq (by kernel_rfl) ?_
  refine g_sreg [0, 1] (by kernel_rfl) (by kernel_rfl) ?_
  refine s_val (some 53) (.int .i64 5) (fun w => by kernel_rfl) (by kernel_rfl) ?_
  refine s_val (some 54) (.bool false) (fun w => by kernel_rfl) (by kernel_rfl) ?_
  refine s_nil ?_
  refine g_cond_f (by kernel_rfl) (by kernel_rfl) ?_
  refine g_exit 6 (by kernel_rfl) ?_
  show WP _ _ _ _ _ _
  refine g_reg0 [0, 1, 2] (by kernel_rfl) ?_
  refine s_val (some 39) (.int .i64 1) (fun w => by kernel_rfl) (by kernel_rfl) ?_
  refine s_val (some 40) (.int .i64 2) (fun w => by kernel_rfl) (by kernel_rfl) ?_
  refine s_val (some 9) (.int .i64 2) (fun w => by kernel_rfl) (by kernel_rfl) ?_
  refine s_nil ?_
  show WPL _ _ _ _ _ _
  refine g_next ?_
  refine g_seq (by kernel_rfl) ?_
  refine g_sreg [0, 1] (by kernel_rfl) (by kernel_rfl) ?_
  refine s_val (some 37) (.int .i64 2) (fun w => by kernel_rfl) (by kernel_rfl) ?_
  refine s_val (some 38) (.bool true) (fun w => by kernel_rfl) (by kernel_rfl) ?_
  refine s_nil ?_
  refine g_cond_t (by kernel_rfl) (by kernel_rfl) ?_
  refine g_skip (by kernel_rfl) ?_
  show WP _ _ _ _ _ _
  refine g_seq (by kernel_rfl) ?_
  refine g_block 5 (by kernel_rfl) ?_
  refine D2.g_sdraw [0, 1, 2, 3, 4, 5, 6, 7, 8, 9, 10, 11, 12] [((some 41), fun _ => .int .i64 2), ((some 42), fun _ => .int .i64 6), ((some 43), fun _ => .int .i64 1), ((some 44), fun _ => .pointer (some ⟨b3, 1, none⟩)), ((some 45), fun _ => wv (cC s 1)), ((some 46), fun _ => .int .i64 2), ((some 47), fun _ => .int .i64 3), ((some 48), fun _ => .int .i64 3), ((some 49), fun _ => .pointer (some ⟨b3, 3, none⟩)), ((some 50), fun _ => wv (cC s 3)), ((some 51), fun _ => wv (rl (cC s 3) 1)), ((some 52), fun _ => wv (dD (cC s) 2)), ((some 10), fun _ => wv (dD (cC s) 2))] (D2.Pre w.heap.size w (fun L g => [(true, (b4, Obj.cells (Value.cells (bS9 s)) 26 (0, 0))), (true, (b3, Obj.cells (Value.cells (cS24 s)) 44 (0, 0))), (true, (b2, Obj.cells Z25 26 (0, 0))), (true, (b1, Obj.cells (Value.cells (svn s)) 26 (0, 0)))]) (fun L g => True)) (by kernel_rfl) (by kernel_rfl) (by kernel_rfl) (by kernel_rfl) ⟨D2.StE.of H43.drew _ (by kernel_rfl), trivial⟩ ⟨?_, ?_, ?_, ?_, ?_, ?_, ?_, ?_, ?_, ?_, ?_, ?_, ?_, trivial⟩ ?_
  · exact D2.gv_val (fun _ _ _ h => h) (fun g w => by kernel_rfl)
  · exact D2.gv_val (fun _ _ _ h => h) (fun g w => by kernel_rfl)
  · exact D2.gv_val (fun _ _ _ h => h) (fun g w => by kernel_rfl)
  · exact D2.gv_val (fun _ _ _ h => h) (fun g w => by kernel_rfl)
  · exact D2.gv_load1 25 (.tmp 44) 1 (fun g => b3) (fun g => 1) (fun g => (Value.cells (cS24 s))) 44 (0, 0) (fun _ _ _ h => h) (fun g => by kernel_rfl) (fun g => by kernel_rfl) (fun L g hN => (by kernel_rfl)) (by kernel_rfl) (fun L g hN hF => by kernel_rfl)
  · exact D2.gv_val (fun _ _ _ h => h) (fun g w => by kernel_rfl)
  · exact D2.gv_val (fun _ _ _ h => h) (fun g w => by kernel_rfl)
  · exact D2.gv_val (fun _ _ _ h => h) (fun g w => by kernel_rfl)
  · exact D2.gv_val (fun _ _ _ h => h) (fun g w => by kernel_rfl)
  · exact D2.gv_load1 25 (.tmp 49) 1 (fun g => b3) (fun g => 3) (fun g => (Value.cells (cS24 s))) 44 (0, 0) (fun _ _ _ h => h) (fun g => by kernel_rfl) (fun g => by kernel_rfl) (fun L g hN => (by kernel_rfl)) (by kernel_rfl) (fun L g hN hF => by kernel_rfl)
  · exact D2.gv_call 22 #[wv (cC s 3), .int .i64 1] (fun _ _ _ h => h) (left_fn (cC s 3) 1 (by omega) (by omega)) (fun g w => by kernel_rfl)
  · exact D2.gv_valE (fun _ _ _ h => h) (V' := .int .u64 (Go.bits .xor .u64 (((BitVec.toNat (cC s 1) : Nat) : Int)) (((BitVec.toNat (rl (cC s 3) 1) : Nat) : Int)))) (fun g w => by kernel_rfl) (bv_xor_u64 (cC s 1) (rl (cC s 3) 1))
  · exact D2.gv_val (fun _ _ _ h => h) (fun g w => by kernel_rfl)
  intro L0 G44 w44 hall HL; clear H43
  have H44 : St w.heap.size w w44 [(b4, Obj.cells (Value.cells (bS9 s)) 26 (0, 0)), (b3, Obj.cells (Value.cells (cS24 s)) 44 (0, 0)), (b2, Obj.cells Z25 26 (0, 0)), (b1, Obj.cells (Value.cells (svn s)) 26 (0, 0))] := D2.StE.st HL.1
  clear HL hall
  refine g_sreg [0] (by kernel_rfl) (by kernel_rfl) ?_
  refine s_val (some 11) (.int .i64 0) (fun w => by kernel_rfl) (by kernel_rfl) ?_
  refine s_nil ?_
  refine g_block 6 (by kernel_rfl) ?_
  refine g_first (by kernel_rfl) ?_
  refine g_seq (by kernel_rfl) ?_
  refine g_sreg [0, 1] (by kernel_rfl) (by kernel_rfl) ?_
  refine s_val (some 53) (.int .i64 0) (fun w => by kernel_rfl) (by kernel_rfl) ?_
  refine s_val (some 54) (.bool true) (fun w => by kernel_rfl) (by kernel_rfl) ?_
  refine s_nil ?_
  refine g_cond_t (by kernel_rfl) (by kernel_rfl) ?_
  refine g_skip (by kernel_rfl) ?_
  show WP _ _ _ _ _ _
  refine g_seq (by kernel_rfl) ?_
  refine g_block 7 (by kernel_rfl) ?_
  refine D2.g_draw0 [0, 1, 2, 3, 4, 5, 6, 7, 8, 9, 10, 11, 12, 13, 14, 15, 16, 17, 18, 19] [((some 57), fun _ => .int .i64 0), ((some 58), fun _ => .int .i64 2), ((some 59), fun _ => .int .i64 4), ((some 60), fun _ => .int .i64 0), ((some 61), fun _ => .int .i64 0), ((some 62), fun _ => .int .i64 4), ((some 63), fun _ => .int .i64 20), ((some 64), fun _ => .int .i64 2), ((some 65), fun _ => .int .i64 0), ((some 66), fun _ => .int .i64 2), ((some 67), fun _ => .pointer (some ⟨b1, 2, none⟩)), ((some 68), fun _ => wv (nth s 2)), ((some 69), fun _ => wv (dD (cC s) 2)), ((some 70), fun _ => wv (th s 2)), ((some 71), fun _ => .int .i64 2), ((some 72), fun _ => .int .i64 0), ((some 73), fun _ => .int .i64 62), ((some 74), fun _ => wv (pI s 20)), ((some 75), fun _ => .pointer (some ⟨b4, 20, none⟩)), (none, fun _ => undef)] (D2.Pre w.heap.size w (fun L g => [(true, (bif L 19 then (b4, Obj.cells (Value.cells (bS10 s)) 26 (0, 0)) else (b4, Obj.cells (Value.cells (bS9 s)) 26 (0, 0)))), (true, (b3, Obj.cells (Value.cells (cS24 s)) 44 (0, 0))), (true, (b2, Obj.cells Z25 26 (0, 0))), (true, (b1, Obj.cells (Value.cells (svn s)) 26 (0, 0)))]) (fun L g => True)) (by kernel_rfl) (by kernel_rfl) (by kernel_rfl) ⟨D2.StE.of H44.drew _ (by kernel_rfl), trivial⟩ ⟨?_, ?_, ?_, ?_, ?_, ?_, ?_, ?_, ?_, ?_, ?_, ?_, ?_, ?_, ?_, ?_, ?_, ?_, ?_, ?_, trivial⟩ ?_
  · exact D2.gv_val (fun _ _ _ h => h) (fun g w => by kernel_rfl)
  · exact D2.gv_val (fun _ _ _ h => h) (fun g w => by kernel_rfl)
  · exact D2.gv_val (fun _ _ _ h => h) (fun g w => by kernel_rfl)
  · exact D2.gv_val (fun _ _ _ h => h) (fun g w => by kernel_rfl)
  · exact D2.gv_val (fun _ _ _ h => h) (fun g w => by kernel_rfl)
  · exact D2.gv_val (fun _ _ _ h => h) (fun g w => by kernel_rfl)
  · exact D2.gv_call 21 #[.int .i64 0, .int .i64 4] (fun _ _ _ h => h) (at_fn 0 4 (by omega) (by omega)) (fun g w => by kernel_rfl)
  · exact D2.gv_val (fun _ _ _ h => h) (fun g w => by kernel_rfl)
  · exact D2.gv_val (fun _ _ _ h => h) (fun g w => by kernel_rfl)
  · exact D2.gv_call 21 #[.int .i64 2, .int .i64 0] (fun _ _ _ h => h) (at_fn 2 0 (by omega) (by omega)) (fun g w => by kernel_rfl)
  · exact D2.gv_val (fun _ _ _ h => h) (fun g w => by kernel_rfl)
  · exact D2.gv_load1 25 (.tmp 67) 3 (fun g => b1) (fun g => 2) (fun g => (Value.cells (svn s))) 26 (0, 0) (fun _ _ _ h => h) (fun g => by kernel_rfl) (fun g => by kernel_rfl) (fun L g hN => (by kernel_rfl)) (by kernel_rfl) (fun L g hN hF => by kernel_rfl)
  · exact D2.gv_val (fun _ _ _ h => h) (fun g w => by kernel_rfl)
  · exact D2.gv_valE (fun _ _ _ h => h) (V' := .int .u64 (Go.bits .xor .u64 (((BitVec.toNat (nth s 2) : Nat) : Int)) (((BitVec.toNat (dD (cC s) 2) : Nat) : Int)))) (fun g w => by kernel_rfl) (bv_xor_u64 (nth s 2) (dD (cC s) 2))
  · exact D2.gv_val (fun _ _ _ h => h) (fun g w => by kernel_rfl)
  · exact D2.gv_val (fun _ _ _ h => h) (fun g w => by kernel_rfl)
  · exact D2.gv_call 23 #[.int .i64 2, .int .i64 0] (fun _ _ _ h => h) (by have h := turnR_fn 2 0 (by omega) (by omega); rw [show rotN 2 0 = 62 by decide] at h; exact h) (fun g w => by kernel_rfl)
  · exact D2.gv_call 22 #[wv (th s 2), .int .i64 62] (fun _ _ _ h => h) (left_fn (th s 2) 62 (by omega) (by omega)) (fun g w => by kernel_rfl)
  · exact D2.gv_val (fun _ _ _ h => h) (fun g w => by kernel_rfl)
  · exact D2.gv_store 0 25 (.tmp 75) (.tmp 74) (fun g => b4) (fun g => 20) (Value.cells (bS9 s)) (Value.cells (bS10 s)) 26 (wv (pI s 20)) (fun g => by kernel_rfl) (fun g => by kernel_rfl) (fun g => by kernel_rfl) (by kernel_rfl) (by kernel_rfl) (fun g => (of_decide_eq_true (by kernel_rfl))) (fun g => (by kernel_rfl)) (fun L g hN => ⟨(by have hL19 : L 19 = false := hN.1; exact D2.ent_get' (p := true) (e := (bif L 19 then (b4, Obj.cells (Value.cells (bS10 s)) 26 (0, 0)) else (b4, Obj.cells (Value.cells (bS9 s)) 26 (0, 0)))) (by kernel_rfl) (by rfl) (by simp only [hL19, cond_true, cond_false] <;> rfl)), (by kernel_rfl)⟩) (fun L g hN hF => hF)
  intro L0 G45 w45 hall HL; clear H44
  have H45 : St w.heap.size w w45 [(b4, Obj.cells (Value.cells (bS10 s)) 26 (0, 0)), (b3, Obj.cells (Value.cells (cS24 s)) 44 (0, 0)), (b2, Obj.cells Z25 26 (0, 0)), (b1, Obj.cells (Value.cells (svn s)) 26 (0, 0))] := by have e19 := hall 19 (Nat.le_of_ble_eq_true (by kernel_rfl)); have hS := D2.StE.st HL.1; simp only [e19, cond_true, D2.pres] at hS; exact hS
  clear HL hall
  show WP _ _ _ _ _ _
  refine g_reg0 [0, 1, 2] (by kernel_rfl) ?_
  refine s_val (some 55) (.int .i64 0) (fun w => by kernel_rfl) (by kernel_rfl) ?_
  refine s_val (some 56) (.int .i64 1) (fun w => by kernel_rfl) (by kernel_rfl) ?_
  refine s_val (some 11) (.int .i64 1) (fun w => by kernel_rfl) (by kernel_rfl) ?_
  refine s_nil ?_
  show WPL _ _ _ _ _ _
  refine g_next ?_
  refine g_seq (by kernel_rfl) ?_
  refine g_sreg [0, 1] (by kernel_rfl) (by kernel_rfl) ?_
  refine s_val (some 53) (.int .i64 1) (fun w => by kernel_rfl) (by kernel_rfl) ?_
  refine s_val (some 54) (.bool true) (fun w => by kernel_rfl) (by kernel_rfl) ?_
  refine s_nil ?_
  refine g_cond_t (by kernel_rfl) (by kernel_rfl) ?_
  refine g_skip (by kernel_rfl) ?_
  show WP _ _ _ _ _ _
  refine g_seq (by kernel_rfl) ?_
  refine g_block 7 (by kernel_rfl) ?_
  refine D2.g_draw0 [0, 1, 2, 3, 4, 5, 6, 7, 8, 9, 10, 11, 12, 13, 14, 15, 16, 17, 18, 19] [((some 57), fun _ => .int .i64 1), ((some 58), fun _ => .int .i64 2), ((some 59), fun _ => .int .i64 4), ((some 60), fun _ => .int .i64 1), ((some 61), fun _ => .int .i64 3), ((some 62), fun _ => .int .i64 7), ((some 63), fun _ => .int .i64 11), ((some 64), fun _ => .int .i64 2), ((some 65), fun _ => .int .i64 1), ((some 66), fun _ => .int .i64 7), ((some 67), fun _ => .pointer (some ⟨b1, 7, none⟩)), ((some 68), fun _ => wv (nth s 7)), ((some 69), fun _ => wv (dD (cC s) 2)), ((some 70), fun _ => wv (th s 7)), ((some 71), fun _ => .int .i64 2), ((some 72), fun _ => .int .i64 1), ((some 73), fun _ => .int .i64 6), ((some 74), fun _ => wv (pI s 11)), ((some 75), fun _ => .pointer (some ⟨b4, 11, none⟩)), (none, fun _ => undef)] (D2.Pre w.heap.size w (fun L g => [(true, (bif L 19 then (b4, Obj.cells (Value.cells (bS11 s)) 26 (0, 0)) else (b4, Obj.cells (Value.cells (bS10 s)) 26 (0, 0)))), (true, (b3, Obj.cells (Value.cells (cS24 s)) 44 (0, 0))), (true, (b2, Obj.cells Z25 26 (0, 0))), (true, (b1, Obj.cells (Value.cells (svn s)) 26 (0, 0)))]) (fun L g => True)) (by kernel_rfl) (by kernel_rfl) (by kernel_rfl) ⟨D2.StE.of H45.drew _ (by kernel_rfl), trivial⟩ ⟨?_, ?_, ?_, ?_, ?_, ?_, ?_, ?_, ?_, ?_, ?_, ?_, ?_, ?_, ?_, ?_, ?_, ?_, ?_, ?_, trivial⟩ ?_
  · exact D2.gv_val (fun _ _ _ h => h) (fun g w => by kernel_rfl)
  · exact D2.gv_val (fun _ _ _ h => h) (fun g w => by kernel_rfl)
  · exact D2.gv_val (fun _ _ _ h => h) (fun g w => by kernel_rfl)
  · exact D2.gv_val (fun _ _ _ h => h) (fun g w => by kernel_rfl)
  · exact D2.gv_val (fun _ _ _ h => h) (fun g w => by kernel_rfl)
  · exact D2.gv_val (fun _ _ _ h => h) (fun g w => by kernel_rfl)
  · exact D2.gv_call 21 #[.int .i64 1, .int .i64 7] (fun _ _ _ h => h) (at_fn 1 7 (by omega) (by omega)) (fun g w => by kernel_rfl)
  · exact D2.gv_val (fun _ _ _ h => h) (fun g w => by kernel_rfl)
  · exact D2.gv_val (fun _ _ _ h => h) (fun g w => by kernel_rfl)
  · exact D2.gv_call 21 #[.int .i64 2, .int .i64 1] (fun _ _ _ h => h) (at_fn 2 1 (by omega) (by omega)) (fun g w => by kernel_rfl)
  · exact D2.gv_val (fun _ _ _ h => h) (fun g w => by kernel_rfl)
  · exact D2.gv_load1 25 (.tmp 67) 3 (fun g => b1) (fun g => 7) (fun g => (Value.cells (svn s))) 26 (0, 0) (fun _ _ _ h => h) (fun g => by kernel_rfl) (fun g => by kernel_rfl) (fun L g hN => (by kernel_rfl)) (by kernel_rfl) (fun L g hN hF => by kernel_rfl)
  · exact D2.gv_val (fun _ _ _ h => h) (fun g w => by kernel_rfl)
  · exact D2.gv_valE (fun _ _ _ h => h) (V' := .int .u64 (Go.bits .xor .u64 (((BitVec.toNat (nth s 7) : Nat) : Int)) (((BitVec.toNat (dD (cC s) 2) : Nat) : Int)))) (fun g w => by kernel_rfl) (bv_xor_u64 (nth s 7) (dD (cC s) 2))
  · exact D2.gv_val (fun _ _ _ h => h) (fun g w => by kernel_rfl)
  · exact D2.gv_val (fun _ _ _ h => h) (fun g w => by kernel_rfl)
  · exact D2.gv_call 23 #[.int .i64 2, .int .i64 1] (fun _ _ _ h => h) (by have h := turnR_fn 2 1 (by omega) (by omega); rw [show rotN 2 1 = 6 by decide] at h; exact h) (fun g w => by kernel_rfl)
  · exact D2.gv_call 22 #[wv (th s 7), .int .i64 6] (fun _ _ _ h => h) (left_fn (th s 7) 6 (by omega) (by omega)) (fun g w => by kernel_rfl)
  · exact D2.gv_val (fun _ _ _ h => h) (fun g w => by kernel_rfl)
  · exact D2.gv_store 0 25 (.tmp 75) (.tmp 74) (fun g => b4) (fun g => 11) (Value.cells (bS10 s)) (Value.cells (bS11 s)) 26 (wv (pI s 11)) (fun g => by kernel_rfl) (fun g => by kernel_rfl) (fun g => by kernel_rfl) (by kernel_rfl) (by kernel_rfl) (fun g => (of_decide_eq_true (by kernel_rfl))) (fun g => (by kernel_rfl)) (fun L g hN => ⟨(by have hL19 : L 19 = false := hN.1; exact D2.ent_get' (p := true) (e := (bif L 19 then (b4, Obj.cells (Value.cells (bS11 s)) 26 (0, 0)) else (b4, Obj.cells (Value.cells (bS10 s)) 26 (0, 0)))) (by kernel_rfl) (by rfl) (by simp only [hL19, cond_true, cond_false] <;> rfl)), (by kernel_rfl)⟩) (fun L g hN hF => hF)
  intro L0 G46 w46 hall HL; clear H45
  have H46 : St w.heap.size w w46 [(b4, Obj.cells (Value.cells (bS11 s)) 26 (0, 0)), (b3, Obj.cells (Value.cells (cS24 s)) 44 (0, 0)), (b2, Obj.cells Z25 26 (0, 0)), (b1, Obj.cells (Value.cells (svn s)) 26 (0, 0))] := by have e19 := hall 19 (Nat.le_of_ble_eq_true (by kernel_rfl)); have hS := D2.StE.st HL.1; simp only [e19, cond_true, D2.pres] at hS; exact hS
  clear HL hall
  show WP _ _ _ _ _ _
  refine g_reg0 [0, 1, 2] (by kernel_rfl) ?_
  refine s_val (some 55) (.int .i64 1) (fun w => by kernel_rfl) (by kernel_rfl) ?_
  refine s_val (some 56) (.int .i64 2) (fun w => by kernel_rfl) (by kernel_rfl) ?_
  refine s_val (some 11) (.int .i64 2) (fun w => by kernel_rfl) (by kernel_rfl) ?_
  refine s_nil ?_
  show WPL _ _ _ _ _ _
  refine g_next ?_
  refine g_seq (by kernel_rfl) ?_
  refine g_sreg [0, 1] (by kernel_rfl) (by kernel_rfl) ?_
  refine s_val (some 53) (.int .i64 2) (fun w => by kernel_rfl) (by kernel_rfl) ?_
  refine s_val (some 54) (.bool true) (fun w => by kernel_rfl) (by kernel_rfl) ?_
  refine s_nil ?_
  refine g_cond_t (by kernel_rfl) (by kernel_rfl) ?_
  refine g_skip (by kernel_rfl) ?_
  show WP _ _ _ _ _ _
  refine g_seq (by kernel_rfl) ?_
  refine g_block 7 (by kernel_rfl) ?_
  refine D2.g_draw0 [0, 1, 2, 3, 4, 5, 6, 7, 8, 9, 10, 11, 12, 13, 14, 15, 16, 17, 18, 19] [((some 57), fun _ => .int .i64 2), ((some 58), fun _ => .int .i64 2), ((some 59), fun _ => .int .i64 4), ((some 60), fun _ => .int .i64 2), ((some 61), fun _ => .int .i64 6), ((some 62), fun _ => .int .i64 10), ((some 63), fun _ => .int .i64 2), ((some 64), fun _ => .int .i64 2), ((some 65), fun _ => .int .i64 2), ((some 66), fun _ => .int .i64 12), ((some 67), fun _ => .pointer (some ⟨b1, 12, none⟩)), ((some 68), fun _ => wv (nth s 12)), ((some 69), fun _ => wv (dD (cC s) 2)), ((some 70), fun _ => wv (th s 12)), ((some 71), fun _ => .int .i64 2), ((some 72), fun _ => .int .i64 2), ((some 73), fun _ => .int .i64 43), ((some 74), fun _ => wv (pI s 2)), ((some 75), fun _ => .pointer (some ⟨b4, 2, none⟩)), (none, fun _ => undef)] (D2.Pre w.heap.size w (fun L g => [(true, (bif L 19 then (b4, Obj.cells (Value.cells (bS12 s)) 26 (0, 0)) else (b4, Obj.cells (Value.cells (bS11 s)) 26 (0, 0)))), (true, (b3, Obj.cells (Value.cells (cS24 s)) 44 (0, 0))), (true, (b2, Obj.cells Z25 26 (0, 0))), (true, (b1, Obj.cells (Value.cells (svn s)) 26 (0, 0)))]) (fun L g => True)) (by kernel_rfl) (by kernel_rfl) (by kernel_rfl) ⟨D2.StE.of H46.drew _ (by kernel_rfl), trivial⟩ ⟨?_, ?_, ?_, ?_, ?_, ?_, ?_, ?_, ?_, ?_, ?_, ?_, ?_, ?_, ?_, ?_, ?_, ?_, ?_, ?_, trivial⟩ ?_
  · exact D2.gv_val (fun _ _ _ h => h) (fun g w => by kernel_rfl)
  · exact D2.gv_val (fun _ _ _ h => h) (fun g w => by kernel_rfl)
  · exact D2.gv_val (fun _ _ _ h => h) (fun g w => by kernel_rfl)
  · exact D2.gv_val (fun _ _ _ h => h) (fun g w => by kernel_rfl)
  · exact D2.gv_val (fun _ _ _ h => h) (fun g w => by kernel_rfl)
  · exact D2.gv_val (fun _ _ _ h => h) (fun g w => by kernel_rfl)
  · exact D2.gv_call 21 #[.int .i64 2, .int .i64 10] (fun _ _ _ h => h) (at_fn 2 10 (by omega) (by omega)) (fun g w => by kernel_rfl)
  · exact D2.gv_val (fun _ _ _ h => h) (fun g w => by kernel_rfl)
  · exact D2.gv_val (fun _ _ _ h => h) (fun g w => by kernel_rfl)
  · exact D2.gv_call 21 #[.int .i64 2, .int .i64 2] (fun _ _ _ h => h) (at_fn 2 2 (by omega) (by omega)) (fun g w => by kernel_rfl)
  · exact D2.gv_val (fun _ _ _ h => h) (fun g w => by kernel_rfl)
  · exact D2.gv_load1 25 (.tmp 67) 3 (fun g => b1) (fun g => 12) (fun g => (Value.cells (svn s))) 26 (0, 0) (fun _ _ _ h => h) (fun g => by kernel_rfl) (fun g => by kernel_rfl) (fun L g hN => (by kernel_rfl)) (by kernel_rfl) (fun L g hN hF => by kernel_rfl)
  · exact D2.gv_val (fun _ _ _ h => h) (fun g w => by kernel_rfl)
  · exact D2.gv_valE (fun _ _ _ h => h) (V' := .int .u64 (Go.bits .xor .u64 (((BitVec.toNat (nth s 12) : Nat) : Int)) (((BitVec.toNat (dD (cC s) 2) : Nat) : Int)))) (fun g w => by kernel_rfl) (bv_xor_u64 (nth s 12) (dD (cC s) 2))
  · exact D2.gv_val (fun _ _ _ h => h) (fun g w => by kernel_rfl)
  · exact D2.gv_val (fun _ _ _ h => h) (fun g w => by kernel_rfl)
  · exact D2.gv_call 23 #[.int .i64 2, .int .i64 2] (fun _ _ _ h => h) (by have h := turnR_fn 2 2 (by omega) (by omega); rw [show rotN 2 2 = 43 by decide] at h; exact h) (fun g w => by kernel_rfl)
  · exact D2.gv_call 22 #[wv (th s 12), .int .i64 43] (fun _ _ _ h => h) (left_fn (th s 12) 43 (by omega) (by omega)) (fun g w => by kernel_rfl)
  · exact D2.gv_val (fun _ _ _ h => h) (fun g w => by kernel_rfl)
  · exact D2.gv_store 0 25 (.tmp 75) (.tmp 74) (fun g => b4) (fun g => 2) (Value.cells (bS11 s)) (Value.cells (bS12 s)) 26 (wv (pI s 2)) (fun g => by kernel_rfl) (fun g => by kernel_rfl) (fun g => by kernel_rfl) (by kernel_rfl) (by kernel_rfl) (fun g => (of_decide_eq_true (by kernel_rfl))) (fun g => (by kernel_rfl)) (fun L g hN => ⟨(by have hL19 : L 19 = false := hN.1; exact D2.ent_get' (p := true) (e := (bif L 19 then (b4, Obj.cells (Value.cells (bS12 s)) 26 (0, 0)) else (b4, Obj.cells (Value.cells (bS11 s)) 26 (0, 0)))) (by kernel_rfl) (by rfl) (by simp only [hL19, cond_true, cond_false] <;> rfl)), (by kernel_rfl)⟩) (fun L g hN hF => hF)
  intro L0 G47 w47 hall HL; clear H46
  have H47 : St w.heap.size w w47 [(b4, Obj.cells (Value.cells (bS12 s)) 26 (0, 0)), (b3, Obj.cells (Value.cells (cS24 s)) 44 (0, 0)), (b2, Obj.cells Z25 26 (0, 0)), (b1, Obj.cells (Value.cells (svn s)) 26 (0, 0))] := by have e19 := hall 19 (Nat.le_of_ble_eq_true (by kernel_rfl)); have hS := D2.StE.st HL.1; simp only [e19, cond_true, D2.pres] at hS; exact hS
  clear HL hall
  show WP _ _ _ _ _ _
  refine g_reg0 [0, 1, 2] (by kernel_rfl) ?_
  refine s_val (some 55) (.int .i64 2) (fun w => by kernel_rfl) (by kernel_rfl) ?_
  refine s_val (some 56) (.int .i64 3) (fun w => by kernel_rfl) (by kernel_rfl) ?_
  refine s_val (some 11) (.int .i64 3) (fun w => by kernel_rfl) (by kernel_rfl) ?_
  refine s_nil ?_
  show WPL _ _ _ _ _ _
  refine g_next ?_
  refine g_seq (by kernel_rfl) ?_
  refine g_sreg [0, 1] (by kernel_rfl) (by kernel_rfl) ?_
  refine s_val (some 53) (.int .i64 3) (fun w => by kernel_rfl) (by kernel_rfl) ?_
  refine s_val (some 54) (.bool true) (fun w => by kernel_rfl) (by kernel_rfl) ?_
  refine s_nil ?_
  refine g_cond_t (by kernel_rfl) (by kernel_rfl) ?_
  refine g_skip (by kernel_rfl) ?_
  show WP _ _ _ _ _ _
  refine g_seq (by kernel_rfl) ?_
  refine g_block 7 (by kernel_rfl) ?_
  refine D2.g_draw0 [0, 1, 2, 3, 4, 5, 6, 7, 8, 9, 10, 11, 12, 13, 14, 15, 16, 17, 18, 19] [((some 57), fun _ => .int .i64 3), ((some 58), fun _ => .int .i64 2), ((some 59), fun _ => .int .i64 4), ((some 60), fun _ => .int .i64 3), ((some 61), fun _ => .int .i64 9), ((some 62), fun _ => .int .i64 13), ((some 63), fun _ => .int .i64 18), ((some 64), fun _ => .int .i64 2), ((some 65), fun _ => .int .i64 3), ((some 66), fun _ => .int .i64 17), ((some 67), fun _ => .pointer (some ⟨b1, 17, none⟩)), ((some 68), fun _ => wv (nth s 17)), ((some 69), fun _ => wv (dD (cC s) 2)), ((some 70), fun _ => wv (th s 17)), ((some 71), fun _ => .int .i64 2), ((some 72), fun _ => .int .i64 3), ((some 73), fun _ => .int .i64 15), ((some 74), fun _ => wv (pI s 18)), ((some 75), fun _ => .pointer (some ⟨b4, 18, none⟩)), (none, fun _ => undef)] (D2.Pre w.heap.size w (fun L g => [(true, (bif L 19 then (b4, Obj.cells (Value.cells (bS13 s)) 26 (0, 0)) else (b4, Obj.cells (Value.cells (bS12 s)) 26 (0, 0)))), (true, (b3, Obj.cells (Value.cells (cS24 s)) 44 (0, 0))), (true, (b2, Obj.cells Z25 26 (0, 0))), (true, (b1, Obj.cells (Value.cells (svn s)) 26 (0, 0)))]) (fun L g => True)) (by kernel_rfl) (by kernel_rfl) (by kernel_rfl) ⟨D2.StE.of H47.drew _ (by kernel_rfl), trivial⟩ ⟨?_, ?_, ?_, ?_, ?_, ?_, ?_, ?_, ?_, ?_, ?_, ?_, ?_, ?_, ?_, ?_, ?_, ?_, ?_, ?_, trivial⟩ ?_
  · exact D2.gv_val (fun _ _ _ h => h) (fun g w => by kernel_rfl)
  · exact D2.gv_val (fun _ _ _ h => h) (fun g w => by kernel_rfl)
  · exact D2.gv_val (fun _ _ _ h => h) (fun g w => by kernel_rfl)
  · exact D2.gv_val (fun _ _ _ h => h) (fun g w => by kernel_rfl)
  · exact D2.gv_val (fun _ _ _ h => h) (fun g w => by kernel_rfl)
  · exact D2.gv_val (fun _ _ _ h => h) (fun g w => by kernel_rfl)
  · exact D2.gv_call 21 #[.int .i64 3, .int .i64 13] (fun _ _ _ h => h) (at_fn 3 13 (by omega) (by omega)) (fun g w => by kernel_rfl)
  · exact D2.gv_val (fun _ _ _ h => h) (fun g w => by kernel_rfl)
  · exact D2.gv_val (fun _ _ _ h => h) (fun g w => by kernel_rfl)
  · exact D2.gv_call 21 #[.int .i64 2, .int .i64 3] (fun _ _ _ h => h) (at_fn 2 3 (by omega) (by omega)) (fun g w => by kernel_rfl)
  · exact D2.gv_val (fun _ _ _ h => h) (fun g w => by kernel_rfl)
  · exact D2.gv_load1 25 (.tmp 67) 3 (fun g => b1) (fun g => 17) (fun g => (Value.cells (svn s))) 26 (0, 0) (fun _ _ _ h => h) (fun g => by kernel_rfl) (fun g => by kernel_rfl) (fun L g hN => (by kernel_rfl)) (by kernel_rfl) (fun L g hN hF => by kernel_rfl)
  · exact D2.gv_val (fun _ _ _ h => h) (fun g w => by kernel_rfl)
  · exact D2.gv_valE (fun _ _ _ h => h) (V' := .int .u64 (Go.bits .xor .u64 (((BitVec.toNat (nth s 17) : Nat) : Int)) (((BitVec.toNat (dD (cC s) 2) : Nat) : Int)))) (fun g w => by kernel_rfl) (bv_xor_u64 (nth s 17) (dD (cC s) 2))
  · exact D2.gv_val (fun _ _ _ h => h) (fun g w => by kernel_rfl)
  · exact D2.gv_val (fun _ _ _ h => h) (fun g w => by kernel_rfl)
  · exact D2.gv_call 23 #[.int .i64 2, .int .i64 3] (fun _ _ _ h => h) (by have h := turnR_fn 2 3 (by omega) (by omega); rw [show rotN 2 3 = 15 by decide] at h; exact h) (fun g w => by kernel_rfl)
  · exact D2.gv_call 22 #[wv (th s 17), .int .i64 15] (fun _ _ _ h => h) (left_fn (th s 17) 15 (by omega) (by omega)) (fun g w => by kernel_rfl)
  · exact D2.gv_val (fun _ _ _ h => h) (fun g w => by kernel_rfl)
  · exact D2.gv_store 0 25 (.tmp 75) (.tmp 74) (fun g => b4) (fun g => 18) (Value.cells (bS12 s)) (Value.cells (bS13 s)) 26 (wv (pI s 18)) (fun g => by kernel_rfl) (fun g => by kernel_rfl) (fun g => by kernel_rfl) (by kernel_rfl) (by kernel_rfl) (fun g => (of_decide_eq_true (by kernel_rfl))) (fun g => (by kernel_rfl)) (fun L g hN => ⟨(by have hL19 : L 19 = false := hN.1; exact D2.ent_get' (p := true) (e := (bif L 19 then (b4, Obj.cells (Value.cells (bS13 s)) 26 (0, 0)) else (b4, Obj.cells (Value.cells (bS12 s)) 26 (0, 0)))) (by kernel_rfl) (by rfl) (by simp only [hL19, cond_true, cond_false] <;> rfl)), (by kernel_rfl)⟩) (fun L g hN hF => hF)
  intro L0 G48 w48 hall HL; clear H47
  have H48 : St w.heap.size w w48 [(b4, Obj.cells (Value.cells (bS13 s)) 26 (0, 0)), (b3, Obj.cells (Value.cells (cS24 s)) 44 (0, 0)), (b2, Obj.cells Z25 26 (0, 0)), (b1, Obj.cells (Value.cells (svn s)) 26 (0, 0))] := by have e19 := hall 19 (Nat.le_of_ble_eq_true (by kernel_rfl)); have hS := D2.StE.st HL.1; simp only [e19, cond_true, D2.pres] at hS; exact hS
  clear HL hall
  show WP _ _ _ _ _ _
  refine g_reg0 [0, 1, 2] (by kernel_rfl) ?_
  refine s_val (some 55) (.int .i64 3) (fun w => by kernel_rfl) (by kernel_rfl) ?_
  refine s_val (some 56) (.int .i64 4) (fun w => by kernel_rfl) (by kernel_rfl) ?_
  refine s_val (some 11) (.int .i64 4) (fun w => by kernel_rfl) (by kernel_rfl) ?_
  refine s_nil ?_
  show WPL _ _ _ _ _ _
  refine g_next ?_
  refine g_seq (by kernel_rfl) ?_
  refine g_sreg [0, 1] (by kernel_rfl) (by kernel_rfl) ?_
  refine s_val (some 53) (.int .i64 4) (fun w => by kernel_rfl) (by kernel_rfl) ?_
  refine s_val (some 54) (.bool true) (fun w => by kernel_rfl) (by kernel_rfl) ?_
  refine s_nil ?_
  refine g_cond_t (by kernel_rfl) (by kernel_rfl) ?_
  refine g_skip (by kernel_rfl) ?_
  show WP _ _ _ _ _ _
  refine g_seq (by kernel_rfl) ?_
  refine g_block 7 (by kernel_rfl) ?_
  refine D2.g_draw0 [0, 1, 2, 3, 4, 5, 6, 7, 8, 9, 10, 11, 12, 13, 14, 15, 16, 17, 18, 19] [((some 57), fun _ => .int .i64 4), ((some 58), fun _ => .int .i64 2), ((some 59), fun _ => .int .i64 4), ((some 60), fun _ => .int .i64 4), ((some 61), fun _ => .int .i64 12), ((some 62), fun _ => .int .i64 16), ((some 63), fun _ => .int .i64 9), ((some 64), fun _ => .int .i64 2), ((some 65), fun _ => .int .i64 4), ((some 66), fun _ => .int .i64 22), ((some 67), fun _ => .pointer (some ⟨b1, 22, none⟩)), ((some 68), fun _ => wv (nth s 22)), ((some 69), fun _ => wv (dD (cC s) 2)), ((some 70), fun _ => wv (th s 22)), ((some 71), fun _ => .int .i64 2), ((some 72), fun _ => .int .i64 4), ((some 73), fun _ => .int .i64 61), ((some 74), fun _ => wv (pI s 9)), ((some 75), fun _ => .pointer (some ⟨b4, 9, none⟩)), (none, fun _ => undef)] (D2.Pre w.heap.size w (fun L g => [(true, (bif L 19 then (b4, Obj.cells (Value.cells (bS14 s)) 26 (0, 0)) else (b4, Obj.cells (Value.cells (bS13 s)) 26 (0, 0)))), (true, (b3, Obj.cells (Value.cells (cS24 s)) 44 (0, 0))), (true, (b2, Obj.cells Z25 26 (0, 0))), (true, (b1, Obj.cells (Value.cells (svn s)) 26 (0, 0)))]) (fun L g => True)) (by kernel_rfl) (by kernel_rfl) (by kernel_rfl) ⟨D2.StE.of H48.drew _ (by kernel_rfl), trivial⟩ ⟨?_, ?_, ?_, ?_, ?_, ?_, ?_, ?_, ?_, ?_, ?_, ?_, ?_, ?_, ?_, ?_, ?_, ?_, ?_, ?_, trivial⟩ ?_
  · exact D2.gv_val (fun _ _ _ h => h) (fun g w => by kernel_rfl)
  · exact D2.gv_val (fun _ _ _ h => h) (fun g w => by kernel_rfl)
  · exact D2.gv_val (fun _ _ _ h => h) (fun g w => by kernel_rfl)
  · exact D2.gv_val (fun _ _ _ h => h) (fun g w => by kernel_rfl)
  · exact D2.gv_val (fun _ _ _ h => h) (fun g w => by kernel_rfl)
  · exact D2.gv_val (fun _ _ _ h => h) (fun g w => by kernel_rfl)
  · exact D2.gv_call 21 #[.int .i64 4, .int .i64 16] (fun _ _ _ h => h) (at_fn 4 16 (by omega) (by omega)) (fun g w => by kernel_rfl)
  · exact D2.gv_val (fun _ _ _ h => h) (fun g w => by kernel_rfl)
  · exact D2.gv_val (fun _ _ _ h => h) (fun g w => by kernel_rfl)
  · exact D2.gv_call 21 #[.int .i64 2, .int .i64 4] (fun _ _ _ h => h) (at_fn 2 4 (by omega) (by omega)) (fun g w => by kernel_rfl)
  · exact D2.gv_val (fun _ _ _ h => h) (fun g w => by kernel_rfl)
  · exact D2.gv_load1 25 (.tmp 67) 3 (fun g => b1) (fun g => 22) (fun g => (Value.cells (svn s))) 26 (0, 0) (fun _ _ _ h => h) (fun g => by kernel_rfl) (fun g => by kernel_rfl) (fun L g hN => (by kernel_rfl)) (by kernel_rfl) (fun L g hN hF => by kernel_rfl)
  · exact D2.gv_val (fun _ _ _ h => h) (fun g w => by kernel_rfl)
  · exact D2.gv_valE (fun _ _ _ h => h) (V' := .int .u64 (Go.bits .xor .u64 (((BitVec.toNat (nth s 22) : Nat) : Int)) (((BitVec.toNat (dD (cC s) 2) : Nat) : Int)))) (fun g w => by kernel_rfl) (bv_xor_u64 (nth s 22) (dD (cC s) 2))
  · exact D2.gv_val (fun _ _ _ h => h) (fun g w => by kernel_rfl)
  · exact D2.gv_val (fun _ _ _ h => h) (fun g w => by kernel_rfl)
  · exact D2.gv_call 23 #[.int .i64 2, .int .i64 4] (fun _ _ _ h => h) (by have h := turnR_fn 2 4 (by omega) (by omega); rw [show rotN 2 4 = 61 by decide] at h; exact h) (fun g w => by kernel_rfl)
  · exact D2.gv_call 22 #[wv (th s 22), .int .i64 61] (fun _ _ _ h => h) (left_fn (th s 22) 61 (by omega) (by omega)) (fun g w => by kernel_rfl)
  · exact D2.gv_val (fun _ _ _ h => h) (fun g w => by kernel_rfl)
  · exact D2.gv_store 0 25 (.tmp 75) (.tmp 74) (fun g => b4) (fun g => 9) (Value.cells (bS13 s)) (Value.cells (bS14 s)) 26 (wv (pI s 9)) (fun g => by kernel_rfl) (fun g => by kernel_rfl) (fun g => by kernel_rfl) (by kernel_rfl) (by kernel_rfl) (fun g => (of_decide_eq_true (by kernel_rfl))) (fun g => (by kernel_rfl)) (fun L g hN => ⟨(by have hL19 : L 19 = false := hN.1; exact D2.ent_get' (p := true) (e := (bif L 19 then (b4, Obj.cells (Value.cells (bS14 s)) 26 (0, 0)) else (b4, Obj.cells (Value.cells (bS13 s)) 26 (0, 0)))) (by kernel_rfl) (by rfl) (by simp only [hL19, cond_true, cond_false] <;> rfl)), (by kernel_rfl)⟩) (fun L g hN hF => hF)
  intro L0 G49 w49 hall HL; clear H48
  have H49 : St w.heap.size w w49 [(b4, Obj.cells (Value.cells (bS14 s)) 26 (0, 0)), (b3, Obj.cells (Value.cells (cS24 s)) 44 (0, 0)), (b2, Obj.cells Z25 26 (0, 0)), (b1, Obj.cells (Value.cells (svn s)) 26 (0, 0))] := by have e19 := hall 19 (Nat.le_of_ble_eq_true (by kernel_rfl)); have hS := D2.StE.st HL.1; simp only [e19, cond_true, D2.pres] at hS; exact hS
  clear HL hall
  show WP _ _ _ _ _ _
  refine g_reg0 [0, 1, 2] (by kernel_rfl) ?_
  refine s_val (some 55) (.int .i64 4) (fun w => by kernel_rfl) (by kernel_rfl) ?_
  refine s_val (some 56) (.int .i64 5) (fun w => by kernel_rfl) (by kernel_rfl) ?_
  refine s_val (some 11) (.int .i64 5) (fun w => by kernel_rfl) (by kernel_rfl) ?_
  refine s_nil ?_
  show WPL _ _ _ _ _ _
  refine g_next ?_
  refine g_seq (by kernel_rfl) ?_
  refine g_sreg [0, 1] (by kernel_rfl) (by kernel_rfl) ?_
  refine s_val (some 53) (.int .i64 5) (fun w => by kernel_rfl) (by kernel_rfl) ?_
  refine s_val (some 54) (.bool false) (fun w => by kernel_rfl) (by kernel_rfl) ?_
  refine s_nil ?_
  refine g_cond_f (by kernel_rfl) (by kernel_rfl) ?_
  refine g_exit 6 (by kernel_rfl) ?_
  show WP _ _ _ _ _ _
  refine g_reg0 [0, 1, 2] (by kernel_rfl) ?_
  refine s_val (some 39) (.int .i64 2) (fun w => by kernel_rfl) (by kernel_rfl) ?_
  refine s_val (some 40) (.int .i64 3) (fun w => by kernel_rfl) (by kernel_rfl) ?_
  refine s_val (some 9) (.int .i64 3) (fun w => by kernel_rfl) (by kernel_rfl) ?_
  refine s_nil ?_
  show WPL _ _ _ _ _ _
  refine g_next ?_
  refine g_seq (by kernel_rfl) ?_
  refine g_sreg [0, 1] (by kernel_rfl) (by kernel_rfl) ?_
  refine s_val (some 37) (.int .i64 3) (fun w => by kernel_rfl) (by kernel_rfl) ?_
  refine s_val (some 38) (.bool true) (fun w => by kernel_rfl) (by kernel_rfl) ?_
  refine s_nil ?_
  refine g_cond_t (by kernel_rfl) (by kernel_rfl) ?_
  refine g_skip (by kernel_rfl) ?_
  show WP _ _ _ _ _ _
  refine g_seq (by kernel_rfl) ?_
  refine g_block 5 (by kernel_rfl) ?_
  refine D2.g_sdraw [0, 1, 2, 3, 4, 5, 6, 7, 8, 9, 10, 11, 12] [((some 41), fun _ => .int .i64 3), ((some 42), fun _ => .int .i64 7), ((some 43), fun _ => .int .i64 2), ((some 44), fun _ => .pointer (some ⟨b3, 2, none⟩)), ((some 45), fun _ => wv (cC s 2)), ((some 46), fun _ => .int .i64 3), ((some 47), fun _ => .int .i64 4), ((some 48), fun _ => .int .i64 4), ((some 49), fun _ => .pointer (some ⟨b3, 4, none⟩)), ((some 50), fun _ => wv (cC s 4)), ((some 51), fun _ => wv (rl (cC s 4) 1)), ((some 52), fun _ => wv (dD (cC s) 3)), ((some 10), fun _ => wv (dD (cC s) 3))] (D2.Pre w.heap.size w (fun L g => [(true, (b4, Obj.cells (Value.cells (bS14 s)) 26 (0, 0))), (true, (b3, Obj.cells (Value.cells (cS24 s)) 44 (0, 0))), (true, (b2, Obj.cells Z25 26 (0, 0))), (true, (b1, Obj.cells (Value.cells (svn s)) 26 (0, 0)))]) (fun L g => True)) (by kernel_rfl) (by kernel_rfl) (by kernel_rfl) (by kernel_rfl) ⟨D2.StE.of H49.drew _ (by kernel_rfl), trivial⟩ ⟨?_, ?_, ?_, ?_, ?_, ?_, ?_, ?_, ?_, ?_, ?_, ?_, ?_, trivial⟩ ?_
  · exact D2.gv_val (fun _ _ _ h => h) (fun g w => by kernel_rfl)
  · exact D2.gv_val (fun _ _ _ h => h) (fun g w => by kernel_rfl)
  · exact D2.gv_val (fun _ _ _ h => h) (fun g w => by kernel_rfl)
  · exact D2.gv_val (fun _ _ _ h => h) (fun g w => by kernel_rfl)
  · exact D2.gv_load1 25 (.tmp 44) 1 (fun g => b3) (fun g => 2) (fun g => (Value.cells (cS24 s))) 44 (0, 0) (fun _ _ _ h => h) (fun g => by kernel_rfl) (fun g => by kernel_rfl) (fun L g hN => (by kernel_rfl)) (by kernel_rfl) (fun L g hN hF => by kernel_rfl)
  · exact D2.gv_val (fun _ _ _ h => h) (fun g w => by kernel_rfl)
  · exact D2.gv_val (fun _ _ _ h => h) (fun g w => by kernel_rfl)
  · exact D2.gv_val (fun _ _ _ h => h) (fun g w => by kernel_rfl)
  · exact D2.gv_val (fun _ _ _ h => h) (fun g w => by kernel_rfl)
  · exact D2.gv_load1 25 (.tmp 49) 1 (fun g => b3) (fun g => 4) (fun g => (Value.cells (cS24 s))) 44 (0, 0) (fun _ _ _ h => h) (fun g => by kernel_rfl) (fun g => by kernel_rfl) (fun L g hN => (by kernel_rfl)) (by kernel_rfl) (fun L g hN hF => by kernel_rfl)
  · exact D2.gv_call 22 #[wv (cC s 4), .int .i64 1] (fun _ _ _ h => h) (left_fn (cC s 4) 1 (by omega) (by omega)) (fun g w => by kernel_rfl)
  · exact D2.gv_valE (fun _ _ _ h => h) (V' := .int .u64 (Go.bits .xor .u64 (((BitVec.toNat (cC s 2) : Nat) : Int)) (((BitVec.toNat (rl (cC s 4) 1) : Nat) : Int)))) (fun g w => by kernel_rfl) (bv_xor_u64 (cC s 2) (rl (cC s 4) 1))
  · exact D2.gv_val (fun _ _ _ h => h) (fun g w => by kernel_rfl)
  intro L0 G50 w50 hall HL; clear H49
  have H50 : St w.heap.size w w50 [(b4, Obj.cells (Value.cells (bS14 s)) 26 (0, 0)), (b3, Obj.cells (Value.cells (cS24 s)) 44 (0, 0)), (b2, Obj.cells Z25 26 (0, 0)), (b1, Obj.cells (Value.cells (svn s)) 26 (0, 0))] := D2.StE.st HL.1
  clear HL hall
  refine g_sreg [0] (by kernel_rfl) (by kernel_rfl) ?_
  refine s_val (some 11) (.int .i64 0) (fun w => by kernel_rfl) (by kernel_rfl) ?_
  refine s_nil ?_
  refine g_block 6 (by kernel_rfl) ?_
  refine g_first (by kernel_rfl) ?_
  refine g_seq (by kernel_rfl) ?_
  refine g_sreg [0, 1] (by kernel_rfl) (by kernel_rfl) ?_
  refine s_val (some 53) (.int .i64 0) (fun w => by kernel_rfl) (by kernel_rfl) ?_
  refine s_val (some 54) (.bool true) (fun w => by kernel_rfl) (by kernel_rfl) ?_
  refine s_nil ?_
  refine g_cond_t (by kernel_rfl) (by kernel_rfl) ?_
  refine g_skip (by kernel_rfl) ?_
  show WP _ _ _ _ _ _
  refine g_seq (by kernel_rfl) ?_
  refine g_block 7 (by kernel_rfl) ?_
  refine D2.g_draw0 [0, 1, 2, 3, 4, 5, 6, 7, 8, 9, 10, 11, 12, 13, 14, 15, 16, 17, 18, 19] [((some 57), fun _ => .int .i64 0), ((some 58), fun _ => .int .i64 3), ((some 59), fun _ => .int .i64 6), ((some 60), fun _ => .int .i64 0), ((some 61), fun _ => .int .i64 0), ((some 62), fun _ => .int .i64 6), ((some 63), fun _ => .int .i64 5), ((some 64), fun _ => .int .i64 3), ((some 65), fun _ => .int .i64 0), ((some 66), fun _ => .int .i64 3), ((some 67), fun _ => .pointer (some ⟨b1, 3, none⟩)), ((some 68), fun _ => wv (nth s 3)), ((some 69), fun _ => wv (dD (cC s) 3)), ((some 70), fun _ => wv (th s 3)), ((some 71), fun _ => .int .i64 3), ((some 72), fun _ => .int .i64 0), ((some 73), fun _ => .int .i64 28), ((some 74), fun _ => wv (pI s 5)), ((some 75), fun _ => .pointer (some ⟨b4, 5, none⟩)), (none, fun _ => undef)] (D2.Pre w.heap.size w (fun L g => [(true, (bif L 19 then (b4, Obj.cells (Value.cells (bS15 s)) 26 (0, 0)) else (b4, Obj.cells (Value.cells (bS14 s)) 26 (0, 0)))), (true, (b3, Obj.cells (Value.cells (cS24 s)) 44 (0, 0))), (true, (b2, Obj.cells Z25 26 (0, 0))), (true, (b1, Obj.cells (Value.cells (svn s)) 26 (0, 0)))]) (fun L g => True)) (by kernel_rfl) (by kernel_rfl) (by kernel_rfl) ⟨D2.StE.of H50.drew _ (by kernel_rfl), trivial⟩ ⟨?_, ?_, ?_, ?_, ?_, ?_, ?_, ?_, ?_, ?_, ?_, ?_, ?_, ?_, ?_, ?_, ?_, ?_, ?_, ?_, trivial⟩ ?_
  · exact D2.gv_val (fun _ _ _ h => h) (fun g w => by kernel_rfl)
  · exact D2.gv_val (fun _ _ _ h => h) (fun g w => by kernel_rfl)
  · exact D2.gv_val (fun _ _ _ h => h) (fun g w => by kernel_rfl)
  · exact D2.gv_val (fun _ _ _ h => h) (fun g w => by kernel_rfl)
  · exact D2.gv_val (fun _ _ _ h => h) (fun g w => by kernel_rfl)
  · exact D2.gv_val (fun _ _ _ h => h) (fun g w => by kernel_rfl)
  · exact D2.gv_call 21 #[.int .i64 0, .int .i64 6] (fun _ _ _ h => h) (at_fn 0 6 (by omega) (by omega)) (fun g w => by kernel_rfl)
  · exact D2.gv_val (fun _ _ _ h => h) (fun g w => by kernel_rfl)
  · exact D2.gv_val (fun _ _ _ h => h) (fun g w => by kernel_rfl)
  · exact D2.gv_call 21 #[.int .i64 3, .int .i64 0] (fun _ _ _ h => h) (at_fn 3 0 (by omega) (by omega)) (fun g w => by kernel_rfl)
  · exact D2.gv_val (fun _ _ _ h => h) (fun g w => by kernel_rfl)
  · exact D2.gv_load1 25 (.tmp 67) 3 (fun g => b1) (fun g => 3) (fun g => (Value.cells (svn s))) 26 (0, 0) (fun _ _ _ h => h) (fun g => by kernel_rfl) (fun g => by kernel_rfl) (fun L g hN => (by kernel_rfl)) (by kernel_rfl) (fun L g hN hF => by kernel_rfl)
  · exact D2.gv_val (fun _ _ _ h => h) (fun g w => by kernel_rfl)
  · exact D2.gv_valE (fun _ _ _ h => h) (V' := .int .u64 (Go.bits .xor .u64 (((BitVec.toNat (nth s 3) : Nat) : Int)) (((BitVec.toNat (dD (cC s) 3) : Nat) : Int)))) (fun g w => by kernel_rfl) (bv_xor_u64 (nth s 3) (dD (cC s) 3))
  · exact D2.gv_val (fun _ _ _ h => h) (fun g w => by kernel_rfl)
  · exact D2.gv_val (fun _ _ _ h => h) (fun g w => by kernel_rfl)
  · exact D2.gv_call 23 #[.int .i64 3, .int .i64 0] (fun _ _ _ h => h) (by have h := turnR_fn 3 0 (by omega) (by omega); rw [show rotN 3 0 = 28 by decide] at h; exact h) (fun g w => by kernel_rfl)
  · exact D2.gv_call 22 #[wv (th s 3), .int .i64 28] (fun _ _ _ h => h) (left_fn (th s 3) 28 (by omega) (by omega)) (fun g w => by kernel_rfl)
  · exact D2.gv_val (fun _ _ _ h => h) (fun g w => by kernel_rfl)
  · exact D2.gv_store 0 25 (.tmp 75) (.tmp 74) (fun g => b4) (fun g => 5) (Value.cells (bS14 s)) (Value.cells (bS15 s)) 26 (wv (pI s 5)) (fun g => by kernel_rfl) (fun g => by kernel_rfl) (fun g => by kernel_rfl) (by kernel_rfl) (by kernel_rfl) (fun g => (of_decide_eq_true (by kernel_rfl))) (fun g => (by kernel_rfl)) (fun L g hN => ⟨(by have hL19 : L 19 = false := hN.1; exact D2.ent_get' (p := true) (e := (bif L 19 then (b4, Obj.cells (Value.cells (bS15 s)) 26 (0, 0)) else (b4, Obj.cells (Value.cells (bS14 s)) 26 (0, 0)))) (by kernel_rfl) (by rfl) (by simp only [hL19, cond_true, cond_false] <;> rfl)), (by kernel_rfl)⟩) (fun L g hN hF => hF)
  intro L0 G51 w51 hall HL; clear H50
  have H51 : St w.heap.size w w51 [(b4, Obj.cells (Value.cells (bS15 s)) 26 (0, 0)), (b3, Obj.cells (Value.cells (cS24 s)) 44 (0, 0)), (b2, Obj.cells Z25 26 (0, 0)), (b1, Obj.cells (Value.cells (svn s)) 26 (0, 0))] := by have e19 := hall 19 (Nat.le_of_ble_eq_true (by kernel_rfl)); have hS := D2.StE.st HL.1; simp only [e19, cond_true, D2.pres] at hS; exact hS
  clear HL hall
  show WP _ _ _ _ _ _
  refine g_reg0 [0, 1, 2] (by kernel_rfl) ?_
  refine s_val (some 55) (.int .i64 0) (fun w => by kernel_rfl) (by kernel_rfl) ?_
  refine s_val (some 56) (.int .i64 1) (fun w => by kernel_rfl) (by kernel_rfl) ?_
  refine s_val (some 11) (.int .i64 1) (fun w => by kernel_rfl) (by kernel_rfl) ?_
  refine s_nil ?_
  show WPL _ _ _ _ _ _
  refine g_next ?_
  refine g_seq (by kernel_rfl) ?_
  refine g_sreg [0, 1] (by kernel_rfl) (by kernel_rfl) ?_
  refine s_val (some 53) (.int .i64 1) (fun w => by kernel_rfl) (by kernel_rfl) ?_
  refine s_val (some 54) (.bool true) (fun w => by kernel_rfl) (by kernel_rfl) ?_
  refine s_nil ?_
  refine g_cond_t (by kernel_rfl) (by kernel_rfl) ?_
  refine g_skip (by kernel_rfl) ?_
  show WP _ _ _ _ _ _
  refine g_seq (by kernel_rfl) ?_
  refine g_block 7 (by kernel_rfl) ?_
  refine D2.g_draw0 [0, 1, 2, 3, 4, 5, 6, 7, 8, 9, 10, 11, 12, 13, 14, 15, 16, 17, 18, 19] [((some 57), fun _ => .int .i64 1), ((some 58), fun _ => .int .i64 3), ((some 59), fun _ => .int .i64 6), ((some 60), fun _ => .int .i64 1), ((some 61), fun _ => .int .i64 3), ((some 62), fun _ => .int .i64 9), ((some 63), fun _ => .int .i64 21), ((some 64), fun _ => .int .i64 3), ((some 65), fun _ => .int .i64 1), ((some 66), fun _ => .int .i64 8), ((some 67), fun _ => .pointer (some ⟨b1, 8, none⟩)), ((some 68), fun _ => wv (nth s 8)), ((some 69), fun _ => wv (dD (cC s) 3)), ((some 70), fun _ => wv (th s 8)), ((some 71), fun _ => .int .i64 3), ((some 72), fun _ => .int .i64 1), ((some 73), fun _ => .int .i64 55), ((some 74), fun _ => wv (pI s 21)), ((some 75), fun _ => .pointer (some ⟨b4, 21, none⟩)), (none, fun _ => undef)] (D2.Pre w.heap.size w (fun L g => [(true, (bif L 19 then (b4, Obj.cells (Value.cells (bS16 s)) 26 (0, 0)) else (b4, Obj.cells (Value.cells (bS15 s)) 26 (0, 0)))), (true, (b3, Obj.cells (Value.cells (cS24 s)) 44 (0, 0))), (true, (b2, Obj.cells Z25 26 (0, 0))), (true, (b1, Obj.cells (Value.cells (svn s)) 26 (0, 0)))]) (fun L g => True)) (by kernel_rfl) (by kernel_rfl) (by kernel_rfl) ⟨D2.StE.of H51.drew _ (by kernel_rfl), trivial⟩ ⟨?_, ?_, ?_, ?_, ?_, ?_, ?_, ?_, ?_, ?_, ?_, ?_, ?_, ?_, ?_, ?_, ?_, ?_, ?_, ?_, trivial⟩ ?_
  · exact D2.gv_val (fun _ _ _ h => h) (fun g w => by kernel_rfl)
  · exact D2.gv_val (fun _ _ _ h => h) (fun g w => by kernel_rfl)
  · exact D2.gv_val (fun _ _ _ h => h) (fun g w => by kernel_rfl)
  · exact D2.gv_val (fun _ _ _ h => h) (fun g w => by kernel_rfl)
  · exact D2.gv_val (fun _ _ _ h => h) (fun g w => by kernel_rfl)
  · exact D2.gv_val (fun _ _ _ h => h) (fun g w => by kernel_rfl)
  · exact D2.gv_call 21 #[.int .i64 1, .int .i64 9] (fun _ _ _ h => h) (at_fn 1 9 (by omega) (by omega)) (fun g w => by kernel_rfl)
  · exact D2.gv_val (fun _ _ _ h => h) (fun g w => by kernel_rfl)
  · exact D2.gv_val (fun _ _ _ h => h) (fun g w => by kernel_rfl)
  · exact D2.gv_call 21 #[.int .i64 3, .int .i64 1] (fun _ _ _ h => h) (at_fn 3 1 (by omega) (by omega)) (fun g w => by kernel_rfl)
  · exact D2.gv_val (fun _ _ _ h => h) (fun g w => by kernel_rfl)
  · exact D2.gv_load1 25 (.tmp 67) 3 (fun g => b1) (fun g => 8) (fun g => (Value.cells (svn s))) 26 (0, 0) (fun _ _ _ h => h) (fun g => by kernel_rfl) (fun g => by kernel_rfl) (fun L g hN => (by kernel_rfl)) (by kernel_rfl) (fun L g hN hF => by kernel_rfl)
  · exact D2.gv_val (fun _ _ _ h => h) (fun g w => by kernel_rfl)
  · exact D2.gv_valE (fun _ _ _ h => h) (V' := .int .u64 (Go.bits .xor .u64 (((BitVec.toNat (nth s 8) : Nat) : Int)) (((BitVec.toNat (dD (cC s) 3) : Nat) : Int)))) (fun g w => by kernel_rfl) (bv_xor_u64 (nth s 8) (dD (cC s) 3))
  · exact D2.gv_val (fun _ _ _ h => h) (fun g w => by kernel_rfl)
  · exact D2.gv_val (fun _ _ _ h => h) (fun g w => by kernel_rfl)
  · exact D2.gv_call 23 #[.int .i64 3, .int .i64 1] (fun _ _ _ h => h) (by have h := turnR_fn 3 1 (by omega) (by omega); rw [show rotN 3 1 = 55 by decide] at h; exact h) (fun g w => by kernel_rfl)
  · exact D2.gv_call 22 #[wv (th s 8), .int .i64 55] (fun _ _ _ h => h) (left_fn (th s 8) 55 (by omega) (by omega)) (fun g w => by kernel_rfl)
  · exact D2.gv_val (fun _ _ _ h => h) (fun g w => by kernel_rfl)
  · exact D2.gv_store 0 25 (.tmp 75) (.tmp 74) (fun g => b4) (fun g => 21) (Value.cells (bS15 s)) (Value.cells (bS16 s)) 26 (wv (pI s 21)) (fun g => by kernel_rfl) (fun g => by kernel_rfl) (fun g => by kernel_rfl) (by kernel_rfl) (by kernel_rfl) (fun g => (of_decide_eq_true (by kernel_rfl))) (fun g => (by kernel_rfl)) (fun L g hN => ⟨(by have hL19 : L 19 = false := hN.1; exact D2.ent_get' (p := true) (e := (bif L 19 then (b4, Obj.cells (Value.cells (bS16 s)) 26 (0, 0)) else (b4, Obj.cells (Value.cells (bS15 s)) 26 (0, 0)))) (by kernel_rfl) (by rfl) (by simp only [hL19, cond_true, cond_false] <;> rfl)), (by kernel_rfl)⟩) (fun L g hN hF => hF)
  intro L0 G52 w52 hall HL; clear H51
  have H52 : St w.heap.size w w52 [(b4, Obj.cells (Value.cells (bS16 s)) 26 (0, 0)), (b3, Obj.cells (Value.cells (cS24 s)) 44 (0, 0)), (b2, Obj.cells Z25 26 (0, 0)), (b1, Obj.cells (Value.cells (svn s)) 26 (0, 0))] := by have e19 := hall 19 (Nat.le_of_ble_eq_true (by kernel_rfl)); have hS := D2.StE.st HL.1; simp only [e19, cond_true, D2.pres] at hS; exact hS
  clear HL hall
  show WP _ _ _ _ _ _
  refine g_reg0 [0, 1, 2] (by kernel_rfl) ?_
  refine s_val (some 55) (.int .i64 1) (fun w => by kernel_rfl) (by kernel_rfl) ?_
  refine s_val (some 56) (.int .i64 2) (fun w => by kernel_rfl) (by kernel_rfl) ?_
  refine s_val (some 11) (.int .i64 2) (fun w => by kernel_rfl) (by kernel_rfl) ?_
  refine s_nil ?_
  show WPL _ _ _ _ _ _
  refine g_next ?_
  refine g_seq (by kernel_rfl) ?_
  refine g_sreg [0, 1] (by kernel_rfl) (by kernel_rfl) ?_
  refine s_val (some 53) (.int .i64 2) (fun w => by kernel_rfl) (by kernel_rfl) ?_
  refine s_val (some 54) (.bool true) (fun w => by kernel_rfl) (by kernel_rfl) ?_
  refine s_nil ?_
  refine g_cond_t (by kernel_rfl) (by kernel_rfl) ?_
  refine g_skip (by kernel_rfl) ?_
  show WP _ _ _ _ _ _
  refine g_seq (by kernel_rfl) ?_
  refine g_block 7 (by kernel_rfl) ?_
  refine D2.g_draw0 [0, 1, 2, 3, 4, 5, 6, 7, 8, 9, 10, 11, 12, 13, 14, 15, 16, 17, 18, 19] [((some 57), fun _ => .int .i64 2), ((some 58), fun _ => .int .i64 3), ((some 59), fun _ => .int .i64 6), ((some 60), fun _ => .int .i64 2), ((some 61), fun _ => .int .i64 6), ((some 62), fun _ => .int .i64 12), ((some 63), fun _ => .int .i64 12), ((some 64), fun _ => .int .i64 3), ((some 65), fun _ => .int .i64 2), ((some 66), fun _ => .int .i64 13), ((some 67), fun _ => .pointer (some ⟨b1, 13, none⟩)), ((some 68), fun _ => wv (nth s 13)), ((some 69), fun _ => wv (dD (cC s) 3)), ((some 70), fun _ => wv (th s 13)), ((some 71), fun _ => .int .i64 3), ((some 72), fun _ => .int .i64 2), ((some 73), fun _ => .int .i64 25), ((some 74), fun _ => wv (pI s 12)), ((some 75), fun _ => .pointer (some ⟨b4, 12, none⟩)), (none, fun _ => undef)] (D2.Pre w.heap.size w (fun L g => [(true, (bif L 19 then (b4, Obj.cells (Value.cells (bS17 s)) 26 (0, 0)) else (b4, Obj.cells (Value.cells (bS16 s)) 26 (0, 0)))), (true, (b3, Obj.cells (Value.cells (cS24 s)) 44 (0, 0))), (true, (b2, Obj.cells Z25 26 (0, 0))), (true, (b1, Obj.cells (Value.cells (svn s)) 26 (0, 0)))]) (fun L g => True)) (by kernel_rfl) (by kernel_rfl) (by kernel_rfl) ⟨D2.StE.of H52.drew _ (by kernel_rfl), trivial⟩ ⟨?_, ?_, ?_, ?_, ?_, ?_, ?_, ?_, ?_, ?_, ?_, ?_, ?_, ?_, ?_, ?_, ?_, ?_, ?_, ?_, trivial⟩ ?_
  · exact D2.gv_val (fun _ _ _ h => h) (fun g w => by kernel_rfl)
  · exact D2.gv_val (fun _ _ _ h => h) (fun g w => by kernel_rfl)
  · exact D2.gv_val (fun _ _ _ h => h) (fun g w => by kernel_rfl)
  · exact D2.gv_val (fun _ _ _ h => h) (fun g w => by kernel_rfl)
  · exact D2.gv_val (fun _ _ _ h => h) (fun g w => by kernel_rfl)
  · exact D2.gv_val (fun _ _ _ h => h) (fun g w => by kernel_rfl)
  · exact D2.gv_call 21 #[.int .i64 2, .int .i64 12] (fun _ _ _ h => h) (at_fn 2 12 (by omega) (by omega)) (fun g w => by kernel_rfl)
  · exact D2.gv_val (fun _ _ _ h => h) (fun g w => by kernel_rfl)
  · exact D2.gv_val (fun _ _ _ h => h) (fun g w => by kernel_rfl)
  · exact D2.gv_call 21 #[.int .i64 3, .int .i64 2] (fun _ _ _ h => h) (at_fn 3 2 (by omega) (by omega)) (fun g w => by kernel_rfl)
  · exact D2.gv_val (fun _ _ _ h => h) (fun g w => by kernel_rfl)
  · exact D2.gv_load1 25 (.tmp 67) 3 (fun g => b1) (fun g => 13) (fun g => (Value.cells (svn s))) 26 (0, 0) (fun _ _ _ h => h) (fun g => by kernel_rfl) (fun g => by kernel_rfl) (fun L g hN => (by kernel_rfl)) (by kernel_rfl) (fun L g hN hF => by kernel_rfl)
  · exact D2.gv_val (fun _ _ _ h => h) (fun g w => by kernel_rfl)
  · exact D2.gv_valE (fun _ _ _ h => h) (V' := .int .u64 (Go.bits .xor .u64 (((BitVec.toNat (nth s 13) : Nat) : Int)) (((BitVec.toNat (dD (cC s) 3) : Nat) : Int)))) (fun g w => by kernel_rfl) (bv_xor_u64 (nth s 13) (dD (cC s) 3))
  · exact D2.gv_val (fun _ _ _ h => h) (fun g w => by kernel_rfl)
  · exact D2.gv_val (fun _ _ _ h => h) (fun g w => by kernel_rfl)
  · exact D2.gv_call 23 #[.int .i64 3, .int .i64 2] (fun _ _ _ h => h) (by have h := turnR_fn 3 2 (by omega) (by omega); rw [show rotN 3 2 = 25 by decide] at h; exact h) (fun g w => by kernel_rfl)
  · exact D2.gv_call 22 #[wv (th s 13), .int .i64 25] (fun _ _ _ h => h) (left_fn (th s 13) 25 (by omega) (by omega)) (fun g w => by kernel_rfl)
  · exact D2.gv_val (fun _ _ _ h => h) (fun g w => by kernel_rfl)
  · exact D2.gv_store 0 25 (.tmp 75) (.tmp 74) (fun g => b4) (fun g => 12) (Value.cells (bS16 s)) (Value.cells (bS17 s)) 26 (wv (pI s 12)) (fun g => by kernel_rfl) (fun g => by kernel_rfl) (fun g => by kernel_rfl) (by kernel_rfl) (by kernel_rfl) (fun g => (of_decide_eq_true (by kernel_rfl))) (fun g => (by kernel_rfl)) (fun L g hN => ⟨(by have hL19 : L 19 = false := hN.1; exact D2.ent_get' (p := true) (e := (bif L 19 then (b4, Obj.cells (Value.cells (bS17 s)) 26 (0, 0)) else (b4, Obj.cells (Value.cells (bS16 s)) 26 (0, 0)))) (by kernel_rfl) (by rfl) (by simp only [hL19, cond_true, cond_false] <;> rfl)), (by kernel_rfl)⟩) (fun L g hN hF => hF)
  intro L0 G53 w53 hall HL; clear H52
  have H53 : St w.heap.size w w53 [(b4, Obj.cells (Value.cells (bS17 s)) 26 (0, 0)), (b3, Obj.cells (Value.cells (cS24 s)) 44 (0, 0)), (b2, Obj.cells Z25 26 (0, 0)), (b1, Obj.cells (Value.cells (svn s)) 26 (0, 0))] := by have e19 := hall 19 (Nat.le_of_ble_eq_true (by kernel_rfl)); have hS := D2.StE.st HL.1; simp only [e19, cond_true, D2.pres] at hS; exact hS
  clear HL hall
  show WP _ _ _ _ _ _
  refine g_reg0 [0, 1, 2] (by kernel_rfl) ?_
  refine s_val (some 55) (.int .i64 2) (fun w => by kernel_rfl) (by kernel_rfl) ?_
  refine s_val (some 56) (.int .i64 3) (fun w => by kernel_rfl) (by kernel_rfl) ?_
  refine s_val (some 11) (.int .i64 3) (fun w => by kernel_rfl) (by kernel_rfl) ?_
  refine s_nil ?_
  show WPL _ _ _ _ _ _
  refine g_next ?_
  refine g_seq (by kernel_rfl) ?_
  refine g_sreg [0, 1] (by kernel_rfl) (by kernel_rfl) ?_
  refine s_val (some 53) (.int .i64 3) (fun w => by kernel_rfl) (by kernel_rfl) ?_
  refine s_val (some 54) (.bool true) (fun w => by kernel_rfl) (by kernel_rfl) ?_
  refine s_nil ?_
  refine g_cond_t (by kernel_rfl) (by kernel_rfl) ?_
  refine g_skip (by kernel_rfl) ?_
  show WP _ _ _ _ _ _
  refine g_seq (by kernel_rfl) ?_
  refine g_block 7 (by kernel_rfl) ?_
  refine D2.g_draw0 [0, 1, 2, 3, 4, 5, 6, 7, 8, 9, 10, 11, 12, 13, 14, 15, 16, 17, 18, 19] [((some 57), fun _ => .int .i64 3), ((some 58), fun _ => .int .i64 3), ((some 59), fun _ => .int .i64 6), ((some 60), fun _ => .int .i64 3), ((some 61), fun _ => .int .i64 9), ((some 62), fun _ => .int .i64 15), ((some 63), fun _ => .int .i64 3), ((some 64), fun _ => .int .i64 3), ((some 65), fun _ => .int .i64 3), ((some 66), fun _ => .int .i64 18), ((some 67), fun _ => .pointer (some ⟨b1, 18, none⟩)), ((some 68), fun _ => wv (nth s 18)), ((some 69), fun _ => wv (dD (cC s) 3)), ((some 70), fun _ => wv (th s 18)), ((some 71), fun _ => .int .i64 3), ((some 72), fun _ => .int .i64 3), ((some 73), fun _ => .int .i64 21), ((some 74), fun _ => wv (pI s 3)), ((some 75), fun _ => .pointer (some ⟨b4, 3, none⟩)), (none, fun _ => undef)] (D2.Pre w.heap.size w (fun L g => [(true, (bif L 19 then (b4, Obj.cells (Value.cells (bS18 s)) 26 (0, 0)) else (b4, Obj.cells (Value.cells (bS17 s)) 26 (0, 0)))), (true, (b3, Obj.cells (Value.cells (cS24 s)) 44 (0, 0))), (true, (b2, Obj.cells Z25 26 (0, 0))), (true, (b1, Obj.cells (Value.cells (svn s)) 26 (0, 0)))]) (fun L g => True)) (by kernel_rfl) (by kernel_rfl) (by kernel_rfl) ⟨D2.StE.of H53.drew _ (by kernel_rfl), trivial⟩ ⟨?_, ?_, ?_, ?_, ?_, ?_, ?_, ?_, ?_, ?_, ?_, ?_, ?_, ?_, ?_, ?_, ?_, ?_, ?_, ?_, trivial⟩ ?_
  · exact D2.gv_val (fun _ _ _ h => h) (fun g w => by kernel_rfl)
  · exact D2.gv_val (fun _ _ _ h => h) (fun g w => by kernel_rfl)
  · exact D2.gv_val (fun _ _ _ h => h) (fun g w => by kernel_rfl)
  · exact D2.gv_val (fun _ _ _ h => h) (fun g w => by kernel_rfl)
  · exact D2.gv_val (fun _ _ _ h => h) (fun g w => by kernel_rfl)
  · exact D2.gv_val (fun _ _ _ h => h) (fun g w => by kernel_rfl)
  · exact D2.gv_call 21 #[.int .i64 3, .int .i64 15] (fun _ _ _ h => h) (at_fn 3 15 (by omega) (by omega)) (fun g w => by kernel_rfl)
  · exact D2.gv_val (fun _ _ _ h => h) (fun g w => by kernel_rfl)
  · exact D2.gv_val (fun _ _ _ h => h) (fun g w => by kernel_rfl)
  · exact D2.gv_call 21 #[.int .i64 3, .int .i64 3] (fun _ _ _ h => h) (at_fn 3 3 (by omega) (by omega)) (fun g w => by kernel_rfl)
  · exact D2.gv_val (fun _ _ _ h => h) (fun g w => by kernel_rfl)
  · exact D2.gv_load1 25 (.tmp 67) 3 (fun g => b1) (fun g => 18) (fun g => (Value.cells (svn s))) 26 (0, 0) (fun _ _ _ h => h) (fun g => by kernel_rfl) (fun g => by kernel_rfl) (fun L g hN => (by kernel_rfl)) (by kernel_rfl) (fun L g hN hF => by kernel_rfl)
  · exact D2.gv_val (fun _ _ _ h => h) (fun g w => by kernel_rfl)
  · exact D2.gv_valE (fun _ _ _ h => h) (V' := .int .u64 (Go.bits .xor .u64 (((BitVec.toNat (nth s 18) : Nat) : Int)) (((BitVec.toNat (dD (cC s) 3) : Nat) : Int)))) (fun g w => by kernel_rfl) (bv_xor_u64 (nth s 18) (dD (cC s) 3))
  · exact D2.gv_val (fun _ _ _ h => h) (fun g w => by kernel_rfl)
  · exact D2.gv_val (fun _ _ _ h => h) (fun g w => by kernel_rfl)
  · exact D2.gv_call 23 #[.int .i64 3, .int .i64 3] (fun _ _ _ h => h) (by have h := turnR_fn 3 3 (by omega) (by omega); rw [show rotN 3 3 = 21 by decide] at h; exact h) (fun g w => by kernel_rfl)
  · exact D2.gv_call 22 #[wv (th s 18), .int .i64 21] (fun _ _ _ h => h) (left_fn (th s 18) 21 (by omega) (by omega)) (fun g w => by kernel_rfl)
  · exact D2.gv_val (fun _ _ _ h => h) (fun g w => by kernel_rfl)
  · exact D2.gv_store 0 25 (.tmp 75) (.tmp 74) (fun g => b4) (fun g => 3) (Value.cells (bS17 s)) (Value.cells (bS18 s)) 26 (wv (pI s 3)) (fun g => by kernel_rfl) (fun g => by kernel_rfl) (fun g => by kernel_rfl) (by kernel_rfl) (by kernel_rfl) (fun g => (of_decide_eq_true (by kernel_rfl))) (fun g => (by kernel_rfl)) (fun L g hN => ⟨(by have hL19 : L 19 = false := hN.1; exact D2.ent_get' (p := true) (e := (bif L 19 then (b4, Obj.cells (Value.cells (bS18 s)) 26 (0, 0)) else (b4, Obj.cells (Value.cells (bS17 s)) 26 (0, 0)))) (by kernel_rfl) (by rfl) (by simp only [hL19, cond_true, cond_false] <;> rfl)), (by kernel_rfl)⟩) (fun L g hN hF => hF)
  intro L0 G54 w54 hall HL; clear H53
  have H54 : St w.heap.size w w54 [(b4, Obj.cells (Value.cells (bS18 s)) 26 (0, 0)), (b3, Obj.cells (Value.cells (cS24 s)) 44 (0, 0)), (b2, Obj.cells Z25 26 (0, 0)), (b1, Obj.cells (Value.cells (svn s)) 26 (0, 0))] := by have e19 := hall 19 (Nat.le_of_ble_eq_true (by kernel_rfl)); have hS := D2.StE.st HL.1; simp only [e19, cond_true, D2.pres] at hS; exact hS
  clear HL hall
  show WP _ _ _ _ _ _
  refine g_reg0 [0, 1, 2] (by kernel_rfl) ?_
  refine s_val (some 55) (.int .i64 3) (fun w => by kernel_rfl) (by kernel_rfl) ?_
  refine s_val (some 56) (.int .i64 4) (fun w => by kernel_rfl) (by kernel_rfl) ?_
  refine s_val (some 11) (.int .i64 4) (fun w => by kernel_rfl) (by kernel_rfl) ?_
  refine s_nil ?_
  show WPL _ _ _ _ _ _
  refine g_next ?_
  refine g_seq (by kernel_rfl) ?_
  refine g_sreg [0, 1] (by kernel_rfl) (by kernel_rfl) ?_
  refine s_val (some 53) (.int .i64 4) (fun w => by kernel_rfl) (by kernel_rfl) ?_
  refine s_val (some 54) (.bool true) (fun w => by kernel_rfl) (by kernel_rfl) ?_
  refine s_nil ?_
  refine g_cond_t (by kernel_rfl) (by kernel_rfl) ?_
  refine g_skip (by kernel_rfl) ?_
  show WP _ _ _ _ _ _
  refine g_seq (by kernel_rfl) ?_
  refine g_block 7 (by kernel_rfl) ?_
  refine D2.g_draw0 [0, 1, 2, 3, 4, 5, 6, 7, 8, 9, 10, 11, 12, 13, 14, 15, 16, 17, 18, 19] [((some 57), fun _ => .int .i64 4), ((some 58), fun _ => .int .i64 3), ((some 59), fun _ => .int .i64 6), ((some 60), fun _ => .int .i64 4), ((some 61), fun _ => .int .i64 12), ((some 62), fun _ => .int .i64 18), ((some 63), fun _ => .int .i64 19), ((some 64), fun _ => .int .i64 3), ((some 65), fun _ => .int .i64 4), ((some 66), fun _ => .int .i64 23), ((some 67), fun _ => .pointer (some ⟨b1, 23, none⟩)), ((some 68), fun _ => wv (nth s 23)), ((some 69), fun _ => wv (dD (cC s) 3)), ((some 70), fun _ => wv (th s 23)), ((some 71), fun _ => .int .i64 3), ((some 72), fun _ => .int .i64 4), ((some 73), fun _ => .int .i64 56), ((some 74), fun _ => wv (pI s 19)), ((some 75), fun _ => .pointer (some ⟨b4, 19, none⟩)), (none, fun _ => undef)] (D2.Pre w.heap.size w (fun L g => [(true, (bif L 19 then (b4, Obj.cells (Value.cells (bS19 s)) 26 (0, 0)) else (b4, Obj.cells (Value.cells (bS18 s)) 26 (0, 0)))), (true, (b3, Obj.cells (Value.cells (cS24 s)) 44 (0, 0))), (true, (b2, Obj.cells Z25 26 (0, 0))), (true, (b1, Obj.cells (Value.cells (svn s)) 26 (0, 0)))]) (fun L g => True)) (by kernel_rfl) (by kernel_rfl) (by kernel_rfl) ⟨D2.StE.of H54.drew _ (by kernel_rfl), trivial⟩ ⟨?_, ?_, ?_, ?_, ?_, ?_, ?_, ?_, ?_, ?_, ?_, ?_, ?_, ?_, ?_, ?_, ?_, ?_, ?_, ?_, trivial⟩ ?_
  · exact D2.gv_val (fun _ _ _ h => h) (fun g w => by kernel_rfl)
  · exact D2.gv_val (fun _ _ _ h => h) (fun g w => by kernel_rfl)
  · exact D2.gv_val (fun _ _ _ h => h) (fun g w => by kernel_rfl)
  · exact D2.gv_val (fun _ _ _ h => h) (fun g w => by kernel_rfl)
  · exact D2.gv_val (fun _ _ _ h => h) (fun g w => by kernel_rfl)
  · exact D2.gv_val (fun _ _ _ h => h) (fun g w => by kernel_rfl)
  · exact D2.gv_call 21 #[.int .i64 4, .int .i64 18] (fun _ _ _ h => h) (at_fn 4 18 (by omega) (by omega)) (fun g w => by kernel_rfl)
  · exact D2.gv_val (fun _ _ _ h => h) (fun g w => by kernel_rfl)
  · exact D2.gv_val (fun _ _ _ h => h) (fun g w => by kernel_rfl)
  · exact D2.gv_call 21 #[.int .i64 3, .int .i64 4] (fun _ _ _ h => h) (at_fn 3 4 (by omega) (by omega)) (fun g w => by kernel_rfl)
  · exact D2.gv_val (fun _ _ _ h => h) (fun g w => by kernel_rfl)
  · exact D2.gv_load1 25 (.tmp 67) 3 (fun g => b1) (fun g => 23) (fun g => (Value.cells (svn s))) 26 (0, 0) (fun _ _ _ h => h) (fun g => by kernel_rfl) (fun g => by kernel_rfl) (fun L g hN => (by kernel_rfl)) (by kernel_rfl) (fun L g hN hF => by kernel_rfl)
  · exact D2.gv_val (fun _ _ _ h => h) (fun g w => by kernel_rfl)
  · exact D2.gv_valE (fun _ _ _ h => h) (V' := .int .u64 (Go.bits .xor .u64 (((BitVec.toNat (nth s 23) : Nat) : Int)) (((BitVec.toNat (dD (cC s) 3) : Nat) : Int)))) (fun g w => by kernel_rfl) (bv_xor_u64 (nth s 23) (dD (cC s) 3))
  · exact D2.gv_val (fun _ _ _ h => h) (fun g w => by kernel_rfl)
  · exact D2.gv_val (fun _ _ _ h => h) (fun g w => by kernel_rfl)
  · exact D2.gv_call 23 #[.int .i64 3, .int .i64 4] (fun _ _ _ h => h) (by have h := turnR_fn 3 4 (by omega) (by omega); rw [show rotN 3 4 = 56 by decide] at h; exact h) (fun g w => by kernel_rfl)
  · exact D2.gv_call 22 #[wv (th s 23), .int .i64 56] (fun _ _ _ h => h) (left_fn (th s 23) 56 (by omega) (by omega)) (fun g w => by kernel_rfl)
  · exact D2.gv_val (fun _ _ _ h => h) (fun g w => by kernel_rfl)
  · exact D2.gv_store 0 25 (.tmp 75) (.tmp 74) (fun g => b4) (fun g => 19) (Value.cells (bS18 s)) (Value.cells (bS19 s)) 26 (wv (pI s 19)) (fun g => by kernel_rfl) (fun g => by kernel_rfl) (fun g => by kernel_rfl) (by kernel_rfl) (by kernel_rfl) (fun g => (of_decide_eq_true (by kernel_rfl))) (fun g => (by kernel_rfl)) (fun L g hN => ⟨(by have hL19 : L 19 = false := hN.1; exact D2.ent_get' (p := true) (e := (bif L 19 then (b4, Obj.cells (Value.cells (bS19 s)) 26 (0, 0)) else (b4, Obj.cells (Value.cells (bS18 s)) 26 (0, 0)))) (by kernel_rfl) (by rfl) (by simp only [hL19, cond_true, cond_false] <;> rfl)), (by kernel_rfl)⟩) (fun L g hN hF => hF)
  intro L0 G55 w55 hall HL; clear H54
  have H55 : St w.heap.size w w55 [(b4, Obj.cells (Value.cells (bS19 s)) 26 (0, 0)), (b3, Obj.cells (Value.cells (cS24 s)) 44 (0, 0)), (b2, Obj.cells Z25 26 (0, 0)), (b1, Obj.cells (Value.cells (svn s)) 26 (0, 0))] := by have e19 := hall 19 (Nat.le_of_ble_eq_true (by kernel_rfl)); have hS := D2.StE.st HL.1; simp only [e19, cond_true, D2.pres] at hS; exact hS
  clear HL hall
  show WP _ _ _ _ _ _
  refine g_reg0 [0, 1, 2] (by kernel_rfl) ?_
  refine s_val (some 55) (.int .i64 4) (fun w => by kernel_rfl) (by kernel_rfl) ?_
  refine s_val (some 56) (.int .i64 5) (fun w => by kernel_rfl) (by kernel_rfl) ?_
  refine s_val (some 11) (.int .i64 5) (fun w => by kernel_rfl) (by kernel_rfl) ?_
  refine s_nil ?_
  show WPL _ _ _ _ _ _
  refine g_next ?_
  refine g_seq (by kernel_rfl) ?_
  refine g_sreg [0, 1] (by kernel_rfl) (by kernel_rfl) ?_
  refine s_val (some 53) (.int .i64 5) (fun w => by kernel_rfl) (by kernel_rfl) ?_
  refine s_val (some 54) (.bool false) (fun w => by kernel_rfl) (by kernel_rfl) ?_
  refine s_nil ?_
  refine g_cond_f (by kernel_rfl) (by kernel_rfl) ?_
  refine g_exit 6 (by kernel_rfl) ?_
  show WP _ _ _ _ _ _
  refine g_reg0 [0, 1, 2] (by kernel_rfl) ?_
  refine s_val (some 39) (.int .i64 3) (fun w => by kernel_rfl) (by kernel_rfl) ?_
  refine s_val (some 40) (.int .i64 4) (fun w => by kernel_rfl) (by kernel_rfl) ?_
  refine s_val (some 9) (.int .i64 4) (fun w => by kernel_rfl) (by kernel_rfl) ?_
  refine s_nil ?_
  show WPL _ _ _ _ _ _
  refine g_next ?_
  refine g_seq (by kernel_rfl) ?_
  refine g_sreg [0, 1] (by kernel_rfl) (by kernel_rfl) ?_
  refine s_val (some 37) (.int .i64 4) (fun w => by kernel_rfl) (by kernel_rfl) ?_
  refine s_val (some 38) (.bool true) (fun w => by kernel_rfl) (by kernel_rfl) ?_
  refine s_nil ?_
  refine g_cond_t (by kernel_rfl) (by kernel_rfl) ?_
  refine g_skip (by kernel_rfl) ?_
  show WP _ _ _ _ _ _
  refine g_seq (by kernel_rfl) ?_
  refine g_block 5 (by kernel_rfl) ?_
  refine D2.g_sdraw [0, 1, 2, 3, 4, 5, 6, 7, 8, 9, 10, 11, 12] [((some 41), fun _ => .int .i64 4), ((some 42), fun _ => .int .i64 8), ((some 43), fun _ => .int .i64 3), ((some 44), fun _ => .pointer (some ⟨b3, 3, none⟩)), ((some 45), fun _ => wv (cC s 3)), ((some 46), fun _ => .int .i64 4), ((some 47), fun _ => .int .i64 5), ((some 48), fun _ => .int .i64 0), ((some 49), fun _ => .pointer (some ⟨b3, 0, none⟩)), ((some 50), fun _ => wv (cC s 0)), ((some 51), fun _ => wv (rl (cC s 0) 1)), ((some 52), fun _ => wv (dD (cC s) 4)), ((some 10), fun _ => wv (dD (cC s) 4))] (D2.Pre w.heap.size w (fun L g => [(true, (b4, Obj.cells (Value.cells (bS19 s)) 26 (0, 0))), (true, (b3, Obj.cells (Value.cells (cS24 s)) 44 (0, 0))), (true, (b2, Obj.cells Z25 26 (0, 0))), (true, (b1, Obj.cells (Value.cells (svn s)) 26 (0, 0)))]) (fun L g => True)) (by kernel_rfl) (by kernel_rfl) (by kernel_rfl) (by kernel_rfl) ⟨D2.StE.of H55.drew _ (by kernel_rfl), trivial⟩ ⟨?_, ?_, ?_, ?_, ?_, ?_, ?_, ?_, ?_, ?_, ?_, ?_, ?_, trivial⟩ ?_
  · exact D2.gv_val (fun _ _ _ h => h) (fun g w => by kernel_rfl)
  · exact D2.gv_val (fun _ _ _ h => h) (fun g w => by kernel_rfl)
  · exact D2.gv_val (fun _ _ _ h => h) (fun g w => by kernel_rfl)
  · exact D2.gv_val (fun _ _ _ h => h) (fun g w => by kernel_rfl)
  · exact D2.gv_load1 25 (.tmp 44) 1 (fun g => b3) (fun g => 3) (fun g => (Value.cells (cS24 s))) 44 (0, 0) (fun _ _ _ h => h) (fun g => by kernel_rfl) (fun g => by kernel_rfl) (fun L g hN => (by kernel_rfl)) (by kernel_rfl) (fun L g hN hF => by kernel_rfl)
  · exact D2.gv_val (fun _ _ _ h => h) (fun g w => by kernel_rfl)
  · exact D2.gv_val (fun _ _ _ h => h) (fun g w => by kernel_rfl)
  · exact D2.gv_val (fun _ _ _ h => h) (fun g w => by kernel_rfl)
  · exact D2.gv_val (fun _ _ _ h => h) (fun g w => by kernel_rfl)
  · exact D2.gv_load1 25 (.tmp 49) 1 (fun g => b3) (fun g => 0) (fun g => (Value.cells (cS24 s))) 44 (0, 0) (fun _ _ _ h => h) (fun g => by kernel_rfl) (fun g => by kernel_rfl) (fun L g hN => (by kernel_rfl)) (by kernel_rfl) (fun L g hN hF => by kernel_rfl)
  · exact D2.gv_call 22 #[wv (cC s 0), .int .i64 1] (fun _ _ _ h => h) (left_fn (cC s 0) 1 (by omega) (by omega)) (fun g w => by kernel_rfl)
  · exact D2.gv_valE (fun _ _ _ h => h) (V' := .int .u64 (Go.bits .xor .u64 (((BitVec.toNat (cC s 3) : Nat) : Int)) (((BitVec.toNat (rl (cC s 0) 1) : Nat) : Int)))) (fun g w => by kernel_rfl) (bv_xor_u64 (cC s 3) (rl (cC s 0) 1))
  · exact D2.gv_val (fun _ _ _ h => h) (fun g w => by kernel_rfl)
  intro L0 G56 w56 hall HL; clear H55
  have H56 : St w.heap.size w w56 [(b4, Obj.cells (Value.cells (bS19 s)) 26 (0, 0)), (b3, Obj.cells (Value.cells (cS24 s)) 44 (0, 0)), (b2, Obj.cells Z25 26 (0, 0)), (b1, Obj.cells (Value.cells (svn s)) 26 (0, 0))] := D2.StE.st HL.1
  clear HL hall
  refine g_sreg [0] (by kernel_rfl) (by kernel_rfl) ?_
  refine s_val (some 11) (.int .i64 0) (fun w => by kernel_rfl) (by kernel_rfl) ?_
  refine s_nil ?_
  refine g_block 6 (by kernel_rfl) ?_
  refine g_first (by kernel_rfl) ?_
  refine g_seq (by kernel_rfl) ?_
  refine g_sreg [0, 1] (by kernel_rfl) (by kernel_rfl) ?_
  refine s_val (some 53) (.int .i64 0) (fun w => by kernel_rfl) (by kernel_rfl) ?_
  refine s_val (some 54) (.bool true) (fun w => by kernel_rfl) (by kernel_rfl) ?_
  refine s_nil ?_
  refine g_cond_t (by kernel_rfl) (by kernel_rfl) ?_
  refine g_skip (by kernel_rfl) ?_
  show WP _ _ _ _ _ _
  refine g_seq (by kernel_rfl) ?_
  refine g_block 7 (by kernel_rfl) ?_
  refine D2.g_draw0 [0, 1, 2, 3, 4, 5, 6, 7, 8, 9, 10, 11, 12, 13, 14, 15, 16, 17, 18, 19] [((some 57), fun _ => .int .i64 0), ((some 58), fun _ => .int .i64 4), ((some 59), fun _ => .int .i64 8), ((some 60), fun _ => .int .i64 0), ((some 61), fun _ => .int .i64 0), ((some 62), fun _ => .int .i64 8), ((some 63), fun _ => .int .i64 15), ((some 64), fun _ => .int .i64 4), ((some 65), fun _ => .int .i64 0), ((some 66), fun _ => .int .i64 4), ((some 67), fun _ => .pointer (some ⟨b1, 4, none⟩)), ((some 68), fun _ => wv (nth s 4)), ((some 69), fun _ => wv (dD (cC s) 4)), ((some 70), fun _ => wv (th s 4)), ((some 71), fun _ => .int .i64 4), ((some 72), fun _ => .int .i64 0), ((some 73), fun _ => .int .i64 27), ((some 74), fun _ => wv (pI s 15)), ((some 75), fun _ => .pointer (some ⟨b4, 15, none⟩)), (none, fun _ => undef)] (D2.Pre w.heap.size w (fun L g => [(true, (bif L 19 then (b4, Obj.cells (Value.cells (bS20 s)) 26 (0, 0)) else (b4, Obj.cells (Value.cells (bS19 s)) 26 (0, 0)))), (true, (b3, Obj.cells (Value.cells (cS24 s)) 44 (0, 0))), (true, (b2, Obj.cells Z25 26 (0, 0))), (true, (b1, Obj.cells (Value.cells (svn s)) 26 (0, 0)))]) (fun L g => True)) (by kernel_rfl) (by kernel_rfl) (by kernel_rfl) ⟨D2.StE.of H56.drew _ (by kernel_rfl), trivial⟩ ⟨?_, ?_, ?_, ?_, ?_, ?_, ?_, ?_, ?_, ?_, ?_, ?_, ?_, ?_, ?_, ?_, ?_, ?_, ?_, ?_, trivial⟩ ?_
  · exact D2.gv_val (fun _ _ _ h => h) (fun g w => by kernel_rfl)
  · exact D2.gv_val (fun _ _ _ h => h) (fun g w => by kernel_rfl)
  · exact D2.gv_val (fun _ _ _ h => h) (fun g w => by kernel_rfl)
  · exact D2.gv_val (fun _ _ _ h => h) (fun g w => by kernel_rfl)
  · exact D2.gv_val (fun _ _ _ h => h) (fun g w => by kernel_rfl)
  · exact D2.gv_val (fun _ _ _ h => h) (fun g w => by kernel_rfl)
  · exact D2.gv_call 21 #[.int .i64 0, .int .i64 8] (fun _ _ _ h => h) (at_fn 0 8 (by omega) (by omega)) (fun g w => by kernel_rfl)
  · exact D2.gv_val (fun _ _ _ h => h) (fun g w => by kernel_rfl)
  · exact D2.gv_val (fun _ _ _ h => h) (fun g w => by kernel_rfl)
  · exact D2.gv_call 21 #[.int .i64 4, .int .i64 0] (fun _ _ _ h => h) (at_fn 4 0 (by omega) (by omega)) (fun g w => by kernel_rfl)
  · exact D2.gv_val (fun _ _ _ h => h) (fun g w => by kernel_rfl)
  · exact D2.gv_load1 25 (.tmp 67) 3 (fun g => b1) (fun g => 4) (fun g => (Value.cells (svn s))) 26 (0, 0) (fun _ _ _ h => h) (fun g => by kernel_rfl) (fun g => by kernel_rfl) (fun L g hN => (by kernel_rfl)) (by kernel_rfl) (fun L g hN hF => by kernel_rfl)
  · exact D2.gv_val (fun _ _ _ h => h) (fun g w => by kernel_rfl)
  · exact D2.gv_valE (fun _ _ _ h => h) (V' := .int .u64 (Go.bits .xor .u64 (((BitVec.toNat (nth s 4) : Nat) : Int)) (((BitVec.toNat (dD (cC s) 4) : Nat) : Int)))) (fun g w => by kernel_rfl) (bv_xor_u64 (nth s 4) (dD (cC s) 4))
  · exact D2.gv_val (fun _ _ _ h => h) (fun g w => by kernel_rfl)
  · exact D2.gv_val (fun _ _ _ h => h) (fun g w => by kernel_rfl)
  · exact D2.gv_call 23 #[.int .i64 4, .int .i64 0] (fun _ _ _ h => h) (by have h := turnR_fn 4 0 (by omega) (by omega); rw [show rotN 4 0 = 27 by decide] at h; exact h) (fun g w => by kernel_rfl)
  · exact D2.gv_call 22 #[wv (th s 4), .int .i64 27] (fun _ _ _ h => h) (left_fn (th s 4) 27 (by omega) (by omega)) (fun g w => by kernel_rfl)
  · exact D2.gv_val (fun _ _ _ h => h) (fun g w => by kernel_rfl)
  · exact D2.gv_store 0 25 (.tmp 75) (.tmp 74) (fun g => b4) (fun g => 15) (Value.cells (bS19 s)) (Value.cells (bS20 s)) 26 (wv (pI s 15)) (fun g => by kernel_rfl) (fun g => by kernel_rfl) (fun g => by kernel_rfl) (by kernel_rfl) (by kernel_rfl) (fun g => (of_decide_eq_true (by kernel_rfl))) (fun g => (by kernel_rfl)) (fun L g hN => ⟨(by have hL19 : L 19 = false := hN.1; exact D2.ent_get' (p := true) (e := (bif L 19 then (b4, Obj.cells (Value.cells (bS20 s)) 26 (0, 0)) else (b4, Obj.cells (Value.cells (bS19 s)) 26 (0, 0)))) (by kernel_rfl) (by rfl) (by simp only [hL19, cond_true, cond_false] <;> rfl)), (by kernel_rfl)⟩) (fun L g hN hF => hF)
  intro L0 G57 w57 hall HL; clear H56
  have H57 : St w.heap.size w w57 [(b4, Obj.cells (Value.cells (bS20 s)) 26 (0, 0)), (b3, Obj.cells (Value.cells (cS24 s)) 44 (0, 0)), (b2, Obj.cells Z25 26 (0, 0)), (b1, Obj.cells (Value.cells (svn s)) 26 (0, 0))] := by have e19 := hall 19 (Nat.le_of_ble_eq_true (by kernel_rfl)); have hS := D2.StE.st HL.1; simp only [e19, cond_true, D2.pres] at hS; exact hS
  clear HL hall
  show WP _ _ _ _ _ _
  refine g_reg0 [0, 1, 2] (by kernel_rfl) ?_
  refine s_val (some 55) (.int .i64 0) (fun w => by kernel_rfl) (by kernel_rfl) ?_
  refine s_val (some 56) (.int .i64 1) (fun w => by kernel_rfl) (by kernel_rfl) ?_
  refine s_val (some 11) (.int .i64 1) (fun w => by kernel_rfl) (by kernel_rfl) ?_
  refine s_nil ?_
  show WPL _ _ _ _ _ _
  refine g_next ?_
  refine g_seq (by kernel_rfl) ?_
  refine g_sreg [0, 1] (by kernel_rfl) (by kernel_rfl) ?_
  refine s_val (some 53) (.int .i64 1) (fun w => by kernel_rfl) (by kernel_rfl) ?_
  refine s_val (some 54) (.bool true) (fun w => by kernel_rfl) (by kernel_rfl) ?_
  refine s_nil ?_
  refine g_cond_t (by kernel_rfl) (by kernel_rfl) ?_
  refine g_skip (by kernel_rfl) ?_
  show WP _ _ _ _ _ _
  refine g_seq (by kernel_rfl) ?_
  refine g_block 7 (by kernel_rfl) ?_
  refine D2.g_draw0 [0, 1, 2, 3, 4, 5, 6, 7, 8, 9, 10, 11, 12, 13, 14, 15, 16, 17, 18, 19] [((some 57), fun _ => .int .i64 1), ((some 58), fun _ => .int .i64 4), ((some 59), fun _ => .int .i64 8), ((some 60), fun _ => .int .i64 1), ((some 61), fun _ => .int .i64 3), ((some 62), fun _ => .int .i64 11), ((some 63), fun _ => .int .i64 6), ((some 64), fun _ => .int .i64 4), ((some 65), fun _ => .int .i64 1), ((some 66), fun _ => .int .i64 9), ((some 67), fun _ => .pointer (some ⟨b1, 9, none⟩)), ((some 68), fun _ => wv (nth s 9)), ((some 69), fun _ => wv (dD (cC s) 4)), ((some 70), fun _ => wv (th s 9)), ((some 71), fun _ => .int .i64 4), ((some 72), fun _ => .int .i64 1), ((some 73), fun _ => .int .i64 20), ((some 74), fun _ => wv (pI s 6)), ((some 75), fun _ => .pointer (some ⟨b4, 6, none⟩)), (none, fun _ => undef)] (D2.Pre w.heap.size w (fun L g => [(true, (bif L 19 then (b4, Obj.cells (Value.cells (bS21 s)) 26 (0, 0)) else (b4, Obj.cells (Value.cells (bS20 s)) 26 (0, 0)))), (true, (b3, Obj.cells (Value.cells (cS24 s)) 44 (0, 0))), (true, (b2, Obj.cells Z25 26 (0, 0))), (true, (b1, Obj.cells (Value.cells (svn s)) 26 (0, 0)))]) (fun L g => True)) (by kernel_rfl) (by kernel_rfl) (by kernel_rfl) ⟨D2.StE.of H57.drew _ (by kernel_rfl), trivial⟩ ⟨?_, ?_, ?_, ?_, ?_, ?_, ?_, ?_, ?_, ?_, ?_, ?_, ?_, ?_, ?_, ?_, ?_, ?_, ?_, ?_, trivial⟩ ?_
  · exact D2.gv_val (fun _ _ _ h => h) (fun g w => by kernel_rfl)
  · exact D2.gv_val (fun _ _ _ h => h) (fun g w => by kernel_rfl)
  · exact D2.gv_val (fun _ _ _ h => h) (fun g w => by kernel_rfl)
  · exact D2.gv_val (fun _ _ _ h => h) (fun g w => by kernel_rfl)
  · exact D2.gv_val (fun _ _ _ h => h) (fun g w => by kernel_rfl)
  · exact D2.gv_val (fun _ _ _ h => h) (fun g w => by kernel_rfl)
  · exact D2.gv_call 21 #[.int .i64 1, .int .i64 11] (fun _ _ _ h => h) (at_fn 1 11 (by omega) (by omega)) (fun g w => by kernel_rfl)
  · exact D2.gv_val (fun _ _ _ h => h) (fun g w => by kernel_rfl)
  · exact D2.gv_val (fun _ _ _ h => h) (fun g w => by kernel_rfl)
  · exact D2.gv_call 21 #[.int .i64 4, .int .i64 1] (fun _ _ _ h => h) (at_fn 4 1 (by omega) (by omega)) (fun g w => by kernel_rfl)
  · exact D2.gv_val (fun _ _ _ h => h) (fun g w => by kernel_rfl)
  · exact D2.gv_load1 25 (.tmp 67) 3 (fun g => b1) (fun g => 9) (fun g => (Value.cells (svn s))) 26 (0, 0) (fun _ _ _ h => h) (fun g => by kernel_rfl) (fun g => by kernel_rfl) (fun L g hN => (by kernel_rfl)) (by kernel_rfl) (fun L g hN hF => by kernel_rfl)
  · exact D2.gv_val (fun _ _ _ h => h) (fun g w => by kernel_rfl)
  · exact D2.gv_valE (fun _ _ _ h => h) (V' := .int .u64 (Go.bits .xor .u64 (((BitVec.toNat (nth s 9) : Nat) : Int)) (((BitVec.toNat (dD (cC s) 4) : Nat) : Int)))) (fun g w => by kernel_rfl) (bv_xor_u64 (nth s 9) (dD (cC s) 4))
  · exact D2.gv_val (fun _ _ _ h => h) (fun g w => by kernel_rfl)
  · exact D2.gv_val (fun _ _ _ h => h) (fun g w => by kernel_rfl)
  · exact D2.gv_call 23 #[.int .i64 4, .int .i64 1] (fun _ _ _ h => h) (by have h := turnR_fn 4 1 (by omega) (by omega); rw [show rotN 4 1 = 20 by decide] at h; exact h) (fun g w => by kernel_rfl)
  · exact D2.gv_call 22 #[wv (th s 9), .int .i64 20] (fun _ _ _ h => h) (left_fn (th s 9) 20 (by omega) (by omega)) (fun g w => by kernel_rfl)
  · exact D2.gv_val (fun _ _ _ h => h) (fun g w => by kernel_rfl)
  · exact D2.gv_store 0 25 (.tmp 75) (.tmp 74) (fun g => b4) (fun g => 6) (Value.cells (bS20 s)) (Value.cells (bS21 s)) 26 (wv (pI s 6)) (fun g => by kernel_rfl) (fun g => by kernel_rfl) (fun g => by kernel_rfl) (by kernel_rfl) (by kernel_rfl) (fun g => (of_decide_eq_true (by kernel_rfl))) (fun g => (by kernel_rfl)) (fun L g hN => ⟨(by have hL19 : L 19 = false := hN.1; exact D2.ent_get' (p := true) (e := (bif L 19 then (b4, Obj.cells (Value.cells (bS21 s)) 26 (0, 0)) else (b4, Obj.cells (Value.cells (bS20 s)) 26 (0, 0)))) (by kernel_rfl) (by rfl) (by simp only [hL19, cond_true, cond_false] <;> rfl)), (by kernel_rfl)⟩) (fun L g hN hF => hF)
  intro L0 G58 w58 hall HL; clear H57
  have H58 : St w.heap.size w w58 [(b4, Obj.cells (Value.cells (bS21 s)) 26 (0, 0)), (b3, Obj.cells (Value.cells (cS24 s)) 44 (0, 0)), (b2, Obj.cells Z25 26 (0, 0)), (b1, Obj.cells (Value.cells (svn s)) 26 (0, 0))] := by have e19 := hall 19 (Nat.le_of_ble_eq_true (by kernel_rfl)); have hS := D2.StE.st HL.1; simp only [e19, cond_true, D2.pres] at hS; exact hS
  clear HL hall
  show WP _ _ _ _ _ _
  refine g_reg0 [0, 1, 2] (by kernel_rfl) ?_
  refine s_val (some 55) (.int .i64 1) (fun w => by kernel_rfl) (by kernel_rfl) ?_
  refine s_val (some 56) (.int .i64 2) (fun w => by kernel_rfl) (by kernel_rfl) ?_
  refine s_val (some 11) (.int .i64 2) (fun w => by kernel_rfl) (by kernel_rfl) ?_
  refine s_nil ?_
  show WPL _ _ _ _ _ _
  refine g_next ?_
  refine g_seq (by kernel_rfl) ?_
  refine g_sreg [0, 1] (by kernel_rfl) (by kernel_rfl) ?_
  refine s_val (some 53) (.int .i64 2) (fun w => by kernel_rfl) (by kernel_rfl) ?_
  refine s_val (some 54) (.bool true) (fun w => by kernel_rfl) (by kernel_rfl) ?_
  refine s_nil ?_
  refine g_cond_t (by kernel_rfl) (by kernel_rfl) ?_
  refine g_skip (by kernel_rfl) ?_
  show WP _ _ _ _ _ _
  refine g_seq (by kernel_rfl) ?_
  refine g_block 7 (by kernel_rfl) ?_
  refine D2.g_draw0 [0, 1, 2, 3, 4, 5, 6, 7, 8, 9, 10, 11, 12, 13, 14, 15, 16, 17, 18, 19] [((some 57), fun _ => .int .i64 2), ((some 58), fun _ => .int .i64 4), ((some 59), fun _ => .int .i64 8), ((some 60), fun _ => .int .i64 2), ((some 61), fun _ => .int .i64 6), ((some 62), fun _ => .int .i64 14), ((some 63), fun _ => .int .i64 22), ((some 64), fun _ => .int .i64 4), ((some 65), fun _ => .int .i64 2), ((some 66), fun _ => .int .i64 14), ((some 67), fun _ => .pointer (some ⟨b1, 14, none⟩)), ((some 68), fun _ => wv (nth s 14)), ((some 69), fun _ => wv (dD (cC s) 4)), ((some 70), fun _ => wv (th s 14)), ((some 71), fun _ => .int .i64 4), ((some 72), fun _ => .int .i64 2), ((some 73), fun _ => .int .i64 39), ((some 74), fun _ => wv (pI s 22)), ((some 75), fun _ => .pointer (some ⟨b4, 22, none⟩)), (none, fun _ => undef)] (D2.Pre w.heap.size w (fun L g => [(true, (bif L 19 then (b4, Obj.cells (Value.cells (bS22 s)) 26 (0, 0)) else (b4, Obj.cells (Value.cells (bS21 s)) 26 (0, 0)))), (true, (b3, Obj.cells (Value.cells (cS24 s)) 44 (0, 0))), (true, (b2, Obj.cells Z25 26 (0, 0))), (true, (b1, Obj.cells (Value.cells (svn s)) 26 (0, 0)))]) (fun L g => True)) (by kernel_rfl) (by kernel_rfl) (by kernel_rfl) ⟨D2.StE.of H58.drew _ (by kernel_rfl), trivial⟩ ⟨?_, ?_, ?_, ?_, ?_, ?_, ?_, ?_, ?_, ?_, ?_, ?_, ?_, ?_, ?_, ?_, ?_, ?_, ?_, ?_, trivial⟩ ?_
  · exact D2.gv_val (fun _ _ _ h => h) (fun g w => by kernel_rfl)
  · exact D2.gv_val (fun _ _ _ h => h) (fun g w => by kernel_rfl)
  · exact D2.gv_val (fun _ _ _ h => h) (fun g w => by kernel_rfl)
  · exact D2.gv_val (fun _ _ _ h => h) (fun g w => by kernel_rfl)
  · exact D2.gv_val (fun _ _ _ h => h) (fun g w => by kernel_rfl)
  · exact D2.gv_val (fun _ _ _ h => h) (fun g w => by kernel_rfl)
  · exact D2.gv_call 21 #[.int .i64 2, .int .i64 14] (fun _ _ _ h => h) (at_fn 2 14 (by omega) (by omega)) (fun g w => by kernel_rfl)
  · exact D2.gv_val (fun _ _ _ h => h) (fun g w => by kernel_rfl)
  · exact D2.gv_val (fun _ _ _ h => h) (fun g w => by kernel_rfl)
  · exact D2.gv_call 21 #[.int .i64 4, .int .i64 2] (fun _ _ _ h => h) (at_fn 4 2 (by omega) (by omega)) (fun g w => by kernel_rfl)
  · exact D2.gv_val (fun _ _ _ h => h) (fun g w => by kernel_rfl)
  · exact D2.gv_load1 25 (.tmp 67) 3 (fun g => b1) (fun g => 14) (fun g => (Value.cells (svn s))) 26 (0, 0) (fun _ _ _ h => h) (fun g => by kernel_rfl) (fun g => by kernel_rfl) (fun L g hN => (by kernel_rfl)) (by kernel_rfl) (fun L g hN hF => by kernel_rfl)
  · exact D2.gv_val (fun _ _ _ h => h) (fun g w => by kernel_rfl)
  · exact D2.gv_valE (fun _ _ _ h => h) (V' := .int .u64 (Go.bits .xor .u64 (((BitVec.toNat (nth s 14) : Nat) : Int)) (((BitVec.toNat (dD (cC s) 4) : Nat) : Int)))) (fun g w => by kernel_rfl) (bv_xor_u64 (nth s 14) (dD (cC s) 4))
  · exact D2.gv_val (fun _ _ _ h => h) (fun g w => by kernel_rfl)
  · exact D2.gv_val (fun _ _ _ h => h) (fun g w => by kernel_rfl)
  · exact D2.gv_call 23 #[.int .i64 4, .int .i64 2] (fun _ _ _ h => h) (by have h := turnR_fn 4 2 (by omega) (by omega); rw [show rotN 4 2 = 39 by decide] at h; exact h) (fun g w => by kernel_rfl)
  · exact D2.gv_call 22 #[wv (th s 14), .int .i64 39] (fun _ _ _ h => h) (left_fn (th s 14) 39 (by omega) (by omega)) (fun g w => by kernel_rfl)
  · exact D2.gv_val (fun _ _ _ h => h) (fun g w => by kernel_rfl)
  · exact D2.gv_store 0 25 (.tmp 75) (.tmp 74) (fun g => b4) (fun g => 22) (Value.cells (bS21 s)) (Value.cells (bS22 s)) 26 (wv (pI s 22)) (fun g => by kernel_rfl) (fun g => by kernel_rfl) (fun g => by kernel_rfl) (by kernel_rfl) (by kernel_rfl) (fun g => (of_decide_eq_true (by kernel_rfl))) (fun g => (by kernel_rfl)) (fun L g hN => ⟨(by have hL19 : L 19 = false := hN.1; exact D2.ent_get' (p := true) (e := (bif L 19 then (b4, Obj.cells (Value.cells (bS22 s)) 26 (0, 0)) else (b4, Obj.cells (Value.cells (bS21 s)) 26 (0, 0)))) (by kernel_rfl) (by rfl) (by simp only [hL19, cond_true, cond_false] <;> rfl)), (by kernel_rfl)⟩) (fun L g hN hF => hF)
  intro L0 G59 w59 hall HL; clear H58
  have H59 : St w.heap.size w w59 [(b4, Obj.cells (Value.cells (bS22 s)) 26 (0, 0)), (b3, Obj.cells (Value.cells (cS24 s)) 44 (0, 0)), (b2, Obj.cells Z25 26 (0, 0)), (b1, Obj.cells (Value.cells (svn s)) 26 (0, 0))] := by have e19 := hall 19 (Nat.le_of_ble_eq_true (by kernel_rfl)); have hS := D2.StE.st HL.1; simp only [e19, cond_true, D2.pres] at hS; exact hS
  clear HL hall
  show WP _ _ _ _ _ _
  refine g_reg0 [0, 1, 2] (by kernel_rfl) ?_
  refine s_val (some 55) (.int .i64 2) (fun w => by kernel_rfl) (by kernel_rfl) ?_
  refine s_val (some 56) (.int .i64 3) (fun w => by kernel_rfl) (by kernel_rfl) ?_
  refine s_val (some 11) (.int .i64 3) (fun w => by kernel_rfl) (by kernel_rfl) ?_
  refine s_nil ?_
  show WPL _ _ _ _ _ _
  refine g_next ?_
  refine g_seq (by kernel_rfl) ?_
  refine g_sreg [0, 1] (by kernel_rfl) (by kernel_rfl) ?_
  refine s_val (some 53) (.int .i64 3) (fun w => by kernel_rfl) (by kernel_rfl) ?_
  refine s_val (some 54) (.bool true) (fun w => by kernel_rfl) (by kernel_rfl) ?_
  refine s_nil ?_
  refine g_cond_t (by kernel_rfl) (by kernel_rfl) ?_
  refine g_skip (by kernel_rfl) ?_
  show WP _ _ _ _ _ _
  refine g_seq (by kernel_rfl) ?_
  refine g_block 7 (by kernel_rfl) ?_
  refine D2.g_draw0 [0, 1, 2, 3, 4, 5, 6, 7, 8, 9, 10, 11, 12, 13, 14, 15, 16, 17, 18, 19] [((some 57), fun _ => .int .i64 3), ((some 58), fun _ => .int .i64 4), ((some 59), fun _ => .int .i64 8), ((some 60), fun _ => .int .i64 3), ((some 61), fun _ => .int .i64 9), ((some 62), fun _ => .int .i64 17), ((some 63), fun _ => .int .i64 13), ((some 64), fun _ => .int .i64 4), ((some 65), fun _ => .int .i64 3), ((some 66), fun _ => .int .i64 19), ((some 67), fun _ => .pointer (some ⟨b1, 19, none⟩)), ((some 68), fun _ => wv (nth s 19)), ((some 69), fun _ => wv (dD (cC s) 4)), ((some 70), fun _ => wv (th s 19)), ((some 71), fun _ => .int .i64 4), ((some 72), fun _ => .int .i64 3), ((some 73), fun _ => .int .i64 8), ((some 74), fun _ => wv (pI s 13)), ((some 75), fun _ => .pointer (some ⟨b4, 13, none⟩)), (none, fun _ => undef)] (D2.Pre w.heap.size w (fun L g => [(true, (bif L 19 then (b4, Obj.cells (Value.cells (bS23 s)) 26 (0, 0)) else (b4, Obj.cells (Value.cells (bS22 s)) 26 (0, 0)))), (true, (b3, Obj.cells (Value.cells (cS24 s)) 44 (0, 0))), (true, (b2, Obj.cells Z25 26 (0, 0))), (true, (b1, Obj.cells (Value.cells (svn s)) 26 (0, 0)))]) (fun L g => True)) (by kernel_rfl) (by kernel_rfl) (by kernel_rfl) ⟨D2.StE.of H59.drew _ (by kernel_rfl), trivial⟩ ⟨?_, ?_, ?_, ?_, ?_, ?_, ?_, ?_, ?_, ?_, ?_, ?_, ?_, ?_, ?_, ?_, ?_, ?_, ?_, ?_, trivial⟩ ?_
  · exact D2.gv_val (fun _ _ _ h => h) (fun g w => by kernel_rfl)
  · exact D2.gv_val (fun _ _ _ h => h) (fun g w => by kernel_rfl)
  · exact D2.gv_val (fun _ _ _ h => h) (fun g w => by kernel_rfl)
  · exact D2.gv_val (fun _ _ _ h => h) (fun g w => by kernel_rfl)
  · exact D2.gv_val (fun _ _ _ h => h) (fun g w => by kernel_rfl)
  · exact D2.gv_val (fun _ _ _ h => h) (fun g w => by kernel_rfl)
  · exact D2.gv_call 21 #[.int .i64 3, .int .i64 17] (fun _ _ _ h => h) (at_fn 3 17 (by omega) (by omega)) (fun g w => by kernel_rfl)
  · exact D2.gv_val (fun _ _ _ h => h) (fun g w => by kernel_rfl)
  · exact D2.gv_val (fun _ _ _ h => h) (fun g w => by kernel_rfl)
  · exact D2.gv_call 21 #[.int .i64 4, .int .i64 3] (fun _ _ _ h => h) (at_fn 4 3 (by omega) (by omega)) (fun g w => by kernel_rfl)
  · exact D2.gv_val (fun _ _ _ h => h) (fun g w => by kernel_rfl)
  · exact D2.gv_load1 25 (.tmp 67) 3 (fun g => b1) (fun g => 19) (fun g => (Value.cells (svn s))) 26 (0, 0) (fun _ _ _ h => h) (fun g => by kernel_rfl) (fun g => by kernel_rfl) (fun L g hN => (by kernel_rfl)) (by kernel_rfl) (fun L g hN hF => by kernel_rfl)
  · exact D2.gv_val (fun _ _ _ h => h) (fun g w => by kernel_rfl)
  · exact D2.gv_valE (fun _ _ _ h => h) (V' := .int .u64 (Go.bits .xor .u64 (((BitVec.toNat (nth s 19) : Nat) : Int)) (((BitVec.toNat (dD (cC s) 4) : Nat) : Int)))) (fun g w => by kernel_rfl) (bv_xor_u64 (nth s 19) (dD (cC s) 4))
  · exact D2.gv_val (fun _ _ _ h => h) (fun g w => by kernel_rfl)
  · exact D2.gv_val (fun _ _ _ h => h) (fun g w => by kernel_rfl)
  · exact D2.gv_call 23 #[.int .i64 4, .int .i64 3] (fun _ _ _ h => h) (by have h := turnR_fn 4 3 (by omega) (by omega); rw [show rotN 4 3 = 8 by decide] at h; exact h) (fun g w => by kernel_rfl)
  · exact D2.gv_call 22 #[wv (th s 19), .int .i64 8] (fun _ _ _ h => h) (left_fn (th s 19) 8 (by omega) (by omega)) (fun g w => by kernel_rfl)
  · exact D2.gv_val (fun _ _ _ h => h) (fun g w => by kernel_rfl)
  · exact D2.gv_store 0 25 (.tmp 75) (.tmp 74) (fun g => b4) (fun g => 13) (Value.cells (bS22 s)) (Value.cells (bS23 s)) 26 (wv (pI s 13)) (fun g => by kernel_rfl) (fun g => by kernel_rfl) (fun g => by kernel_rfl) (by kernel_rfl) (by kernel_rfl) (fun g => (of_decide_eq_true (by kernel_rfl))) (fun g => (by kernel_rfl)) (fun L g hN => ⟨(by have hL19 : L 19 = false := hN.1; exact D2.ent_get' (p := true) (e := (bif L 19 then (b4, Obj.cells (Value.cells (bS23 s)) 26 (0, 0)) else (b4, Obj.cells (Value.cells (bS22 s)) 26 (0, 0)))) (by kernel_rfl) (by rfl) (by simp only [hL19, cond_true, cond_false] <;> rfl)), (by kernel_rfl)⟩) (fun L g hN hF => hF)
  intro L0 G60 w60 hall HL; clear H59
  have H60 : St w.heap.size w w60 [(b4, Obj.cells (Value.cells (bS23 s)) 26 (0, 0)), (b3, Obj.cells (Value.cells (cS24 s)) 44 (0, 0)), (b2, Obj.cells Z25 26 (0, 0)), (b1, Obj.cells (Value.cells (svn s)) 26 (0, 0))] := by have e19 := hall 19 (Nat.le_of_ble_eq_true (by kernel_rfl)); have hS := D2.StE.st HL.1; simp only [e19, cond_true, D2.pres] at hS; exact hS
  clear HL hall
  show WP _ _ _ _ _ _
  refine g_reg0 [0, 1, 2] (by kernel_rfl) ?_
  refine s_val (some 55) (.int .i64 3) (fun w => by kernel_rfl) (by kernel_rfl) ?_
  refine s_val (some 56) (.int .i64 4) (fun w => by kernel_rfl) (by kernel_rfl) ?_
  refine s_val (some 11) (.int .i64 4) (fun w => by kernel_rfl) (by kernel_rfl) ?_
  refine s_nil ?_
  show WPL _ _ _ _ _ _
  refine g_next ?_
  refine g_seq (by kernel_rfl) ?_
  refine g_sreg [0, 1] (by kernel_rfl) (by kernel_rfl) ?_
  refine s_val (some 53) (.int .i64 4) (fun w => by kernel_rfl) (by kernel_rfl) ?_
  refine s_val (some 54) (.bool true) (fun w => by kernel_rfl) (by kernel_rfl) ?_
  refine s_nil ?_
  refine g_cond_t (by kernel_rfl) (by kernel_rfl) ?_
  refine g_skip (by kernel_rfl) ?_
  show WP _ _ _ _ _ _
  refine g_seq (by kernel_rfl) ?_
  refine g_block 7 (by kernel_rfl) ?_
  refine D2.g_draw0 [0, 1, 2, 3, 4, 5, 6, 7, 8, 9, 10, 11, 12, 13, 14, 15, 16, 17, 18, 19] [((some 57), fun _ => .int .i64 4), ((some 58), fun _ => .int .i64 4), ((some 59), fun _ => .int .i64 8), ((some 60), fun _ => .int .i64 4), ((some 61), fun _ => .int .i64 12), ((some 62), fun _ => .int .i64 20), ((some 63), fun _ => .int .i64 4), ((some 64), fun _ => .int .i64 4), ((some 65), fun _ => .int .i64 4), ((some 66), fun _ => .int .i64 24), ((some 67), fun _ => .pointer (some ⟨b1, 24, none⟩)), ((some 68), fun _ => wv (nth s 24)), ((some 69), fun _ => wv (dD (cC s) 4)), ((some 70), fun _ => wv (th s 24)), ((some 71), fun _ => .int .i64 4), ((some 72), fun _ => .int .i64 4), ((some 73), fun _ => .int .i64 14), ((some 74), fun _ => wv (pI s 4)), ((some 75), fun _ => .pointer (some ⟨b4, 4, none⟩)), (none, fun _ => undef)] (D2.Pre w.heap.size w (fun L g => [(true, (bif L 19 then (b4, Obj.cells (Value.cells (bS24 s)) 26 (0, 0)) else (b4, Obj.cells (Value.cells (bS23 s)) 26 (0, 0)))), (true, (b3, Obj.cells (Value.cells (cS24 s)) 44 (0, 0))), (true, (b2, Obj.cells Z25 26 (0, 0))), (true, (b1, Obj.cells (Value.cells (svn s)) 26 (0, 0)))]) (fun L g => True)) (by kernel_rfl) (by kernel_rfl) (by kernel_rfl) ⟨D2.StE.of H60.drew _ (by kernel_rfl), trivial⟩ ⟨?_, ?_, ?_, ?_, ?_, ?_, ?_, ?_, ?_, ?_, ?_, ?_, ?_, ?_, ?_, ?_, ?_, ?_, ?_, ?_, trivial⟩ ?_
  · exact D2.gv_val (fun _ _ _ h => h) (fun g w => by kernel_rfl)
  · exact D2.gv_val (fun _ _ _ h => h) (fun g w => by kernel_rfl)
  · exact D2.gv_val (fun _ _ _ h => h) (fun g w => by kernel_rfl)
  · exact D2.gv_val (fun _ _ _ h => h) (fun g w => by kernel_rfl)
  · exact D2.gv_val (fun _ _ _ h => h) (fun g w => by kernel_rfl)
  · exact D2.gv_val (fun _ _ _ h => h) (fun g w => by kernel_rfl)
  · exact D2.gv_call 21 #[.int .i64 4, .int .i64 20] (fun _ _ _ h => h) (at_fn 4 20 (by omega) (by omega)) (fun g w => by kernel_rfl)
  · exact D2.gv_val (fun _ _ _ h => h) (fun g w => by kernel_rfl)
  · exact D2.gv_val (fun _ _ _ h => h) (fun g w => by kernel_rfl)
  · exact D2.gv_call 21 #[.int .i64 4, .int .i64 4] (fun _ _ _ h => h) (at_fn 4 4 (by omega) (by omega)) (fun g w => by kernel_rfl)
  · exact D2.gv_val (fun _ _ _ h => h) (fun g w => by kernel_rfl)
  · exact D2.gv_load1 25 (.tmp 67) 3 (fun g => b1) (fun g => 24) (fun g => (Value.cells (svn s))) 26 (0, 0) (fun _ _ _ h => h) (fun g => by kernel_rfl) (fun g => by kernel_rfl) (fun L g hN => (by kernel_rfl)) (by kernel_rfl) (fun L g hN hF => by kernel_rfl)
  · exact D2.gv_val (fun _ _ _ h => h) (fun g w => by kernel_rfl)
  · exact D2.gv_valE (fun _ _ _ h => h) (V' := .int .u64 (Go.bits .xor .u64 (((BitVec.toNat (nth s 24) : Nat) : Int)) (((BitVec.toNat (dD (cC s) 4) : Nat) : Int)))) (fun g w => by kernel_rfl) (bv_xor_u64 (nth s 24) (dD (cC s) 4))
  · exact D2.gv_val (fun _ _ _ h => h) (fun g w => by kernel_rfl)
  · exact D2.gv_val (fun _ _ _ h => h) (fun g w => by kernel_rfl)
  · exact D2.gv_call 23 #[.int .i64 4, .int .i64 4] (fun _ _ _ h => h) (by have h := turnR_fn 4 4 (by omega) (by omega); rw [show rotN 4 4 = 14 by decide] at h; exact h) (fun g w => by kernel_rfl)
  · exact D2.gv_call 22 #[wv (th s 24), .int .i64 14] (fun _ _ _ h => h) (left_fn (th s 24) 14 (by omega) (by omega)) (fun g w => by kernel_rfl)
  · exact D2.gv_val (fun _ _ _ h => h) (fun g w => by kernel_rfl)
  · exact D2.gv_store 0 25 (.tmp 75) (.tmp 74) (fun g => b4) (fun g => 4) (Value.cells (bS23 s)) (Value.cells (bS24 s)) 26 (wv (pI s 4)) (fun g => by kernel_rfl) (fun g => by kernel_rfl) (fun g => by kernel_rfl) (by kernel_rfl) (by kernel_rfl) (fun g => (of_decide_eq_true (by kernel_rfl))) (fun g => (by kernel_rfl)) (fun L g hN => ⟨(by have hL19 : L 19 = false := hN.1; exact D2.ent_get' (p := true) (e := (bif L 19 then (b4, Obj.cells (Value.cells (bS24 s)) 26 (0, 0)) else (b4, Obj.cells (Value.cells (bS23 s)) 26 (0, 0)))) (by kernel_rfl) (by rfl) (by simp only [hL19, cond_true, cond_false] <;> rfl)), (by kernel_rfl)⟩) (fun L g hN hF => hF)
  intro L0 G61 w61 hall HL; clear H60
  have H61 : St w.heap.size w w61 [(b4, Obj.cells (Value.cells (bS24 s)) 26 (0, 0)), (b3, Obj.cells (Value.cells (cS24 s)) 44 (0, 0)), (b2, Obj.cells Z25 26 (0, 0)), (b1, Obj.cells (Value.cells (svn s)) 26 (0, 0))] := by have e19 := hall 19 (Nat.le_of_ble_eq_true (by kernel_rfl)); have hS := D2.StE.st HL.1; simp only [e19, cond_true, D2.pres] at hS; exact hS
  clear HL hall
  show WP _ _ _ _ _ _
  refine g_reg0 [0, 1, 2] (by kernel_rfl) ?_
  refine s_val (some 55) (.int .i64 4) (fun w => by kernel_rfl) (by kernel_rfl) ?_
  refine s_val (some 56) (.int .i64 5) (fun w => by kernel_rfl) (by kernel_rfl) ?_
  refine s_val (some 11) (.int .i64 5) (fun w => by kernel_rfl) (by kernel_rfl) ?_
  refine s_nil ?_
  show WPL _ _ _ _ _ _
  refine g_next ?_
  refine g_seq (by kernel_rfl) ?_
  refine g_sreg [0, 1] (by kernel_rfl) (by kernel_rfl) ?_
  refine s_val (some 53) (.int .i64 5) (fun w => by kernel_rfl) (by kernel_rfl) ?_
  refine s_val (some 54) (.bool false) (fun w => by kernel_rfl) (by kernel_rfl) ?_
  refine s_nil ?_
  refine g_cond_f (by kernel_rfl) (by kernel_rfl) ?_
  refine g_exit 6 (by kernel_rfl) ?_
  show WP _ _ _ _ _ _
  refine g_reg0 [0, 1, 2] (by kernel_rfl) ?_
  refine s_val (some 39) (.int .i64 4) (fun w => by kernel_rfl) (by kernel_rfl) ?_
  refine s_val (some 40) (.int .i64 5) (fun w => by kernel_rfl) (by kernel_rfl) ?_
  refine s_val (some 9) (.int .i64 5) (fun w => by kernel_rfl) (by kernel_rfl) ?_
  refine s_nil ?_
  show WPL _ _ _ _ _ _
  refine g_next ?_
  refine g_seq (by kernel_rfl) ?_
  refine g_sreg [0, 1] (by kernel_rfl) (by kernel_rfl) ?_
  refine s_val (some 37) (.int .i64 5) (fun w => by kernel_rfl) (by kernel_rfl) ?_
  refine s_val (some 38) (.bool false) (fun w => by kernel_rfl) (by kernel_rfl) ?_
  refine s_nil ?_
  refine g_cond_f (by kernel_rfl) (by kernel_rfl) ?_
  refine g_exit 4 (by kernel_rfl) ?_
  show WP _ _ _ _ _ _
  exact rr_three s i hi w b4 b3 b2 b1 w61 H61 _ (Is.of ⟨(by kernel_rfl), (by kernel_rfl), (by kernel_rfl), trivial⟩)
end Go.Proofs.YtddhadddpllbcaaDoor
