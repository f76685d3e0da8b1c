/-
  What eight words become.
-/
import Derived.Test.YtjhldipeicpoeaaDoorProg
import Derived.Test.YtjhldipeicpoeaaDoorShaM
import Derived.Test.YtjhldipeicpoeaaDoorShaR
namespace Go.Proofs.YtjhldipeicpoeaaDoor
open Go Go.RowKit Go.Proofs.Sha
set_option linter.unusedVariables false
theorem nth_list8 (q : S8) : list8 q = [S8.a q, S8.b q, S8.c q, S8.d q, S8.e q, S8.f q, S8.g q, S8.h q] := rfl
def acc (s l : List W) (i : Nat) : List W := fix 8 fun j => if j < i then nth s j + nth l j else nth s j
theorem nth_acc (s l : List W) (i j : Nat) (hj : j < 8) : nth (acc s l (i + 1)) j = if j = i then nth (acc s l i) i + nth l i else nth (acc s l i) j := by
  unfold acc
  by_cases h : j = i
  · subst h; rw [if_pos rfl, nth_fix, nth_fix, if_pos hj, if_pos hj, if_pos (by omega), if_neg (by omega)]
  · rw [if_neg h, nth_fix, nth_fix, if_pos hj, if_pos hj]
    by_cases h2 : j < i
    · rw [if_pos (by omega), if_pos h2]
    · rw [if_neg (by omega), if_neg h2]
theorem acc0 (s l : List W) (j : Nat) (hj : j < 8) : nth s j = nth (acc s l 0) j := by unfold acc; rw [nth_fix, if_pos hj, if_neg (by omega)]
theorem acc8 (s b : List W) (j : Nat) (hj : j < 8) : nth (acc s (list8 (run roots (grow b 48) (of8 s) 64)) 8) j = nth (become s b) j := by
  unfold acc become; rw [nth_fix, nth_fix, if_pos hj, if_pos hj, if_pos hj]

set_option maxRecDepth 100000 in
set_option maxHeartbeats 2000000 in
theorem become_fnT (s b : List W) (T : TypeId) (fz : Nat × Nat) : FnP Tryd.prog 26 #[arr 8 s, arr 16 b] (fun w => w.heap[0]? = some (.cells rootsC T fz)) (arr 8 (become s b)) := by
  refine FnP.intro (c := codeOf Tryd.f26) [.cell 4 31] 108 Tryd.func26 (by kernel_rfl) (by kernel_rfl) (by kernel_rfl) fun w hpre => ?_
  have H0 := St.start w
  refine g_sreg [0, 1, 2] (by kernel_rfl) (by kernel_rfl) ?_
  refine s_box H0 (some 2) 31 (.tmp 0) (arr 8 s) (by kernel_rfl) (by kernel_rfl) (by kernel_rfl) ?_
  intro b1 w1 H1; clear H0
  refine s_box H1 (some 3) 42 (.tmp 1) (arr 16 b) (by kernel_rfl) (by kernel_rfl) (by kernel_rfl) ?_
  intro b2 w2 H2; clear H1
  refine s_alloc H2 (some 4) 31 (.agg #[.int .u32 0, .int .u32 0, .int .u32 0, .int .u32 0, .int .u32 0, .int .u32 0, .int .u32 0, .int .u32 0]) (by kernel_rfl) (by kernel_rfl) (by kernel_rfl) ?_
  intro b3 w3 H3; clear H2
  refine s_nil ?_
  refine D2.g_sdraw [0, 1, 2, 3, 4, 5, 6, 7, 8, 9, 10, 11] [((some 19), fun _ => .pointer (some ⟨b1, 0, none⟩)), ((some 20), fun _ => .int .u32 ((BitVec.toNat (nth s 0) : Nat) : Int)), ((some 21), fun _ => .pointer (some ⟨b1, 1, none⟩)), ((some 22), fun _ => .int .u32 ((BitVec.toNat (nth s 1) : Nat) : Int)), ((some 23), fun _ => .pointer (some ⟨b1, 2, none⟩)), ((some 24), fun _ => .int .u32 ((BitVec.toNat (nth s 2) : Nat) : Int)), ((some 25), fun _ => .pointer (some ⟨b1, 3, none⟩)), ((some 26), fun _ => .int .u32 ((BitVec.toNat (nth s 3) : Nat) : Int)), ((some 5), fun _ => .int .u32 ((BitVec.toNat (nth s 0) : Nat) : Int)), ((some 6), fun _ => .int .u32 ((BitVec.toNat (nth s 1) : Nat) : Int)), ((some 7), fun _ => .int .u32 ((BitVec.toNat (nth s 2) : Nat) : Int)), ((some 8), fun _ => .int .u32 ((BitVec.toNat (nth s 3) : Nat) : Int))] (D2.Pre w.heap.size w (fun L g => [(true, (b3, Obj.cells #[.int .u32 0, .int .u32 0, .int .u32 0, .int .u32 0, .int .u32 0, .int .u32 0, .int .u32 0, .int .u32 0] 31 (0, 0))), (true, (b2, Obj.cells (Value.cells (arr 16 b)) 42 (0, 0))), (true, (b1, Obj.cells (Value.cells (arr 8 s)) 31 (0, 0)))]) (fun L g => True)) (by kernel_rfl) (by kernel_rfl) (by kernel_rfl) (by kernel_rfl) ⟨D2.StE.of H3.drew _ (by kernel_rfl), trivial⟩ ⟨?_, ?_, ?_, ?_, ?_, ?_, ?_, ?_, ?_, ?_, ?_, ?_, trivial⟩ ?_
  · exact D2.gv_val (fun _ _ _ h => h) (fun g w => by kernel_rfl)
  · exact D2.gv_load1 30 (.tmp 19) 2 (fun g => b1) (fun g => 0) (fun g => (Value.cells (arr 8 s))) 31 (0, 0) (fun _ _ _ h => h) (fun g => by kernel_rfl) (fun g => by kernel_rfl) (fun L g hN => (by kernel_rfl)) (by kernel_rfl) (fun L g hN hF => by kernel_rfl)
  · exact D2.gv_val (fun _ _ _ h => h) (fun g w => by kernel_rfl)
  · exact D2.gv_load1 30 (.tmp 21) 2 (fun g => b1) (fun g => 1) (fun g => (Value.cells (arr 8 s))) 31 (0, 0) (fun _ _ _ h => h) (fun g => by kernel_rfl) (fun g => by kernel_rfl) (fun L g hN => (by kernel_rfl)) (by kernel_rfl) (fun L g hN hF => by kernel_rfl)
  · exact D2.gv_val (fun _ _ _ h => h) (fun g w => by kernel_rfl)
  · exact D2.gv_load1 30 (.tmp 23) 2 (fun g => b1) (fun g => 2) (fun g => (Value.cells (arr 8 s))) 31 (0, 0) (fun _ _ _ h => h) (fun g => by kernel_rfl) (fun g => by kernel_rfl) (fun L g hN => (by kernel_rfl)) (by kernel_rfl) (fun L g hN hF => by kernel_rfl)
  · exact D2.gv_val (fun _ _ _ h => h) (fun g w => by kernel_rfl)
  · exact D2.gv_load1 30 (.tmp 25) 2 (fun g => b1) (fun g => 3) (fun g => (Value.cells (arr 8 s))) 31 (0, 0) (fun _ _ _ h => h) (fun g => by kernel_rfl) (fun g => by kernel_rfl) (fun L g hN => (by kernel_rfl)) (by kernel_rfl) (fun L g hN hF => by kernel_rfl)
  · exact D2.gv_val (fun _ _ _ h => h) (fun g w => by kernel_rfl)
  · exact D2.gv_val (fun _ _ _ h => h) (fun g w => by kernel_rfl)
  · exact D2.gv_val (fun _ _ _ h => h) (fun g w => by kernel_rfl)
  · exact D2.gv_val (fun _ _ _ h => h) (fun g w => by kernel_rfl)
  intro L0 G4 w4 hall HL; clear H3
  have H4 : St w.heap.size w w4 [(b3, Obj.cells #[.int .u32 0, .int .u32 0, .int .u32 0, .int .u32 0, .int .u32 0, .int .u32 0, .int .u32 0, .int .u32 0] 31 (0, 0)), (b2, Obj.cells (Value.cells (arr 16 b)) 42 (0, 0)), (b1, Obj.cells (Value.cells (arr 8 s)) 31 (0, 0))] := D2.StE.st HL.1
  clear HL hall
  refine D2.g_sdraw [0, 1, 2, 3, 4, 5, 6, 7, 8, 9, 10, 11] [((some 27), fun _ => .pointer (some ⟨b1, 4, none⟩)), ((some 28), fun _ => .int .u32 ((BitVec.toNat (nth s 4) : Nat) : Int)), ((some 29), fun _ => .pointer (some ⟨b1, 5, none⟩)), ((some 30), fun _ => .int .u32 ((BitVec.toNat (nth s 5) : Nat) : Int)), ((some 31), fun _ => .pointer (some ⟨b1, 6, none⟩)), ((some 32), fun _ => .int .u32 ((BitVec.toNat (nth s 6) : Nat) : Int)), ((some 33), fun _ => .pointer (some ⟨b1, 7, none⟩)), ((some 34), fun _ => .int .u32 ((BitVec.toNat (nth s 7) : Nat) : Int)), ((some 9), fun _ => .int .u32 ((BitVec.toNat (nth s 4) : Nat) : Int)), ((some 10), fun _ => .int .u32 ((BitVec.toNat (nth s 5) : Nat) : Int)), ((some 11), fun _ => .int .u32 ((BitVec.toNat (nth s 6) : Nat) : Int)), ((some 12), fun _ => .int .u32 ((BitVec.toNat (nth s 7) : Nat) : Int))] (D2.Pre w.heap.size w (fun L g => [(true, (b3, Obj.cells #[.int .u32 0, .int .u32 0, .int .u32 0, .int .u32 0, .int .u32 0, .int .u32 0, .int .u32 0, .int .u32 0] 31 (0, 0))), (true, (b2, Obj.cells (Value.cells (arr 16 b)) 42 (0, 0))), (true, (b1, Obj.cells (Value.cells (arr 8 s)) 31 (0, 0)))]) (fun L g => True)) (by kernel_rfl) (by kernel_rfl) (by kernel_rfl) (by kernel_rfl) ⟨D2.StE.of H4.drew _ (by kernel_rfl), trivial⟩ ⟨?_, ?_, ?_, ?_, ?_, ?_, ?_, ?_, ?_, ?_, ?_, ?_, trivial⟩ ?_
  · exact D2.gv_val (fun _ _ _ h => h) (fun g w => by kernel_rfl)
  · exact D2.gv_load1 30 (.tmp 27) 2 (fun g => b1) (fun g => 4) (fun g => (Value.cells (arr 8 s))) 31 (0, 0) (fun _ _ _ h => h) (fun g => by kernel_rfl) (fun g => by kernel_rfl) (fun L g hN => (by kernel_rfl)) (by kernel_rfl) (fun L g hN hF => by kernel_rfl)
  · exact D2.gv_val (fun _ _ _ h => h) (fun g w => by kernel_rfl)
  · exact D2.gv_load1 30 (.tmp 29) 2 (fun g => b1) (fun g => 5) (fun g => (Value.cells (arr 8 s))) 31 (0, 0) (fun _ _ _ h => h) (fun g => by kernel_rfl) (fun g => by kernel_rfl) (fun L g hN => (by kernel_rfl)) (by kernel_rfl) (fun L g hN hF => by kernel_rfl)
  · exact D2.gv_val (fun _ _ _ h => h) (fun g w => by kernel_rfl)
  · exact D2.gv_load1 30 (.tmp 31) 2 (fun g => b1) (fun g => 6) (fun g => (Value.cells (arr 8 s))) 31 (0, 0) (fun _ _ _ h => h) (fun g => by kernel_rfl) (fun g => by kernel_rfl) (fun L g hN => (by kernel_rfl)) (by kernel_rfl) (fun L g hN hF => by kernel_rfl)
  · exact D2.gv_val (fun _ _ _ h => h) (fun g w => by kernel_rfl)
  · exact D2.gv_load1 30 (.tmp 33) 2 (fun g => b1) (fun g => 7) (fun g => (Value.cells (arr 8 s))) 31 (0, 0) (fun _ _ _ h => h) (fun g => by kernel_rfl) (fun g => by kernel_rfl) (fun L g hN => (by kernel_rfl)) (by kernel_rfl) (fun L g hN hF => by kernel_rfl)
  · exact D2.gv_val (fun _ _ _ h => h) (fun g w => by kernel_rfl)
  · exact D2.gv_val (fun _ _ _ h => h) (fun g w => by kernel_rfl)
  · exact D2.gv_val (fun _ _ _ h => h) (fun g w => by kernel_rfl)
  · exact D2.gv_val (fun _ _ _ h => h) (fun g w => by kernel_rfl)
  intro L0 G5 w5 hall HL; clear H4
  have H5 : St w.heap.size w w5 [(b3, Obj.cells #[.int .u32 0, .int .u32 0, .int .u32 0, .int .u32 0, .int .u32 0, .int .u32 0, .int .u32 0, .int .u32 0] 31 (0, 0)), (b2, Obj.cells (Value.cells (arr 16 b)) 42 (0, 0)), (b1, Obj.cells (Value.cells (arr 8 s)) 31 (0, 0))] := D2.StE.st HL.1
  clear HL hall
  refine g_seq (by kernel_rfl) ?_
  refine g_sreg [0, 1, 2] (by kernel_rfl) (by kernel_rfl) ?_
  refine s_load H5 (some 35) 42 (.tmp 3) 1 b2 (Value.cells (arr 16 b)) 42 (0, 0) (by kernel_rfl) (by kernel_rfl) (by kernel_rfl) (by kernel_rfl) (by kernel_rfl) ?_
  refine s_call H5 (some 36) 29 #[arr 16 b] (arr 64 (grow b 48)) (spread_fn b) (fun w => by kernel_rfl) (by kernel_rfl) ?_
  intro w6 H6; clear H5
  refine s_val (some 37) (.int .i64 0) (fun w => by kernel_rfl) (by kernel_rfl) ?_
  refine s_nil ?_
  refine g_block 0 (by kernel_rfl) ?_
  have HD1 : St w.heap.size w w6 [(b3, Obj.cells #[.int .u32 0, .int .u32 0, .int .u32 0, .int .u32 0, .int .u32 0, .int .u32 0, .int .u32 0, .int .u32 0] 31 (0, 0)), (b1, Obj.cells (Value.cells (arr 8 s)) 31 (0, 0))] := H6.sub (List.Sublist.cons_cons _ (List.Sublist.cons _ (List.Sublist.cons_cons _ List.Sublist.slnil)))
  have HF2 : St w.heap.size w w6 [(b3, Obj.cells #[.int .u32 0, .int .u32 0, .int .u32 0, .int .u32 0, .int .u32 0, .int .u32 0, .int .u32 0, .int .u32 0] 31 (0, 0)), (b1, Obj.cells (Value.cells (arr 8 s)) 31 (0, 0))] := HD1.front 0 (by kernel_rfl) (by kernel_rfl)
  have HF3 : St w.heap.size w w6 [(b1, Obj.cells (Value.cells (arr 8 s)) 31 (0, 0)), (b3, Obj.cells #[.int .u32 0, .int .u32 0, .int .u32 0, .int .u32 0, .int .u32 0, .int .u32 0, .int .u32 0, .int .u32 0] 31 (0, 0))] := HF2.front 1 (by kernel_rfl) (by kernel_rfl)
  refine g_loop (by kernel_rfl) (fun mz ρ ww => ∃ (q : S8) (t : Nat), 64 - t = mz ∧ (t ≤ 64) ∧ (run roots (grow b 48) (of8 s) t = q) ∧ St w.heap.size w ww [(b1, Obj.cells (Value.cells (arr 8 s)) 31 (0, 0)), (b3, Obj.cells #[.int .u32 0, .int .u32 0, .int .u32 0, .int .u32 0, .int .u32 0, .int .u32 0, .int .u32 0, .int .u32 0] 31 (0, 0))] ∧ Is [(0, arr 8 s), (1, arr 16 b), (2, .pointer (some ⟨b1, 0, none⟩)), (3, .pointer (some ⟨b2, 0, none⟩)), (4, .pointer (some ⟨b3, 0, none⟩)), (5, .int .u32 ((BitVec.toNat (S8.a q) : Nat) : Int)), (6, .int .u32 ((BitVec.toNat (S8.b q) : Nat) : Int)), (7, .int .u32 ((BitVec.toNat (S8.c q) : Nat) : Int)), (8, .int .u32 ((BitVec.toNat (S8.d q) : Nat) : Int)), (9, .int .u32 ((BitVec.toNat (S8.e q) : Nat) : Int)), (10, .int .u32 ((BitVec.toNat (S8.f q) : Nat) : Int)), (11, .int .u32 ((BitVec.toNat (S8.g q) : Nat) : Int)), (12, .int .u32 ((BitVec.toNat (S8.h q) : Nat) : Int)), (36, arr 64 (grow b 48)), (37, .int .i64 ((t : Nat) : Int))] ρ) (64 - 0) ⟨(of8 s), 0, rfl, (by omega), rfl, HF3, (Is.of ⟨(by kernel_rfl), (by kernel_rfl), (by kernel_rfl), (by kernel_rfl), (by kernel_rfl), (by kernel_rfl), (by kernel_rfl), (by kernel_rfl), (by kernel_rfl), (by kernel_rfl), (by kernel_rfl), (by kernel_rfl), (by kernel_rfl), (by kernel_rfl), (by kernel_rfl), trivial⟩)⟩ ?_
  clear HF3
  rintro _ _ w7 ⟨q, t, rfl, ht, hq, H7, _, rfl⟩
  refine g_sreg [0] (by kernel_rfl) (by kernel_rfl) ?_
  by_cases hc4 : (t : Nat) < 64
  · skip
    refine s_valE (some 38) (.bool (decide (((t : Nat) : Int) < 64))) (.bool true) (fun w => by kernel_rfl) (bool_eq (decide_eq_true (by omega))) (by kernel_rfl) ?_
    refine s_nil ?_
    refine g_seq (by kernel_rfl) ?_
    refine g_cond_t (by kernel_rfl) (by kernel_rfl) ?_
    refine g_skip (by kernel_rfl) ?_
    show WP _ _ _ _ _ _
    refine g_seq (by kernel_rfl) ?_
    refine g_block 1 (by kernel_rfl) ?_
    refine g_sreg [0, 1, 2, 3] (by kernel_rfl) (by kernel_rfl) ?_
    refine s_val (some 39) (.int .i64 ((t : Nat) : Int)) (fun w => by kernel_rfl) (by kernel_rfl) ?_
    refine s_op (some 40) _ (.int .u32 ((BitVec.toNat (nth (grow b 48) t) : Nat) : Int)) (by kernel_rfl) (by kernel_rfl) (fun o w ho => arr_index (t := 61) (e := 30) (kd := .i64) (n := 64) (by kernel_rfl) (by kernel_rfl) (by kernel_rfl) (x := (.tmp 36)) (y := (.tmp 37)) (Value.cells (arr 64 (grow b 48))) t (.int .u32 ((BitVec.toNat (nth (grow b 48) t) : Nat) : Int)) ho (by kernel_rfl) (by kernel_rfl) (by omega) (arr_at (n := 64) (grow b 48) (k := t) (by omega) (by omega)) w) ?_
    refine s_val (some 13) (.int .i64 ((t : Nat) : Int)) (fun w => by kernel_rfl) (by kernel_rfl) ?_
    refine s_val (some 14) (.int .u32 ((BitVec.toNat (nth (grow b 48) t) : Nat) : Int)) (fun w => by kernel_rfl) (by kernel_rfl) ?_
    refine s_nil ?_
    refine D2.g_sdraw [0, 1, 2, 3, 4, 5, 6, 7, 8, 9, 10, 11, 12, 13, 14, 15, 16, 17, 18, 19] [((some 41), fun _ => .int .u32 ((BitVec.toNat (S8.h q) : Nat) : Int)), ((some 42), fun _ => .int .u32 ((BitVec.toNat (S8.e q) : Nat) : Int)), ((some 43), fun _ => .int .u32 ((BitVec.toNat (tri (S8.e q) 6 11 25) : Nat) : Int)), ((some 44), fun _ => .int .u32 ((BitVec.toNat ((S8.h q) + (tri (S8.e q) 6 11 25)) : Nat) : Int)), ((some 45), fun _ => .int .u32 ((BitVec.toNat (S8.e q) : Nat) : Int)), ((some 46), fun _ => .int .u32 ((BitVec.toNat (S8.f q) : Nat) : Int)), ((some 47), fun _ => .int .u32 ((BitVec.toNat ((S8.e q) &&& (S8.f q)) : Nat) : Int)), ((some 48), fun _ => .int .u32 ((BitVec.toNat (S8.e q) : Nat) : Int)), ((some 49), fun _ => .int .u32 ((BitVec.toNat (~~~(S8.e q)) : Nat) : Int)), ((some 50), fun _ => .int .u32 ((BitVec.toNat (S8.g q) : Nat) : Int)), ((some 51), fun _ => .int .u32 ((BitVec.toNat ((~~~(S8.e q)) &&& (S8.g q)) : Nat) : Int)), ((some 52), fun _ => .int .u32 ((BitVec.toNat (((S8.e q) &&& (S8.f q)) ||| ((~~~(S8.e q)) &&& (S8.g q))) : Nat) : Int)), ((some 53), fun _ => .int .u32 ((BitVec.toNat (((S8.h q) + (tri (S8.e q) 6 11 25)) + (((S8.e q) &&& (S8.f q)) ||| ((~~~(S8.e q)) &&& (S8.g q)))) : Nat) : Int)), ((some 54), fun _ => .int .i64 ((t : Nat) : Int)), ((some 55), fun _ => .pointer (some ⟨0, 0 + t * 1, none⟩)), ((some 56), fun _ => .int .u32 ((BitVec.toNat (nth roots t) : Nat) : Int)), ((some 57), fun _ => .int .u32 ((BitVec.toNat ((((S8.h q) + (tri (S8.e q) 6 11 25)) + (((S8.e q) &&& (S8.f q)) ||| ((~~~(S8.e q)) &&& (S8.g q)))) + (nth roots t)) : Nat) : Int)), ((some 58), fun _ => .int .u32 ((BitVec.toNat (nth (grow b 48) t) : Nat) : Int)), ((some 59), fun _ => .int .u32 ((BitVec.toNat (((((S8.h q) + (tri (S8.e q) 6 11 25)) + (((S8.e q) &&& (S8.f q)) ||| ((~~~(S8.e q)) &&& (S8.g q)))) + (nth roots t)) + (nth (grow b 48) t)) : Nat) : Int)), ((some 15), fun _ => .int .u32 ((BitVec.toNat (((((S8.h q) + (tri (S8.e q) 6 11 25)) + (((S8.e q) &&& (S8.f q)) ||| ((~~~(S8.e q)) &&& (S8.g q)))) + (nth roots t)) + (nth (grow b 48) t)) : Nat) : Int))] (D2.Pre w.heap.size w (fun L g => [(true, (b1, Obj.cells (Value.cells (arr 8 s)) 31 (0, 0))), (true, (b3, Obj.cells #[.int .u32 0, .int .u32 0, .int .u32 0, .int .u32 0, .int .u32 0, .int .u32 0, .int .u32 0, .int .u32 0] 31 (0, 0)))]) (fun L g => True)) (by kernel_rfl) (by kernel_rfl) (by kernel_rfl) (by kernel_rfl) ⟨D2.StE.of H7.drew _ (by kernel_rfl), trivial⟩ ⟨?_, ?_, ?_, ?_, ?_, ?_, ?_, ?_, ?_, ?_, ?_, ?_, ?_, ?_, ?_, ?_, ?_, ?_, ?_, ?_, trivial⟩ ?_
    · exact D2.gv_val (fun _ _ _ h => h) (fun g w => by kernel_rfl)
    · exact D2.gv_val (fun _ _ _ h => h) (fun g w => by kernel_rfl)
    · exact D2.gv_call 30 #[.int .u32 ((BitVec.toNat (S8.e q) : Nat) : Int), .int .i64 6, .int .i64 11, .int .i64 25] (fun _ _ _ h => h) (turned_fn (S8.e q) 6 11 25 (by omega) (by omega) (by omega) (by omega) (by omega) (by omega)) (fun g w => by kernel_rfl)
    · exact D2.gv_valE (fun _ _ _ h => h) (V' := .int .u32 (IntKind.u32.wrap ((((BitVec.toNat (S8.h q) : Nat) : Int)) + (((BitVec.toNat (tri (S8.e q) 6 11 25) : Nat) : Int))))) (fun g w => by kernel_rfl) (bv_add_u32 (S8.h q) (tri (S8.e q) 6 11 25))
    · exact D2.gv_val (fun _ _ _ h => h) (fun g w => by kernel_rfl)
    · exact D2.gv_val (fun _ _ _ h => h) (fun g w => by kernel_rfl)
    · exact D2.gv_valE (fun _ _ _ h => h) (V' := .int .u32 (Go.bits .and .u32 (((BitVec.toNat (S8.e q) : Nat) : Int)) (((BitVec.toNat (S8.f q) : Nat) : Int)))) (fun g w => by kernel_rfl) (bv_and_u32 (S8.e q) (S8.f q))
    · exact D2.gv_val (fun _ _ _ h => h) (fun g w => by kernel_rfl)
    · exact D2.gv_valE (fun _ _ _ h => h) (V' := .int .u32 (Go.bits .xor .u32 4294967295 (((BitVec.toNat (S8.e q) : Nat) : Int)))) (fun g w => by kernel_rfl) (bv_not_u32 (S8.e q))
    · exact D2.gv_val (fun _ _ _ h => h) (fun g w => by kernel_rfl)
    · exact D2.gv_valE (fun _ _ _ h => h) (V' := .int .u32 (Go.bits .and .u32 (((BitVec.toNat (~~~(S8.e q)) : Nat) : Int)) (((BitVec.toNat (S8.g q) : Nat) : Int)))) (fun g w => by kernel_rfl) (bv_and_u32 (~~~(S8.e q)) (S8.g q))
    · exact D2.gv_valE (fun _ _ _ h => h) (V' := .int .u32 (Go.bits .or .u32 (((BitVec.toNat ((S8.e q) &&& (S8.f q)) : Nat) : Int)) (((BitVec.toNat ((~~~(S8.e q)) &&& (S8.g q)) : Nat) : Int)))) (fun g w => by kernel_rfl) (bv_or_u32 ((S8.e q) &&& (S8.f q)) ((~~~(S8.e q)) &&& (S8.g q)))
    · exact D2.gv_valE (fun _ _ _ h => h) (V' := .int .u32 (IntKind.u32.wrap ((((BitVec.toNat ((S8.h q) + (tri (S8.e q) 6 11 25)) : Nat) : Int)) + (((BitVec.toNat (((S8.e q) &&& (S8.f q)) ||| ((~~~(S8.e q)) &&& (S8.g q))) : Nat) : Int))))) (fun g w => by kernel_rfl) (bv_add_u32 ((S8.h q) + (tri (S8.e q) 6 11 25)) (((S8.e q) &&& (S8.f q)) ||| ((~~~(S8.e q)) &&& (S8.g q))))
    · exact D2.gv_val (fun _ _ _ h => h) (fun g w => by kernel_rfl)
    · exact D2.gv_op (fun _ _ _ h => h) _ (fun g => by kernel_rfl) (fun g => (fun o w ho => idxA_run (kd := .i64) (t := 61) (n := 64) (size := 1) (by kernel_rfl) (x := (.global 0)) (y := (.tmp 54)) 0 0 t ho (by kernel_rfl) (by kernel_rfl) (by omega) w))
    · exact D2.gv_load1F 30 (.tmp 55) 0 (0 + t * 1) (Value.cells (.agg rootsC)) T fz (fun _ _ _ h => h) (fun g => by kernel_rfl) (fun g => by kernel_rfl) hpre (lt_of_heap hpre) (by kernel_rfl) (roots_at (by omega) (by omega))
    · exact D2.gv_valE (fun _ _ _ h => h) (V' := .int .u32 (IntKind.u32.wrap ((((BitVec.toNat (((S8.h q) + (tri (S8.e q) 6 11 25)) + (((S8.e q) &&& (S8.f q)) ||| ((~~~(S8.e q)) &&& (S8.g q)))) : Nat) : Int)) + (((BitVec.toNat (nth roots t) : Nat) : Int))))) (fun g w => by kernel_rfl) (bv_add_u32 (((S8.h q) + (tri (S8.e q) 6 11 25)) + (((S8.e q) &&& (S8.f q)) ||| ((~~~(S8.e q)) &&& (S8.g q)))) (nth roots t))
    · exact D2.gv_val (fun _ _ _ h => h) (fun g w => by kernel_rfl)
    · exact D2.gv_valE (fun _ _ _ h => h) (V' := .int .u32 (IntKind.u32.wrap ((((BitVec.toNat ((((S8.h q) + (tri (S8.e q) 6 11 25)) + (((S8.e q) &&& (S8.f q)) ||| ((~~~(S8.e q)) &&& (S8.g q)))) + (nth roots t)) : Nat) : Int)) + (((BitVec.toNat (nth (grow b 48) t) : Nat) : Int))))) (fun g w => by kernel_rfl) (bv_add_u32 ((((S8.h q) + (tri (S8.e q) 6 11 25)) + (((S8.e q) &&& (S8.f q)) ||| ((~~~(S8.e q)) &&& (S8.g q)))) + (nth roots t)) (nth (grow b 48) t))
    · exact D2.gv_val (fun _ _ _ h => h) (fun g w => by kernel_rfl)
    intro L0 G8 w8 hall HL; clear H7
    have H8 : St w.heap.size w w8 [(b1, Obj.cells (Value.cells (arr 8 s)) 31 (0, 0)), (b3, Obj.cells #[.int .u32 0, .int .u32 0, .int .u32 0, .int .u32 0, .int .u32 0, .int .u32 0, .int .u32 0, .int .u32 0] 31 (0, 0))] := D2.StE.st HL.1
    clear HL hall
    refine g_sreg [0, 1, 2, 3, 4, 5, 6, 7, 8, 9, 10, 11, 12, 13, 14] (by kernel_rfl) (by kernel_rfl) ?_
    refine s_val (some 60) (.int .u32 ((BitVec.toNat (S8.a q) : Nat) : Int)) (fun w => by kernel_rfl) (by kernel_rfl) ?_
    refine s_call H8 (some 61) 30 #[.int .u32 ((BitVec.toNat (S8.a q) : Nat) : Int), .int .i64 2, .int .i64 13, .int .i64 22] (.int .u32 ((BitVec.toNat (tri (S8.a q) 2 13 22) : Nat) : Int)) (turned_fn (S8.a q) 2 13 22 (by omega) (by omega) (by omega) (by omega) (by omega) (by omega)) (fun w => by kernel_rfl) (by kernel_rfl) ?_
    intro w9 H9; clear H8
    refine s_val (some 62) (.int .u32 ((BitVec.toNat (S8.a q) : Nat) : Int)) (fun w => by kernel_rfl) (by kernel_rfl) ?_
    refine s_val (some 63) (.int .u32 ((BitVec.toNat (S8.b q) : Nat) : Int)) (fun w => by kernel_rfl) (by kernel_rfl) ?_
    refine s_valE (some 64) (.int .u32 (Go.bits .and .u32 (((BitVec.toNat (S8.a q) : Nat) : Int)) (((BitVec.toNat (S8.b q) : Nat) : Int)))) (.int .u32 ((BitVec.toNat ((S8.a q) &&& (S8.b q)) : Nat) : Int)) (fun w => by kernel_rfl) (bv_and_u32 (S8.a q) (S8.b q)) (by kernel_rfl) ?_
    refine s_val (some 65) (.int .u32 ((BitVec.toNat (S8.a q) : Nat) : Int)) (fun w => by kernel_rfl) (by kernel_rfl) ?_
    refine s_val (some 66) (.int .u32 ((BitVec.toNat (S8.c q) : Nat) : Int)) (fun w => by kernel_rfl) (by kernel_rfl) ?_
    refine s_valE (some 67) (.int .u32 (Go.bits .and .u32 (((BitVec.toNat (S8.a q) : Nat) : Int)) (((BitVec.toNat (S8.c q) : Nat) : Int)))) (.int .u32 ((BitVec.toNat ((S8.a q) &&& (S8.c q)) : Nat) : Int)) (fun w => by kernel_rfl) (bv_and_u32 (S8.a q) (S8.c q)) (by kernel_rfl) ?_
    refine s_valE (some 68) (.int .u32 (Go.bits .or .u32 (((BitVec.toNat ((S8.a q) &&& (S8.b q)) : Nat) : Int)) (((BitVec.toNat ((S8.a q) &&& (S8.c q)) : Nat) : Int)))) (.int .u32 ((BitVec.toNat (((S8.a q) &&& (S8.b q)) ||| ((S8.a q) &&& (S8.c q))) : Nat) : Int)) (fun w => by kernel_rfl) (bv_or_u32 ((S8.a q) &&& (S8.b q)) ((S8.a q) &&& (S8.c q))) (by kernel_rfl) ?_
    refine s_val (some 69) (.int .u32 ((BitVec.toNat (S8.b q) : Nat) : Int)) (fun w => by kernel_rfl) (by kernel_rfl) ?_
    refine s_val (some 70) (.int .u32 ((BitVec.toNat (S8.c q) : Nat) : Int)) (fun w => by kernel_rfl) (by kernel_rfl) ?_
    refine s_valE (some 71) (.int .u32 (Go.bits .and .u32 (((BitVec.toNat (S8.b q) : Nat) : Int)) (((BitVec.toNat (S8.c q) : Nat) : Int)))) (.int .u32 ((BitVec.toNat ((S8.b q) &&& (S8.c q)) : Nat) : Int)) (fun w => by kernel_rfl) (bv_and_u32 (S8.b q) (S8.c q)) (by kernel_rfl) ?_
    refine s_valE (some 72) (.int .u32 (Go.bits .or .u32 (((BitVec.toNat (((S8.a q) &&& (S8.b q)) ||| ((S8.a q) &&& (S8.c q))) : Nat) : Int)) (((BitVec.toNat ((S8.b q) &&& (S8.c q)) : Nat) : Int)))) (.int .u32 ((BitVec.toNat ((((S8.a q) &&& (S8.b q)) ||| ((S8.a q) &&& (S8.c q))) ||| ((S8.b q) &&& (S8.c q))) : Nat) : Int)) (fun w => by kernel_rfl) (bv_or_u32 (((S8.a q) &&& (S8.b q)) ||| ((S8.a q) &&& (S8.c q))) ((S8.b q) &&& (S8.c q))) (by kernel_rfl) ?_
    refine s_valE (some 73) (.int .u32 (IntKind.u32.wrap ((((BitVec.toNat (tri (S8.a q) 2 13 22) : Nat) : Int)) + (((BitVec.toNat ((((S8.a q) &&& (S8.b q)) ||| ((S8.a q) &&& (S8.c q))) ||| ((S8.b q) &&& (S8.c q))) : Nat) : Int))))) (.int .u32 ((BitVec.toNat ((tri (S8.a q) 2 13 22) + ((((S8.a q) &&& (S8.b q)) ||| ((S8.a q) &&& (S8.c q))) ||| ((S8.b q) &&& (S8.c q)))) : Nat) : Int)) (fun w => by kernel_rfl) (bv_add_u32 (tri (S8.a q) 2 13 22) ((((S8.a q) &&& (S8.b q)) ||| ((S8.a q) &&& (S8.c q))) ||| ((S8.b q) &&& (S8.c q)))) (by kernel_rfl) ?_
    refine s_val (some 16) (.int .u32 ((BitVec.toNat ((tri (S8.a q) 2 13 22) + ((((S8.a q) &&& (S8.b q)) ||| ((S8.a q) &&& (S8.c q))) ||| ((S8.b q) &&& (S8.c q)))) : Nat) : Int)) (fun w => by kernel_rfl) (by kernel_rfl) ?_
    refine s_nil ?_
    refine g_sreg [0, 1, 2, 3, 4, 5, 6, 7, 8, 9] (by kernel_rfl) (by kernel_rfl) ?_
    refine s_val (some 74) (.int .u32 ((BitVec.toNat (S8.g q) : Nat) : Int)) (fun w => by kernel_rfl) (by kernel_rfl) ?_
    refine s_val (some 75) (.int .u32 ((BitVec.toNat (S8.f q) : Nat) : Int)) (fun w => by kernel_rfl) (by kernel_rfl) ?_
    refine s_val (some 76) (.int .u32 ((BitVec.toNat (S8.e q) : Nat) : Int)) (fun w => by kernel_rfl) (by kernel_rfl) ?_
    refine s_val (some 77) (.int .u32 ((BitVec.toNat (S8.d q) : Nat) : Int)) (fun w => by kernel_rfl) (by kernel_rfl) ?_
    refine s_val (some 78) (.int .u32 ((BitVec.toNat (((((S8.h q) + (tri (S8.e q) 6 11 25)) + (((S8.e q) &&& (S8.f q)) ||| ((~~~(S8.e q)) &&& (S8.g q)))) + (nth roots t)) + (nth (grow b 48) t)) : Nat) : Int)) (fun w => by kernel_rfl) (by kernel_rfl) ?_
    refine s_valE (some 79) (.int .u32 (IntKind.u32.wrap ((((BitVec.toNat (S8.d q) : Nat) : Int)) + (((BitVec.toNat (((((S8.h q) + (tri (S8.e q) 6 11 25)) + (((S8.e q) &&& (S8.f q)) ||| ((~~~(S8.e q)) &&& (S8.g q)))) + (nth roots t)) + (nth (grow b 48) t)) : Nat) : Int))))) (.int .u32 ((BitVec.toNat ((S8.d q) + (((((S8.h q) + (tri (S8.e q) 6 11 25)) + (((S8.e q) &&& (S8.f q)) ||| ((~~~(S8.e q)) &&& (S8.g q)))) + (nth roots t)) + (nth (grow b 48) t))) : Nat) : Int)) (fun w => by kernel_rfl) (bv_add_u32 (S8.d q) (((((S8.h q) + (tri (S8.e q) 6 11 25)) + (((S8.e q) &&& (S8.f q)) ||| ((~~~(S8.e q)) &&& (S8.g q)))) + (nth roots t)) + (nth (grow b 48) t))) (by kernel_rfl) ?_
    refine s_val (some 12) (.int .u32 ((BitVec.toNat (S8.g q) : Nat) : Int)) (fun w => by kernel_rfl) (by kernel_rfl) ?_
    refine s_val (some 11) (.int .u32 ((BitVec.toNat (S8.f q) : Nat) : Int)) (fun w => by kernel_rfl) (by kernel_rfl) ?_
    refine s_val (some 10) (.int .u32 ((BitVec.toNat (S8.e q) : Nat) : Int)) (fun w => by kernel_rfl) (by kernel_rfl) ?_
    refine s_val (some 9) (.int .u32 ((BitVec.toNat ((S8.d q) + (((((S8.h q) + (tri (S8.e q) 6 11 25)) + (((S8.e q) &&& (S8.f q)) ||| ((~~~(S8.e q)) &&& (S8.g q)))) + (nth roots t)) + (nth (grow b 48) t))) : Nat) : Int)) (fun w => by kernel_rfl) (by kernel_rfl) ?_
    refine s_nil ?_
    refine g_reg0 [0, 1, 2, 3, 4, 5, 6, 7, 8, 9] (by kernel_rfl) ?_
    refine s_val (some 80) (.int .u32 ((BitVec.toNat (S8.c q) : Nat) : Int)) (fun w => by kernel_rfl) (by kernel_rfl) ?_
    refine s_val (some 81) (.int .u32 ((BitVec.toNat (S8.b q) : Nat) : Int)) (fun w => by kernel_rfl) (by kernel_rfl) ?_
    refine s_val (some 82) (.int .u32 ((BitVec.toNat (S8.a q) : Nat) : Int)) (fun w => by kernel_rfl) (by kernel_rfl) ?_
    refine s_val (some 83) (.int .u32 ((BitVec.toNat (((((S8.h q) + (tri (S8.e q) 6 11 25)) + (((S8.e q) &&& (S8.f q)) ||| ((~~~(S8.e q)) &&& (S8.g q)))) + (nth roots t)) + (nth (grow b 48) t)) : Nat) : Int)) (fun w => by kernel_rfl) (by kernel_rfl) ?_
    refine s_val (some 84) (.int .u32 ((BitVec.toNat ((tri (S8.a q) 2 13 22) + ((((S8.a q) &&& (S8.b q)) ||| ((S8.a q) &&& (S8.c q))) ||| ((S8.b q) &&& (S8.c q)))) : Nat) : Int)) (fun w => by kernel_rfl) (by kernel_rfl) ?_
    refine s_valE (some 85) (.int .u32 (IntKind.u32.wrap ((((BitVec.toNat (((((S8.h q) + (tri (S8.e q) 6 11 25)) + (((S8.e q) &&& (S8.f q)) ||| ((~~~(S8.e q)) &&& (S8.g q)))) + (nth roots t)) + (nth (grow b 48) t)) : Nat) : Int)) + (((BitVec.toNat ((tri (S8.a q) 2 13 22) + ((((S8.a q) &&& (S8.b q)) ||| ((S8.a q) &&& (S8.c q))) ||| ((S8.b q) &&& (S8.c q)))) : Nat) : Int))))) (.int .u32 ((BitVec.toNat ((((((S8.h q) + (tri (S8.e q) 6 11 25)) + (((S8.e q) &&& (S8.f q)) ||| ((~~~(S8.e q)) &&& (S8.g q)))) + (nth roots t)) + (nth (grow b 48) t)) + ((tri (S8.a q) 2 13 22) + ((((S8.a q) &&& (S8.b q)) ||| ((S8.a q) &&& (S8.c q))) ||| ((S8.b q) &&& (S8.c q))))) : Nat) : Int)) (fun w => by kernel_rfl) (bv_add_u32 (((((S8.h q) + (tri (S8.e q) 6 11 25)) + (((S8.e q) &&& (S8.f q)) ||| ((~~~(S8.e q)) &&& (S8.g q)))) + (nth roots t)) + (nth (grow b 48) t)) ((tri (S8.a q) 2 13 22) + ((((S8.a q) &&& (S8.b q)) ||| ((S8.a q) &&& (S8.c q))) ||| ((S8.b q) &&& (S8.c q))))) (by kernel_rfl) ?_
    refine s_val (some 8) (.int .u32 ((BitVec.toNat (S8.c q) : Nat) : Int)) (fun w => by kernel_rfl) (by kernel_rfl) ?_
    refine s_val (some 7) (.int .u32 ((BitVec.toNat (S8.b q) : Nat) : Int)) (fun w => by kernel_rfl) (by kernel_rfl) ?_
    refine s_val (some 6) (.int .u32 ((BitVec.toNat (S8.a q) : Nat) : Int)) (fun w => by kernel_rfl) (by kernel_rfl) ?_
    refine s_val (some 5) (.int .u32 ((BitVec.toNat ((((((S8.h q) + (tri (S8.e q) 6 11 25)) + (((S8.e q) &&& (S8.f q)) ||| ((~~~(S8.e q)) &&& (S8.g q)))) + (nth roots t)) + (nth (grow b 48) t)) + ((tri (S8.a q) 2 13 22) + ((((S8.a q) &&& (S8.b q)) ||| ((S8.a q) &&& (S8.c q))) ||| ((S8.b q) &&& (S8.c q))))) : Nat) : Int)) (fun w => by kernel_rfl) (by kernel_rfl) ?_
    refine s_nil ?_
    show WP _ _ _ _ _ _
    refine g_reg0 [0, 1] (by kernel_rfl) ?_
    refine s_valE (some 86) (.int .i64 (IntKind.i64.wrap (((t : Nat) : Int) + 1))) (.int .i64 ((t + 1 : Nat) : Int)) (fun w => by kernel_rfl) (int_eq (wrapAdd_i64 (a := t) (b := 1) (by omega))) (by kernel_rfl) ?_
    refine s_val (some 37) (.int .i64 ((t + 1 : Nat) : Int)) (fun w => by kernel_rfl) (by kernel_rfl) ?_
    refine s_nil ?_
    show ∃ m, _ ∧ _
    exact ⟨_, (by omega), (stp q (nth roots t) (nth (grow b 48) t)), (t + 1), rfl, (by omega), (by rw [← hq]; rfl), H9, (Is.of ⟨(by kernel_rfl), (by kernel_rfl), (by kernel_rfl), (by kernel_rfl), (by kernel_rfl), (by kernel_rfl), (by kernel_rfl), (by kernel_rfl), (by kernel_rfl), (by kernel_rfl), (by kernel_rfl), (by kernel_rfl), (by kernel_rfl), (by kernel_rfl), (by kernel_rfl), trivial⟩)⟩
  · skip
    refine s_valE (some 38) (.bool (decide (((t : Nat) : Int) < 64))) (.bool false) (fun w => by kernel_rfl) (bool_eq (decide_eq_false (by omega))) (by kernel_rfl) ?_
    refine s_nil ?_
    refine g_seq (by kernel_rfl) ?_
    refine g_cond_f (by kernel_rfl) (by kernel_rfl) ?_
    refine g_exit 0 (by kernel_rfl) ?_
    show WP _ _ _ _ _ _
    refine g_seq (by kernel_rfl) ?_
    refine g_sreg [0, 1, 2, 3, 4, 5, 6, 7, 8, 9] (by kernel_rfl) (by kernel_rfl) ?_
    refine s_val (some 87) (.int .u32 ((BitVec.toNat (S8.a q) : Nat) : Int)) (fun w => by kernel_rfl) (by kernel_rfl) ?_
    refine s_val (some 88) (.int .u32 ((BitVec.toNat (S8.b q) : Nat) : Int)) (fun w => by kernel_rfl) (by kernel_rfl) ?_
    refine s_val (some 89) (.int .u32 ((BitVec.toNat (S8.c q) : Nat) : Int)) (fun w => by kernel_rfl) (by kernel_rfl) ?_
    refine s_val (some 90) (.int .u32 ((BitVec.toNat (S8.d q) : Nat) : Int)) (fun w => by kernel_rfl) (by kernel_rfl) ?_
    refine s_val (some 91) (.int .u32 ((BitVec.toNat (S8.e q) : Nat) : Int)) (fun w => by kernel_rfl) (by kernel_rfl) ?_
    refine s_val (some 92) (.int .u32 ((BitVec.toNat (S8.f q) : Nat) : Int)) (fun w => by kernel_rfl) (by kernel_rfl) ?_
    refine s_val (some 93) (.int .u32 ((BitVec.toNat (S8.g q) : Nat) : Int)) (fun w => by kernel_rfl) (by kernel_rfl) ?_
    refine s_val (some 94) (.int .u32 ((BitVec.toNat (S8.h q) : Nat) : Int)) (fun w => by kernel_rfl) (by kernel_rfl) ?_
    refine s_val (some 95) (arr 8 (list8 q)) (fun w => by kernel_rfl) (by kernel_rfl) ?_
    have hacc : arr 8 s = arr 8 (acc s (list8 q) 0) := arr_congr (acc0 s (list8 q))
    have HA : St w.heap.size w w7 [(b1, Obj.cells (Value.cells (arr 8 (acc s (list8 q) 0))) 31 (0, 0)), (b3, Obj.cells #[.int .u32 0, .int .u32 0, .int .u32 0, .int .u32 0, .int .u32 0, .int .u32 0, .int .u32 0, .int .u32 0] 31 (0, 0))] := by rw [← hacc]; exact H7
    refine s_val (some 96) (.int .i64 0) (fun w => by kernel_rfl) (by kernel_rfl) ?_
    refine s_nil ?_
    refine g_block 2 (by kernel_rfl) ?_
    refine g_loop (by kernel_rfl) (fun mz ρ ww => ∃ (i : Nat), 8 - i = mz ∧ (i ≤ 8) ∧ St w.heap.size w ww [(b1, Obj.cells (Value.cells (arr 8 (acc s (list8 q) i))) 31 (0, 0)), (b3, Obj.cells #[.int .u32 0, .int .u32 0, .int .u32 0, .int .u32 0, .int .u32 0, .int .u32 0, .int .u32 0, .int .u32 0] 31 (0, 0))] ∧ Is [(0, arr 8 s), (1, arr 16 b), (2, .pointer (some ⟨b1, 0, none⟩)), (3, .pointer (some ⟨b2, 0, none⟩)), (4, .pointer (some ⟨b3, 0, none⟩)), (5, .int .u32 ((BitVec.toNat (S8.a q) : Nat) : Int)), (6, .int .u32 ((BitVec.toNat (S8.b q) : Nat) : Int)), (7, .int .u32 ((BitVec.toNat (S8.c q) : Nat) : Int)), (8, .int .u32 ((BitVec.toNat (S8.d q) : Nat) : Int)), (9, .int .u32 ((BitVec.toNat (S8.e q) : Nat) : Int)), (10, .int .u32 ((BitVec.toNat (S8.f q) : Nat) : Int)), (11, .int .u32 ((BitVec.toNat (S8.g q) : Nat) : Int)), (12, .int .u32 ((BitVec.toNat (S8.h q) : Nat) : Int)), (36, arr 64 (grow b 48)), (37, .int .i64 ((t : Nat) : Int)), (38, .bool false), (95, arr 8 (list8 q)), (96, .int .i64 ((i : Nat) : Int))] ρ) (8 - 0) ⟨0, rfl, (by omega), HA, (Is.of ⟨(by kernel_rfl), (by kernel_rfl), (by kernel_rfl), (by kernel_rfl), (by kernel_rfl), (by kernel_rfl), (by kernel_rfl), (by kernel_rfl), (by kernel_rfl), (by kernel_rfl), (by kernel_rfl), (by kernel_rfl), (by kernel_rfl), (by kernel_rfl), (by kernel_rfl), (by kernel_rfl), (by kernel_rfl), (by kernel_rfl), trivial⟩)⟩ ?_
    clear HA
    rintro _ _ w10 ⟨i, rfl, hi, H10, _, rfl⟩
    refine g_sreg [0] (by kernel_rfl) (by kernel_rfl) ?_
    by_cases hc6 : (i : Nat) < 8
    · skip
      refine s_valE (some 97) (.bool (decide (((i : Nat) : Int) < 8))) (.bool true) (fun w => by kernel_rfl) (bool_eq (decide_eq_true (by omega))) (by kernel_rfl) ?_
      refine s_nil ?_
      refine g_seq (by kernel_rfl) ?_
      refine g_cond_t (by kernel_rfl) (by kernel_rfl) ?_
      refine g_skip (by kernel_rfl) ?_
      show WP _ _ _ _ _ _
      refine g_seq (by kernel_rfl) ?_
      refine g_block 3 (by kernel_rfl) ?_
      refine g_sreg [0, 1, 2, 3] (by kernel_rfl) (by kernel_rfl) ?_
      refine s_val (some 98) (.int .i64 ((i : Nat) : Int)) (fun w => by kernel_rfl) (by kernel_rfl) ?_
      refine s_op (some 99) _ (.int .u32 ((BitVec.toNat (nth (list8 q) i) : Nat) : Int)) (by kernel_rfl) (by kernel_rfl) (fun o w ho => arr_index (t := 31) (e := 30) (kd := .i64) (n := 8) (by kernel_rfl) (by kernel_rfl) (by kernel_rfl) (x := (.tmp 95)) (y := (.tmp 96)) (Value.cells (arr 8 (list8 q))) i (.int .u32 ((BitVec.toNat (nth (list8 q) i) : Nat) : Int)) ho (by kernel_rfl) (by kernel_rfl) (by omega) (arr_at (n := 8) (list8 q) (k := i) (by omega) (by omega)) w) ?_
      refine s_val (some 17) (.int .i64 ((i : Nat) : Int)) (fun w => by kernel_rfl) (by kernel_rfl) ?_
      refine s_val (some 18) (.int .u32 ((BitVec.toNat (nth (list8 q) i) : Nat) : Int)) (fun w => by kernel_rfl) (by kernel_rfl) ?_
      refine s_nil ?_
      refine g_reg0 [0, 1, 2, 3, 4, 5, 6] (by kernel_rfl) ?_
      refine s_val (some 100) (.int .i64 ((i : Nat) : Int)) (fun w => by kernel_rfl) (by kernel_rfl) ?_
      refine s_op (some 101) _ (.pointer (some ⟨b1, 0 + i * 1, none⟩)) (by kernel_rfl) (by kernel_rfl) (fun o w ho => idxA_run (kd := .i64) (t := 31) (n := 8) (size := 1) (by kernel_rfl) (x := (.tmp 2)) (y := (.tmp 100)) b1 0 i ho (by kernel_rfl) (by kernel_rfl) (by omega) w) ?_
      refine s_load1 H10 (some 102) 30 (.tmp 101) 0 b1 (0 + i * 1) (Value.cells (arr 8 (acc s (list8 q) i))) 31 (0, 0) (.int .u32 ((BitVec.toNat (nth (acc s (list8 q) i) i) : Nat) : Int)) (by kernel_rfl) (by kernel_rfl) (by kernel_rfl) (by kernel_rfl) (by kernel_rfl) (arr_at (n := 8) (acc s (list8 q) i) (k := i) (by omega) (by omega)) ?_
      refine s_val (some 103) (.int .u32 ((BitVec.toNat (nth (list8 q) i) : Nat) : Int)) (fun w => by kernel_rfl) (by kernel_rfl) ?_
      refine s_valE (some 104) (.int .u32 (IntKind.u32.wrap ((((BitVec.toNat (nth (acc s (list8 q) i) i) : Nat) : Int)) + (((BitVec.toNat (nth (list8 q) i) : Nat) : Int))))) (.int .u32 ((BitVec.toNat ((nth (acc s (list8 q) i) i) + (nth (list8 q) i)) : Nat) : Int)) (fun w => by kernel_rfl) (bv_add_u32 (nth (acc s (list8 q) i) i) (nth (list8 q) i)) (by kernel_rfl) ?_
      refine s_op (some 105) _ (.pointer (some ⟨b1, 0 + i * 1, none⟩)) (by kernel_rfl) (by kernel_rfl) (fun o w ho => idxA_run (kd := .i64) (t := 31) (n := 8) (size := 1) (by kernel_rfl) (x := (.tmp 2)) (y := (.tmp 100)) b1 0 i ho (by kernel_rfl) (by kernel_rfl) (by omega) w) ?_
      refine s_store H10 0 [(b1, Obj.cells (Value.cells (arr 8 (acc s (list8 q) (i + 1)))) 31 (0, 0)), (b3, Obj.cells #[.int .u32 0, .int .u32 0, .int .u32 0, .int .u32 0, .int .u32 0, .int .u32 0, .int .u32 0, .int .u32 0] 31 (0, 0))] 30 (.tmp 105) (.tmp 104) b1 (0 + i * 1) (Value.cells (arr 8 (acc s (list8 q) i))) (Value.cells (arr 8 (acc s (list8 q) (i + 1)))) 31 (.int .u32 ((BitVec.toNat ((nth (acc s (list8 q) i) i) + (nth (list8 q) i)) : Nat) : Int)) (by kernel_rfl) (by kernel_rfl) (by kernel_rfl) (by kernel_rfl) (by kernel_rfl) (by kernel_rfl) (by show _ + 1 ≤ 8; omega) (arr_put (k := i) (x := (nth (acc s (list8 q) i) i) + (nth (list8 q) i)) (by omega) (by omega) (fun j hj => nth_acc s (list8 q) i j hj)) (by kernel_rfl) ?_
      intro w11 H11; clear H10
      refine s_nil ?_
      show WP _ _ _ _ _ _
      refine g_reg0 [0, 1] (by kernel_rfl) ?_
      refine s_valE (some 106) (.int .i64 (IntKind.i64.wrap (((i : Nat) : Int) + 1))) (.int .i64 ((i + 1 : Nat) : Int)) (fun w => by kernel_rfl) (int_eq (wrapAdd_i64 (a := i) (b := 1) (by omega))) (by kernel_rfl) ?_
      refine s_val (some 96) (.int .i64 ((i + 1 : Nat) : Int)) (fun w => by kernel_rfl) (by kernel_rfl) ?_
      refine s_nil ?_
      show ∃ m, _ ∧ _
      exact ⟨_, (by omega), (i + 1), rfl, (by omega), H11, (Is.of ⟨(by kernel_rfl), (by kernel_rfl), (by kernel_rfl), (by kernel_rfl), (by kernel_rfl), (by kernel_rfl), (by kernel_rfl), (by kernel_rfl), (by kernel_rfl), (by kernel_rfl), (by kernel_rfl), (by kernel_rfl), (by kernel_rfl), (by kernel_rfl), (by kernel_rfl), (by kernel_rfl), (by kernel_rfl), (by kernel_rfl), trivial⟩)⟩
    · skip
      refine s_valE (some 97) (.bool (decide (((i : Nat) : Int) < 8))) (.bool false) (fun w => by kernel_rfl) (bool_eq (decide_eq_false (by omega))) (by kernel_rfl) ?_
      refine s_nil ?_
      refine g_seq (by kernel_rfl) ?_
      refine g_cond_f (by kernel_rfl) (by kernel_rfl) ?_
      refine g_exit 2 (by kernel_rfl) ?_
      show WP _ _ _ _ _ _
      refine g_sreg [0, 1] (by kernel_rfl) (by kernel_rfl) ?_
      refine s_load H10 (some 107) 31 (.tmp 2) 0 b1 (Value.cells (arr 8 (acc s (list8 q) i))) 31 (0, 0) (by kernel_rfl) (by kernel_rfl) (by kernel_rfl) (by kernel_rfl) (by kernel_rfl) ?_
      refine s_store H10 1 [(b1, Obj.cells (Value.cells (arr 8 (acc s (list8 q) i))) 31 (0, 0)), (b3, Obj.cells (Value.cells (arr 8 (acc s (list8 q) i))) 31 (0, 0))] 31 (.tmp 4) (.tmp 107) b3 (0) #[.int .u32 0, .int .u32 0, .int .u32 0, .int .u32 0, .int .u32 0, .int .u32 0, .int .u32 0, .int .u32 0] (Value.cells (arr 8 (acc s (list8 q) i))) 31 (arr 8 (acc s (list8 q) i)) (by kernel_rfl) (by kernel_rfl) (by kernel_rfl) (by kernel_rfl) (by kernel_rfl) (by kernel_rfl) (of_decide_eq_true (by kernel_rfl)) (by kernel_rfl) (by kernel_rfl) ?_
      intro w12 H12; clear H10
      refine s_nil ?_
      refine g_ret (by kernel_rfl) ?_
      show ∃ vs, Res _ _ _ _ vs ∧ _
      refine ⟨[arr 8 (acc s (list8 q) i)], (.agg (b := b3) (Value.cells (arr 8 (acc s (list8 q) i))) 31 (0, 0) (by kernel_rfl) (H12.get 1 (by kernel_rfl)) (by kernel_rfl) .nil), ?_, H12.below⟩
      obtain rfl : i = 8 := by omega
      obtain rfl : t = 64 := by omega
      subst hq
      exact arr_congr (acc8 s b)

theorem become_fn (s b : List W) : FnP Tryd.prog 26 #[arr 8 s, arr 16 b] Roots (arr 8 (become s b)) := fun w ⟨T, fz, h⟩ => become_fnT s b T fz w h
end Go.Proofs.YtjhldipeicpoeaaDoor
