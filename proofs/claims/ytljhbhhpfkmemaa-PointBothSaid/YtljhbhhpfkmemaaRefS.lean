/-
  The reference: Sum.
-/
import Derived.Test.YtljhbhhpfkmemaaNum
import Derived.Test.YtljhbhhpfkmemaaUlib
import Derived.Test.YtljhbhhpfkmemaaRefM
import Derived.Test.YtljhbhhpfkmemaaRefW
namespace Go.Proofs.Ytljhbhhpfkmemaa
open Go Go.RowKit
set_option linter.unusedVariables false
set_option maxRecDepth 100000 in
set_option maxHeartbeats 2000000 in
theorem sum_fn (x y : List Nat) (ba nx ca bb ny cb : Nat) (curA curB : Array Value) (hnx : nx = List.length x) (hny : ny = List.length y) (hA : Rw 1 curA ca nx (cellsD x)) (hB : Rw 1 curB cb ny (cellsD y)) (hx : Ok x) (hy : Ok y) (lx : List.length x ≤ 5000) (ly : List.length y ≤ 5000) : FnR Try.prog 67 #[.slice (some ⟨ba, 0, none⟩) nx ca, .slice (some ⟨bb, 0, none⟩) ny cb] (fun w => w.heap[ba]? = some (.cells curA 3 (0, 0)) ∧ w.heap[bb]? = some (.cells curB 3 (0, 0))) (RetS 3 1 (fun cur cap n l => (n = List.length l ∧ Rw 1 cur cap n (cellsD l) ∧ Ok l ∧ (vl l = vl x + vl y ∧ List.length l ≤ max (List.length x) (List.length y) + 1 ∧ max (List.length x) (List.length y) ≤ List.length l)))) := by
  subst hnx hny
  refine FnR.intro (c := codeOf Try.f67) [.tmp 4] 43 Try.func67 kr kr kr fun w hpre => ?_
  have H0 := St.start w
  refine g_sreg [0] kr kr ?_
  refine s_val (some 4) (.slice none 0 0) (fun w => kr) kr ?_
  refine s_nil ?_
  refine g_sreg [0, 1] kr kr ?_
  refine s_new H0 (some 9) (fun b => .slice (some ⟨b, 0, none⟩) 0 0) #[] 3 (fun w => kr) kr ?_
  intro b1 w1 H1; clear H0
  refine s_val (some 5) (.slice (some ⟨b1, 0, none⟩) 0 0) (fun w => kr) kr ?_
  refine s_nil ?_
  refine g_sreg [0] kr kr ?_
  refine s_val (some 6) (.int .i64 0) (fun w => kr) kr ?_
  refine s_nil ?_
  refine g_seq kr ?_
  refine g_sreg [0] kr kr ?_
  refine s_val (some 7) (.int .i64 0) (fun w => kr) kr ?_
  refine s_nil ?_
  refine g_block 0 kr ?_
  refine g_loop kr (fun mz ρ ww => ∃ (b : Nat) (cap : Nat) (n : Nat) (cur : Array Value) (l : List Nat) (k : Nat) (c : Nat), max (List.length x) (List.length y) + 2 - k = mz ∧ (n = List.length l) ∧ (Rw 1 cur cap n (cellsD l)) ∧ (SumI x y l k (c : Int)) ∧ St w.heap.size w ww [(b, Od cur 3)] ∧ Is [(0, .slice (some ⟨ba, 0, none⟩) (List.length x) ca), (1, .slice (some ⟨bb, 0, none⟩) (List.length y) cb), (4, .slice none 0 0), (5, .slice (some ⟨b, 0, none⟩) n cap), (6, .int .i64 ((c : Nat) : Int)), (7, .int .i64 ((k : Nat) : Int))] ρ) (max (List.length x) (List.length y) + 2 - 0) ⟨b1, 0, 0, #[], [], 0, 0, rfl, rfl, (Rw.lit #[] 0 rfl (by unfold maxLen; omega)), (SumI.start x y), H1, (Is.of ⟨kr, kr, kr, kr, kr, kr, trivial⟩)⟩ ?_
  clear H1
  rintro _ _ w2 ⟨b, cap, n, cur, l, k, c, rfl, hn, hr, hS, H2, _, rfl⟩
  have hc1 := hS.c1; have htop := hS.top; have hxk := ok_getD hx k; have hyk := ok_getD hy k; have hlen := hS.len; have hok := hS.ok
  refine g_seq kr ?_
  refine g_sreg [0, 1, 2, 3, 4, 5, 6, 7, 8, 9, 10, 11, 12, 13] kr kr ?_
  refine s_val (some 10) (.int .i64 ((k : Nat) : Int)) (fun w => kr) kr ?_
  refine s_val (some 11) (.slice (some ⟨ba, 0, none⟩) (List.length x) ca) (fun w => kr) kr ?_
  refine s_val (some 12) (.int .i64 ((List.length x : Nat) : Int)) (fun w => kr) kr ?_
  by_cases hc1 : (k : Nat) < List.length x
  · skip
    refine s_valE (some 13) (.bool (decide (((k : Nat) : Int) < ((List.length x : Nat) : Int)))) (.bool true) (fun w => kr) (bool_eq (decide_eq_true (by omega))) kr ?_
    refine s_val (some 14) (.bool true) (fun w => kr) kr ?_
    refine s_not (some 15) kr kr ?_
    refine s_not (some 16) kr kr ?_
    refine s_not (some 17) kr kr ?_
    refine s_not (some 18) kr kr ?_
    refine s_val (some 19) (.bool true) (fun w => kr) kr ?_
    refine s_val (some 20) (.bool true) (fun w => kr) kr ?_
    refine s_not (some 21) kr kr ?_
    refine s_not (some 22) kr kr ?_
    refine s_val (some 23) (.bool true) (fun w => kr) kr ?_
    refine s_nil ?_
    refine g_cond_t kr kr ?_
    refine g_skip kr ?_
    show WP _ _ _ _ _ _
    refine g_seq kr ?_
    refine g_block 1 kr ?_
    refine g_sreg [0, 1, 2, 3, 4, 5, 6, 7, 8, 9] kr kr ?_
    refine s_val (some 26) (.slice (some ⟨ba, 0, none⟩) (List.length x) ca) (fun w => kr) kr ?_
    refine s_val (some 27) (.int .i64 ((k : Nat) : Int)) (fun w => kr) kr ?_
    refine s_callP H2 (some 28) 63 #[.slice (some ⟨ba, 0, none⟩) (List.length x) ca, .int .i64 ((k : Nat) : Int)] (fun w => w.heap[ba]? = some (.cells curA 3 (0, 0))) (.int .i64 ((List.getD x k 0 : Nat) : Int)) (digit_fn x ba (List.length x) ca curA rfl hA (by omega) k (by omega)) (H2.old hpre.1 (lt_of_heap hpre.1)) (fun w => kr) kr ?_
    intro w3 H3; clear H2
    refine s_val (some 29) (.slice (some ⟨bb, 0, none⟩) (List.length y) cb) (fun w => kr) kr ?_
    refine s_val (some 30) (.int .i64 ((k : Nat) : Int)) (fun w => kr) kr ?_
    refine s_callP H3 (some 31) 63 #[.slice (some ⟨bb, 0, none⟩) (List.length y) cb, .int .i64 ((k : Nat) : Int)] (fun w => w.heap[bb]? = some (.cells curB 3 (0, 0))) (.int .i64 ((List.getD y k 0 : Nat) : Int)) (digit_fn y bb (List.length y) cb curB rfl hB (by omega) k (by omega)) (H3.old hpre.2 (lt_of_heap hpre.2)) (fun w => kr) kr ?_
    intro w4 H4; clear H3
    refine s_valE (some 32) (.int .i64 (IntKind.i64.wrap (((List.getD x k 0 : Nat) : Int) + ((List.getD y k 0 : Nat) : Int)))) (.int .i64 (((List.getD x k 0) + (List.getD y k 0) : Nat) : Int)) (fun w => kr) (int_eq (wrapAdd_i64 (a := List.getD x k 0) (b := List.getD y k 0) (by omega))) kr ?_
    refine s_val (some 33) (.int .i64 ((c : Nat) : Int)) (fun w => kr) kr ?_
    refine s_valE (some 34) (.int .i64 (IntKind.i64.wrap ((((List.getD x k 0) + (List.getD y k 0) : Nat) : Int) + ((c : Nat) : Int)))) (.int .i64 ((((List.getD x k 0) + (List.getD y k 0)) + c : Nat) : Int)) (fun w => kr) (int_eq (wrapAdd_i64 (a := (List.getD x k 0) + (List.getD y k 0)) (b := c) (by omega))) kr ?_
    refine s_val (some 8) (.int .i64 ((((List.getD x k 0) + (List.getD y k 0)) + c : Nat) : Int)) (fun w => kr) kr ?_
    refine s_nil ?_
    refine g_sreg [0, 1, 2, 3, 4, 5] kr kr ?_
    refine s_val (some 35) (.slice (some ⟨b, 0, none⟩) n cap) (fun w => kr) kr ?_
    refine s_val (some 36) (.int .i64 ((((List.getD x k 0) + (List.getD y k 0)) + c : Nat) : Int)) (fun w => kr) kr ?_
    refine s_valE (some 37) (.int .i64 (Int.tmod ((((List.getD x k 0) + (List.getD y k 0)) + c : Nat) : Int) 65536)) (.int .i64 (((((List.getD x k 0) + (List.getD y k 0)) + c) % 65536 : Nat) : Int)) (fun w => kr) (int_eq (remN (((List.getD x k 0) + (List.getD y k 0)) + c) 65536)) kr ?_
    refine s_new H4 (some 38) (fun b => .slice (some ⟨b, 0, none⟩) 1 1) #[.int .i64 (((((List.getD x k 0) + (List.getD y k 0)) + c) % 65536 : Nat) : Int)] 3 (fun w => kr) kr ?_
    intro b2 w5 H5; clear H4
    refine s_append H5 (some 39) 68 3 1 8 (.tmp 35) (.tmp 38) 1 0 b b2 n 1 cap 1 cur #[.int .i64 (((((List.getD x k 0) + (List.getD y k 0)) + c) % 65536 : Nat) : Int)] 3 (0, 0) (cellsD l) ([.int .i64 (((((List.getD x k 0) + (List.getD y k 0)) + c) % 65536 : Nat) : Int)]) (fun b_1 cur_3 => [(b2, Obj.cells #[.int .i64 (((((List.getD x k 0) + (List.getD y k 0)) + c) % 65536 : Nat) : Int)] 3 (0, 0)), (b_1, Od cur_3 3)]) kr kr kr kr kr hr kr kr (by rfl) (by rfl) (by intro u hu; simp at hu; first | exact hu.elim | (rcases hu with rfl | rfl | rfl | rfl <;> rfl) | (rcases hu with rfl | rfl <;> rfl) | (subst hu; rfl)) (by omega) (by unfold maxLen; omega) (fun _ _ => kr) ?_
    intro b_1 cap_2 cur_3 w6 H6 hr_4; clear H5
    refine s_val (some 5) (.slice (some ⟨b_1, 0, none⟩) (n + 1) cap_2) (fun w => kr) kr ?_
    refine s_nil ?_
    refine g_reg0 [0, 1, 2] kr ?_
    refine s_val (some 40) (.int .i64 ((((List.getD x k 0) + (List.getD y k 0)) + c : Nat) : Int)) (fun w => kr) kr ?_
    refine s_valE (some 41) (.int .i64 (IntKind.i64.wrap (((((List.getD x k 0) + (List.getD y k 0)) + c : Nat) : Int).tdiv 65536))) (.int .i64 (((((List.getD x k 0) + (List.getD y k 0)) + c) / 65536 : Nat) : Int)) (fun w => kr) (int_eq (quoN_i64 (a := ((List.getD x k 0) + (List.getD y k 0)) + c) (b := 65536) (by omega))) kr ?_
    refine s_val (some 6) (.int .i64 (((((List.getD x k 0) + (List.getD y k 0)) + c) / 65536 : Nat) : Int)) (fun w => kr) kr ?_
    refine s_nil ?_
    show WP _ _ _ _ _ _
    refine g_reg0 [0, 1, 2] kr ?_
    refine s_val (some 24) (.int .i64 ((k : Nat) : Int)) (fun w => kr) kr ?_
    refine s_valE (some 25) (.int .i64 (IntKind.i64.wrap (((k : Nat) : Int) + 1))) (.int .i64 ((k + 1 : Nat) : Int)) (fun w => kr) (int_eq (wrapAdd_i64 (a := k) (b := 1) (by omega))) kr ?_
    refine s_val (some 7) (.int .i64 ((k + 1 : Nat) : Int)) (fun w => kr) kr ?_
    refine s_nil ?_
    have hS2 := hS.go hx hy (by omega)
    have HD2 : St w.heap.size w w6 [(b_1, Od cur_3 3)] := H6.sub (List.Sublist.cons _ (List.Sublist.cons_cons _ List.Sublist.slnil))
    show ∃ m, _ ∧ _
    exact ⟨_, (by have := hS2.top; omega), b_1, cap_2, n + 1, cur_3, l ++ [(List.getD x k 0 + List.getD y k 0 + c) % 65536], k + 1, (List.getD x k 0 + List.getD y k 0 + c) / 65536, rfl, (by rw [List.length_append, ← hn]; rfl), (by rw [cellsD_append]; exact hr_4), hS2, HD2, (Is.of ⟨kr, kr, kr, kr, kr, kr, trivial⟩)⟩
  · skip
    refine s_valE (some 13) (.bool (decide (((k : Nat) : Int) < ((List.length x : Nat) : Int)))) (.bool false) (fun w => kr) (bool_eq (decide_eq_false (by omega))) kr ?_
    refine s_val (some 14) (.bool false) (fun w => kr) kr ?_
    refine s_val (some 15) (.int .i64 ((k : Nat) : Int)) (fun w => kr) kr ?_
    refine s_val (some 16) (.slice (some ⟨bb, 0, none⟩) (List.length y) cb) (fun w => kr) kr ?_
    refine s_val (some 17) (.int .i64 ((List.length y : Nat) : Int)) (fun w => kr) kr ?_
    by_cases hc3 : (k : Nat) < List.length y
    · skip
      refine s_valE (some 18) (.bool (decide (((k : Nat) : Int) < ((List.length y : Nat) : Int)))) (.bool true) (fun w => kr) (bool_eq (decide_eq_true (by omega))) kr ?_
      refine s_val (some 19) (.bool true) (fun w => kr) kr ?_
      refine s_val (some 20) (.bool true) (fun w => kr) kr ?_
      refine s_not (some 21) kr kr ?_
      refine s_not (some 22) kr kr ?_
      refine s_val (some 23) (.bool true) (fun w => kr) kr ?_
      refine s_nil ?_
      refine g_cond_t kr kr ?_
      refine g_skip kr ?_
      show WP _ _ _ _ _ _
      refine g_seq kr ?_
      refine g_block 1 kr ?_
      refine g_sreg [0, 1, 2, 3, 4, 5, 6, 7, 8, 9] kr kr ?_
      refine s_val (some 26) (.slice (some ⟨ba, 0, none⟩) (List.length x) ca) (fun w => kr) kr ?_
      refine s_val (some 27) (.int .i64 ((k : Nat) : Int)) (fun w => kr) kr ?_
      refine s_callP H2 (some 28) 63 #[.slice (some ⟨ba, 0, none⟩) (List.length x) ca, .int .i64 ((k : Nat) : Int)] (fun w => w.heap[ba]? = some (.cells curA 3 (0, 0))) (.int .i64 ((List.getD x k 0 : Nat) : Int)) (digit_fn x ba (List.length x) ca curA rfl hA (by omega) k (by omega)) (H2.old hpre.1 (lt_of_heap hpre.1)) (fun w => kr) kr ?_
      intro w7 H7; clear H2
      refine s_val (some 29) (.slice (some ⟨bb, 0, none⟩) (List.length y) cb) (fun w => kr) kr ?_
      refine s_val (some 30) (.int .i64 ((k : Nat) : Int)) (fun w => kr) kr ?_
      refine s_callP H7 (some 31) 63 #[.slice (some ⟨bb, 0, none⟩) (List.length y) cb, .int .i64 ((k : Nat) : Int)] (fun w => w.heap[bb]? = some (.cells curB 3 (0, 0))) (.int .i64 ((List.getD y k 0 : Nat) : Int)) (digit_fn y bb (List.length y) cb curB rfl hB (by omega) k (by omega)) (H7.old hpre.2 (lt_of_heap hpre.2)) (fun w => kr) kr ?_
      intro w8 H8; clear H7
      refine s_valE (some 32) (.int .i64 (IntKind.i64.wrap (((List.getD x k 0 : Nat) : Int) + ((List.getD y k 0 : Nat) : Int)))) (.int .i64 (((List.getD x k 0) + (List.getD y k 0) : Nat) : Int)) (fun w => kr) (int_eq (wrapAdd_i64 (a := List.getD x k 0) (b := List.getD y k 0) (by omega))) kr ?_
      refine s_val (some 33) (.int .i64 ((c : Nat) : Int)) (fun w => kr) kr ?_
      refine s_valE (some 34) (.int .i64 (IntKind.i64.wrap ((((List.getD x k 0) + (List.getD y k 0) : Nat) : Int) + ((c : Nat) : Int)))) (.int .i64 ((((List.getD x k 0) + (List.getD y k 0)) + c : Nat) : Int)) (fun w => kr) (int_eq (wrapAdd_i64 (a := (List.getD x k 0) + (List.getD y k 0)) (b := c) (by omega))) kr ?_
      refine s_val (some 8) (.int .i64 ((((List.getD x k 0) + (List.getD y k 0)) + c : Nat) : Int)) (fun w => kr) kr ?_
      refine s_nil ?_
      refine g_sreg [0, 1, 2, 3, 4, 5] kr kr ?_
      refine s_val (some 35) (.slice (some ⟨b, 0, none⟩) n cap) (fun w => kr) kr ?_
      refine s_val (some 36) (.int .i64 ((((List.getD x k 0) + (List.getD y k 0)) + c : Nat) : Int)) (fun w => kr) kr ?_
      refine s_valE (some 37) (.int .i64 (Int.tmod ((((List.getD x k 0) + (List.getD y k 0)) + c : Nat) : Int) 65536)) (.int .i64 (((((List.getD x k 0) + (List.getD y k 0)) + c) % 65536 : Nat) : Int)) (fun w => kr) (int_eq (remN (((List.getD x k 0) + (List.getD y k 0)) + c) 65536)) kr ?_
      refine s_new H8 (some 38) (fun b => .slice (some ⟨b, 0, none⟩) 1 1) #[.int .i64 (((((List.getD x k 0) + (List.getD y k 0)) + c) % 65536 : Nat) : Int)] 3 (fun w => kr) kr ?_
      intro b3 w9 H9; clear H8
      refine s_append H9 (some 39) 68 3 1 8 (.tmp 35) (.tmp 38) 1 0 b b3 n 1 cap 1 cur #[.int .i64 (((((List.getD x k 0) + (List.getD y k 0)) + c) % 65536 : Nat) : Int)] 3 (0, 0) (cellsD l) ([.int .i64 (((((List.getD x k 0) + (List.getD y k 0)) + c) % 65536 : Nat) : Int)]) (fun b_5 cur_7 => [(b3, Obj.cells #[.int .i64 (((((List.getD x k 0) + (List.getD y k 0)) + c) % 65536 : Nat) : Int)] 3 (0, 0)), (b_5, Od cur_7 3)]) kr kr kr kr kr hr kr kr (by rfl) (by rfl) (by intro u hu; simp at hu; first | exact hu.elim | (rcases hu with rfl | rfl | rfl | rfl <;> rfl) | (rcases hu with rfl | rfl <;> rfl) | (subst hu; rfl)) (by omega) (by unfold maxLen; omega) (fun _ _ => kr) ?_
      intro b_5 cap_6 cur_7 w10 H10 hr_8; clear H9
      refine s_val (some 5) (.slice (some ⟨b_5, 0, none⟩) (n + 1) cap_6) (fun w => kr) kr ?_
      refine s_nil ?_
      refine g_reg0 [0, 1, 2] kr ?_
      refine s_val (some 40) (.int .i64 ((((List.getD x k 0) + (List.getD y k 0)) + c : Nat) : Int)) (fun w => kr) kr ?_
      refine s_valE (some 41) (.int .i64 (IntKind.i64.wrap (((((List.getD x k 0) + (List.getD y k 0)) + c : Nat) : Int).tdiv 65536))) (.int .i64 (((((List.getD x k 0) + (List.getD y k 0)) + c) / 65536 : Nat) : Int)) (fun w => kr) (int_eq (quoN_i64 (a := ((List.getD x k 0) + (List.getD y k 0)) + c) (b := 65536) (by omega))) kr ?_
      refine s_val (some 6) (.int .i64 (((((List.getD x k 0) + (List.getD y k 0)) + c) / 65536 : Nat) : Int)) (fun w => kr) kr ?_
      refine s_nil ?_
      show WP _ _ _ _ _ _
      refine g_reg0 [0, 1, 2] kr ?_
      refine s_val (some 24) (.int .i64 ((k : Nat) : Int)) (fun w => kr) kr ?_
      refine s_valE (some 25) (.int .i64 (IntKind.i64.wrap (((k : Nat) : Int) + 1))) (.int .i64 ((k + 1 : Nat) : Int)) (fun w => kr) (int_eq (wrapAdd_i64 (a := k) (b := 1) (by omega))) kr ?_
      refine s_val (some 7) (.int .i64 ((k + 1 : Nat) : Int)) (fun w => kr) kr ?_
      refine s_nil ?_
      have hS2 := hS.go hx hy (by omega)
      have HD4 : St w.heap.size w w10 [(b_5, Od cur_7 3)] := H10.sub (List.Sublist.cons _ (List.Sublist.cons_cons _ List.Sublist.slnil))
      show ∃ m, _ ∧ _
      exact ⟨_, (by have := hS2.top; omega), b_5, cap_6, n + 1, cur_7, l ++ [(List.getD x k 0 + List.getD y k 0 + c) % 65536], k + 1, (List.getD x k 0 + List.getD y k 0 + c) / 65536, rfl, (by rw [List.length_append, ← hn]; rfl), (by rw [cellsD_append]; exact hr_8), hS2, HD4, (Is.of ⟨kr, kr, kr, kr, kr, kr, trivial⟩)⟩
    · skip
      refine s_valE (some 18) (.bool (decide (((k : Nat) : Int) < ((List.length y : Nat) : Int)))) (.bool false) (fun w => kr) (bool_eq (decide_eq_false (by omega))) kr ?_
      refine s_val (some 19) (.bool false) (fun w => kr) kr ?_
      refine s_val (some 20) (.bool false) (fun w => kr) kr ?_
      refine s_val (some 21) (.int .i64 ((c : Nat) : Int)) (fun w => kr) kr ?_
      by_cases hc5 : (c : Nat) > 0
      · skip
        refine s_valE (some 22) (.bool (decide (0 < ((c : Nat) : Int)))) (.bool true) (fun w => kr) (bool_eq (decide_eq_true (by omega))) kr ?_
        refine s_val (some 23) (.bool true) (fun w => kr) kr ?_
        refine s_nil ?_
        refine g_cond_t kr kr ?_
        refine g_skip kr ?_
        show WP _ _ _ _ _ _
        refine g_seq kr ?_
        refine g_block 1 kr ?_
        refine g_sreg [0, 1, 2, 3, 4, 5, 6, 7, 8, 9] kr kr ?_
        refine s_val (some 26) (.slice (some ⟨ba, 0, none⟩) (List.length x) ca) (fun w => kr) kr ?_
        refine s_val (some 27) (.int .i64 ((k : Nat) : Int)) (fun w => kr) kr ?_
        refine s_callP H2 (some 28) 63 #[.slice (some ⟨ba, 0, none⟩) (List.length x) ca, .int .i64 ((k : Nat) : Int)] (fun w => w.heap[ba]? = some (.cells curA 3 (0, 0))) (.int .i64 ((List.getD x k 0 : Nat) : Int)) (digit_fn x ba (List.length x) ca curA rfl hA (by omega) k (by omega)) (H2.old hpre.1 (lt_of_heap hpre.1)) (fun w => kr) kr ?_
        intro w11 H11; clear H2
        refine s_val (some 29) (.slice (some ⟨bb, 0, none⟩) (List.length y) cb) (fun w => kr) kr ?_
        refine s_val (some 30) (.int .i64 ((k : Nat) : Int)) (fun w => kr) kr ?_
        refine s_callP H11 (some 31) 63 #[.slice (some ⟨bb, 0, none⟩) (List.length y) cb, .int .i64 ((k : Nat) : Int)] (fun w => w.heap[bb]? = some (.cells curB 3 (0, 0))) (.int .i64 ((List.getD y k 0 : Nat) : Int)) (digit_fn y bb (List.length y) cb curB rfl hB (by omega) k (by omega)) (H11.old hpre.2 (lt_of_heap hpre.2)) (fun w => kr) kr ?_
        intro w12 H12; clear H11
        refine s_valE (some 32) (.int .i64 (IntKind.i64.wrap (((List.getD x k 0 : Nat) : Int) + ((List.getD y k 0 : Nat) : Int)))) (.int .i64 (((List.getD x k 0) + (List.getD y k 0) : Nat) : Int)) (fun w => kr) (int_eq (wrapAdd_i64 (a := List.getD x k 0) (b := List.getD y k 0) (by omega))) kr ?_
        refine s_val (some 33) (.int .i64 ((c : Nat) : Int)) (fun w => kr) kr ?_
        refine s_valE (some 34) (.int .i64 (IntKind.i64.wrap ((((List.getD x k 0) + (List.getD y k 0) : Nat) : Int) + ((c : Nat) : Int)))) (.int .i64 ((((List.getD x k 0) + (List.getD y k 0)) + c : Nat) : Int)) (fun w => kr) (int_eq (wrapAdd_i64 (a := (List.getD x k 0) + (List.getD y k 0)) (b := c) (by omega))) kr ?_
        refine s_val (some 8) (.int .i64 ((((List.getD x k 0) + (List.getD y k 0)) + c : Nat) : Int)) (fun w => kr) kr ?_
        refine s_nil ?_
        refine g_sreg [0, 1, 2, 3, 4, 5] kr kr ?_
        refine s_val (some 35) (.slice (some ⟨b, 0, none⟩) n cap) (fun w => kr) kr ?_
        refine s_val (some 36) (.int .i64 ((((List.getD x k 0) + (List.getD y k 0)) + c : Nat) : Int)) (fun w => kr) kr ?_
        refine s_valE (some 37) (.int .i64 (Int.tmod ((((List.getD x k 0) + (List.getD y k 0)) + c : Nat) : Int) 65536)) (.int .i64 (((((List.getD x k 0) + (List.getD y k 0)) + c) % 65536 : Nat) : Int)) (fun w => kr) (int_eq (remN (((List.getD x k 0) + (List.getD y k 0)) + c) 65536)) kr ?_
        refine s_new H12 (some 38) (fun b => .slice (some ⟨b, 0, none⟩) 1 1) #[.int .i64 (((((List.getD x k 0) + (List.getD y k 0)) + c) % 65536 : Nat) : Int)] 3 (fun w => kr) kr ?_
        intro b4 w13 H13; clear H12
        refine s_append H13 (some 39) 68 3 1 8 (.tmp 35) (.tmp 38) 1 0 b b4 n 1 cap 1 cur #[.int .i64 (((((List.getD x k 0) + (List.getD y k 0)) + c) % 65536 : Nat) : Int)] 3 (0, 0) (cellsD l) ([.int .i64 (((((List.getD x k 0) + (List.getD y k 0)) + c) % 65536 : Nat) : Int)]) (fun b_9 cur_11 => [(b4, Obj.cells #[.int .i64 (((((List.getD x k 0) + (List.getD y k 0)) + c) % 65536 : Nat) : Int)] 3 (0, 0)), (b_9, Od cur_11 3)]) kr kr kr kr kr hr kr kr (by rfl) (by rfl) (by intro u hu; simp at hu; first | exact hu.elim | (rcases hu with rfl | rfl | rfl | rfl <;> rfl) | (rcases hu with rfl | rfl <;> rfl) | (subst hu; rfl)) (by omega) (by unfold maxLen; omega) (fun _ _ => kr) ?_
        intro b_9 cap_10 cur_11 w14 H14 hr_12; clear H13
        refine s_val (some 5) (.slice (some ⟨b_9, 0, none⟩) (n + 1) cap_10) (fun w => kr) kr ?_
        refine s_nil ?_
        refine g_reg0 [0, 1, 2] kr ?_
        refine s_val (some 40) (.int .i64 ((((List.getD x k 0) + (List.getD y k 0)) + c : Nat) : Int)) (fun w => kr) kr ?_
        refine s_valE (some 41) (.int .i64 (IntKind.i64.wrap (((((List.getD x k 0) + (List.getD y k 0)) + c : Nat) : Int).tdiv 65536))) (.int .i64 (((((List.getD x k 0) + (List.getD y k 0)) + c) / 65536 : Nat) : Int)) (fun w => kr) (int_eq (quoN_i64 (a := ((List.getD x k 0) + (List.getD y k 0)) + c) (b := 65536) (by omega))) kr ?_
        refine s_val (some 6) (.int .i64 (((((List.getD x k 0) + (List.getD y k 0)) + c) / 65536 : Nat) : Int)) (fun w => kr) kr ?_
        refine s_nil ?_
        show WP _ _ _ _ _ _
        refine g_reg0 [0, 1, 2] kr ?_
        refine s_val (some 24) (.int .i64 ((k : Nat) : Int)) (fun w => kr) kr ?_
        refine s_valE (some 25) (.int .i64 (IntKind.i64.wrap (((k : Nat) : Int) + 1))) (.int .i64 ((k + 1 : Nat) : Int)) (fun w => kr) (int_eq (wrapAdd_i64 (a := k) (b := 1) (by omega))) kr ?_
        refine s_val (some 7) (.int .i64 ((k + 1 : Nat) : Int)) (fun w => kr) kr ?_
        refine s_nil ?_
        have hS2 := hS.go hx hy (by omega)
        have HD6 : St w.heap.size w w14 [(b_9, Od cur_11 3)] := H14.sub (List.Sublist.cons _ (List.Sublist.cons_cons _ List.Sublist.slnil))
        show ∃ m, _ ∧ _
        exact ⟨_, (by have := hS2.top; omega), b_9, cap_10, n + 1, cur_11, l ++ [(List.getD x k 0 + List.getD y k 0 + c) % 65536], k + 1, (List.getD x k 0 + List.getD y k 0 + c) / 65536, rfl, (by rw [List.length_append, ← hn]; rfl), (by rw [cellsD_append]; exact hr_12), hS2, HD6, (Is.of ⟨kr, kr, kr, kr, kr, kr, trivial⟩)⟩
      · skip
        refine s_valE (some 22) (.bool (decide (0 < ((c : Nat) : Int)))) (.bool false) (fun w => kr) (bool_eq (decide_eq_false (by omega))) kr ?_
        refine s_val (some 23) (.bool false) (fun w => kr) kr ?_
        refine s_nil ?_
        refine g_cond_f kr kr ?_
        refine g_exit 0 kr ?_
        show WP _ _ _ _ _ _
        refine g_sreg [0, 1] kr kr ?_
        refine s_val (some 42) (.slice (some ⟨b, 0, none⟩) n cap) (fun w => kr) kr ?_
        refine s_val (some 4) (.slice (some ⟨b, 0, none⟩) n cap) (fun w => kr) kr ?_
        refine s_nil ?_
        refine g_ret kr ?_
        show ∃ vs, Res _ _ _ _ vs ∧ _
        refine ⟨[.slice (some ⟨b, 0, none⟩) n cap], (.tmp (.slice (some ⟨b, 0, none⟩) n cap) kr .nil), H2.below, ?_⟩
        exact ⟨b, cap, _, _, l, rfl, H2.ge 0 (o := .cells cur 3 (0, 0)) kr, H2.get 0 kr, hn, hr, hok, hS.done (by omega) (by omega) (by omega), by omega, by omega⟩
end Go.Proofs.Ytljhbhhpfkmemaa
