/-
  The reference: Less, Take.
-/
import Derived.Test.YtljhbhhpfkmemaaNum
import Derived.Test.YtljhbhhpfkmemaaUlib
import Derived.Test.YtljhbhhpfkmemaaRefM
import Derived.Test.YtljhbhhpfkmemaaRefS
namespace Go.Proofs.Ytljhbhhpfkmemaa
open Go Go.RowKit
set_option linter.unusedVariables false
set_option maxRecDepth 100000 in
set_option maxHeartbeats 2000000 in
theorem less_fn (x y : List Nat) (ba nx ca bb ny cb : Nat) (curA curB : Array Value) (hnx : nx = List.length x) (hny : ny = List.length y) (hA : Rw 1 curA ca nx (cellsD x)) (hB : Rw 1 curB cb ny (cellsD y)) (hx : Ok x) (hy : Ok y) (lx : List.length x ≤ 5000) (ly : List.length y ≤ 5000) : FnP Try.prog 46 #[.slice (some ⟨ba, 0, none⟩) nx ca, .slice (some ⟨bb, 0, none⟩) ny cb] (fun w => w.heap[ba]? = some (.cells curA 3 (0, 0)) ∧ w.heap[bb]? = some (.cells curB 3 (0, 0))) (.bool (ls x y)) := by
  subst hnx hny
  refine FnP.intro (c := codeOf Try.f46) [.tmp 4] 35 Try.func46 kr kr kr fun w hpre => ?_
  have H0 := St.start w
  refine g_sreg [0] kr kr ?_
  refine s_val (some 4) (.bool false) (fun w => kr) kr ?_
  refine s_nil ?_
  refine g_sreg [0, 1, 2] kr kr ?_
  refine s_val (some 7) (.slice (some ⟨ba, 0, none⟩) (List.length x) ca) (fun w => kr) kr ?_
  refine s_val (some 8) (.int .i64 ((List.length x : Nat) : Int)) (fun w => kr) kr ?_
  refine s_val (some 5) (.int .i64 ((List.length x : Nat) : Int)) (fun w => kr) kr ?_
  refine s_nil ?_
  refine g_seq kr ?_
  refine g_sreg [0, 1, 2, 3] kr kr ?_
  refine s_val (some 9) (.slice (some ⟨bb, 0, none⟩) (List.length y) cb) (fun w => kr) kr ?_
  refine s_val (some 10) (.int .i64 ((List.length y : Nat) : Int)) (fun w => kr) kr ?_
  refine s_val (some 11) (.int .i64 ((List.length x : Nat) : Int)) (fun w => kr) kr ?_
  by_cases hc1 : (List.length y : Nat) > List.length x
  · skip
    refine s_valE (some 12) (.bool (decide (((List.length x : Nat) : Int) < ((List.length y : Nat) : Int)))) (.bool true) (fun w => kr) (bool_eq (decide_eq_true (by omega))) kr ?_
    refine s_nil ?_
    refine g_cond_t kr kr ?_
    refine g_reg0 [0, 1, 2] kr ?_
    refine s_val (some 13) (.slice (some ⟨bb, 0, none⟩) (List.length y) cb) (fun w => kr) kr ?_
    refine s_val (some 14) (.int .i64 ((List.length y : Nat) : Int)) (fun w => kr) kr ?_
    refine s_val (some 5) (.int .i64 ((List.length y : Nat) : Int)) (fun w => kr) kr ?_
    refine s_nil ?_
    show WP _ _ _ _ _ _
    refine g_seq kr ?_
    refine g_sreg [0, 1, 2] kr kr ?_
    refine s_val (some 15) (.int .i64 ((List.length y : Nat) : Int)) (fun w => kr) kr ?_
    refine s_valE (some 16) (.int .i64 (IntKind.i64.wrap (((List.length y : Nat) : Int) - 1))) (.int .i64 (((List.length y : Nat) : Int) - 1)) (fun w => kr) (int_eq (wrap_i64 (by omega) (by omega))) kr ?_
    refine s_val (some 6) (.int .i64 (((List.length y : Nat) : Int) - 1)) (fun w => kr) kr ?_
    refine s_nil ?_
    refine g_block 0 kr ?_
    refine g_loop kr (fun mz ρ ww => ∃ (j : Nat), j = mz ∧ (j ≤ 5000) ∧ (Same x y (((j : Nat) : Int) - 1)) ∧ St w.heap.size w ww [] ∧ Is [(0, .slice (some ⟨ba, 0, none⟩) (List.length x) ca), (1, .slice (some ⟨bb, 0, none⟩) (List.length y) cb), (5, .int .i64 ((List.length y : Nat) : Int)), (6, .int .i64 (((j : Nat) : Int) - 1)), (12, .bool true)] ρ) (List.length y) ⟨List.length y, rfl, (by omega), (Same.start x y _ (by omega) (by omega)), H0, (Is.of ⟨kr, kr, kr, kr, kr, trivial⟩)⟩ ?_
    clear H0
    rintro _ _ w1 ⟨j, rfl, hj, hs, H1, _, rfl⟩
    refine g_seq kr ?_
    refine g_sreg [0, 1] kr kr ?_
    refine s_val (some 17) (.int .i64 (((j : Nat) : Int) - 1)) (fun w => kr) kr ?_
    by_cases hc2 : (((j : Nat) : Int) - 1 : Int) ≥ 0
    · skip
      refine s_valE (some 18) (.bool (decide (0 ≤ ((j : Nat) : Int) - 1))) (.bool true) (fun w => kr) (bool_eq (decide_eq_true (by omega))) kr ?_
      refine s_nil ?_
      refine g_cond_t kr kr ?_
      refine g_skip kr ?_
      show WP _ _ _ _ _ _
      refine g_seq kr ?_
      refine g_block 1 kr ?_
      refine g_sreg [0, 1, 2, 3, 4, 5, 6] kr kr ?_
      refine s_val (some 21) (.slice (some ⟨ba, 0, none⟩) (List.length x) ca) (fun w => kr) kr ?_
      rw [show (((j : Nat) : Int) - 1) = ((j - 1 : Nat) : Int) from by omega]
      refine s_val (some 22) (.int .i64 ((j - 1 : Nat) : Int)) (fun w => kr) kr ?_
      refine s_callP H1 (some 23) 63 #[.slice (some ⟨ba, 0, none⟩) (List.length x) ca, .int .i64 ((j - 1 : Nat) : Int)] (fun w => w.heap[ba]? = some (.cells curA 3 (0, 0))) (.int .i64 ((List.getD x (j - 1) 0 : Nat) : Int)) (digit_fn x ba (List.length x) ca curA rfl hA (by omega) (j - 1) (by omega)) (H1.old hpre.1 (lt_of_heap hpre.1)) (fun w => kr) kr ?_
      intro w2 H2; clear H1
      refine s_val (some 24) (.slice (some ⟨bb, 0, none⟩) (List.length y) cb) (fun w => kr) kr ?_
      refine s_val (some 25) (.int .i64 ((j - 1 : Nat) : Int)) (fun w => kr) kr ?_
      refine s_callP H2 (some 26) 63 #[.slice (some ⟨bb, 0, none⟩) (List.length y) cb, .int .i64 ((j - 1 : Nat) : Int)] (fun w => w.heap[bb]? = some (.cells curB 3 (0, 0))) (.int .i64 ((List.getD y (j - 1) 0 : Nat) : Int)) (digit_fn y bb (List.length y) cb curB rfl hB (by omega) (j - 1) (by omega)) (H2.old hpre.2 (lt_of_heap hpre.2)) (fun w => kr) kr ?_
      intro w3 H3; clear H2
      by_cases hc3 : (List.getD x (j - 1) 0 : Nat) ≠ List.getD y (j - 1) 0
      · skip
        refine s_valE (some 27) (.bool (!(((List.getD x (j - 1) 0 : Nat) : Int) == ((List.getD y (j - 1) 0 : Nat) : Int)))) (.bool true) (fun w => kr) (bool_eq (by rw [beq_eq_false_iff_ne.2 (by omega)]; rfl)) kr ?_
        refine s_nil ?_
        refine g_cond_t kr kr ?_
        refine g_sreg [0, 1, 2, 3, 4, 5, 6, 7] kr kr ?_
        refine s_val (some 28) (.slice (some ⟨ba, 0, none⟩) (List.length x) ca) (fun w => kr) kr ?_
        refine s_val (some 29) (.int .i64 ((j - 1 : Nat) : Int)) (fun w => kr) kr ?_
        refine s_callP H3 (some 30) 63 #[.slice (some ⟨ba, 0, none⟩) (List.length x) ca, .int .i64 ((j - 1 : Nat) : Int)] (fun w => w.heap[ba]? = some (.cells curA 3 (0, 0))) (.int .i64 ((List.getD x (j - 1) 0 : Nat) : Int)) (digit_fn x ba (List.length x) ca curA rfl hA (by omega) (j - 1) (by omega)) (H3.old hpre.1 (lt_of_heap hpre.1)) (fun w => kr) kr ?_
        intro w4 H4; clear H3
        refine s_val (some 31) (.slice (some ⟨bb, 0, none⟩) (List.length y) cb) (fun w => kr) kr ?_
        refine s_val (some 32) (.int .i64 ((j - 1 : Nat) : Int)) (fun w => kr) kr ?_
        refine s_callP H4 (some 33) 63 #[.slice (some ⟨bb, 0, none⟩) (List.length y) cb, .int .i64 ((j - 1 : Nat) : Int)] (fun w => w.heap[bb]? = some (.cells curB 3 (0, 0))) (.int .i64 ((List.getD y (j - 1) 0 : Nat) : Int)) (digit_fn y bb (List.length y) cb curB rfl hB (by omega) (j - 1) (by omega)) (H4.old hpre.2 (lt_of_heap hpre.2)) (fun w => kr) kr ?_
        intro w5 H5; clear H4
        refine s_valE (some 34) (.bool (decide (((List.getD x (j - 1) 0 : Nat) : Int) < ((List.getD y (j - 1) 0 : Nat) : Int)))) (.bool (ls x y)) (fun w => kr) (bool_eq (ls_digit hx hy (j - 1) (fun t ht => hs t (by omega)) (by unfold dAt; omega))) kr ?_
        refine s_val (some 4) (.bool (ls x y)) (fun w => kr) kr ?_
        refine s_nil ?_
        refine g_ret kr ?_
        show ∃ vs, Res _ _ _ _ vs ∧ _
        refine ⟨[.bool (ls x y)], (.tmp (.bool (ls x y)) kr .nil), ?_, H5.below⟩
        rfl
      · skip
        refine s_valE (some 27) (.bool (!(((List.getD x (j - 1) 0 : Nat) : Int) == ((List.getD y (j - 1) 0 : Nat) : Int)))) (.bool false) (fun w => kr) (bool_eq (by rw [beq_iff_eq.2 (by omega)]; rfl)) kr ?_
        refine s_nil ?_
        refine g_cond_f kr kr ?_
        refine g_skip kr ?_
        show WP _ _ _ _ _ _
        refine g_reg0 [0, 1, 2] kr ?_
        refine s_val (some 19) (.int .i64 ((j - 1 : Nat) : Int)) (fun w => kr) kr ?_
        refine s_valE (some 20) (.int .i64 (IntKind.i64.wrap (((j - 1 : Nat) : Int) - 1))) (.int .i64 (((j - 1 : Nat) : Int) - 1)) (fun w => kr) (int_eq (wrap_i64 (by omega) (by omega))) kr ?_
        refine s_val (some 6) (.int .i64 (((j - 1 : Nat) : Int) - 1)) (fun w => kr) kr ?_
        refine s_nil ?_
        show ∃ m, _ ∧ _
        exact ⟨_, (by omega), (j - 1), rfl, (by omega), (Same.down (j := j - 1) (fun t ht => hs t (by omega)) (by unfold dAt; omega)), H3, (Is.of ⟨kr, kr, kr, kr, kr, trivial⟩)⟩
    · skip
      refine s_valE (some 18) (.bool (decide (0 ≤ ((j : Nat) : Int) - 1))) (.bool false) (fun w => kr) (bool_eq (decide_eq_false (by omega))) kr ?_
      refine s_nil ?_
      refine g_cond_f kr kr ?_
      refine g_exit 0 kr ?_
      show WP _ _ _ _ _ _
      refine g_sreg [0] kr kr ?_
      refine s_val (some 4) (.bool false) (fun w => kr) kr ?_
      refine s_nil ?_
      refine g_ret kr ?_
      show ∃ vs, Res _ _ _ _ vs ∧ _
      refine ⟨[.bool false], (.tmp (.bool false) kr .nil), ?_, H1.below⟩
      exact congrArg Value.bool (ls_none (x := x) (y := y) fun t => hs t (by omega)).symm
  · skip
    refine s_valE (some 12) (.bool (decide (((List.length x : Nat) : Int) < ((List.length y : Nat) : Int)))) (.bool false) (fun w => kr) (bool_eq (decide_eq_false (by omega))) kr ?_
    refine s_nil ?_
    refine g_cond_f kr kr ?_
    refine g_skip kr ?_
    show WP _ _ _ _ _ _
    refine g_seq kr ?_
    refine g_sreg [0, 1, 2] kr kr ?_
    refine s_val (some 15) (.int .i64 ((List.length x : Nat) : Int)) (fun w => kr) kr ?_
    refine s_valE (some 16) (.int .i64 (IntKind.i64.wrap (((List.length x : Nat) : Int) - 1))) (.int .i64 (((List.length x : Nat) : Int) - 1)) (fun w => kr) (int_eq (wrap_i64 (by omega) (by omega))) kr ?_
    refine s_val (some 6) (.int .i64 (((List.length x : Nat) : Int) - 1)) (fun w => kr) kr ?_
    refine s_nil ?_
    refine g_block 0 kr ?_
    refine g_loop kr (fun mz ρ ww => ∃ (j : Nat), j = mz ∧ (j ≤ 5000) ∧ (Same x y (((j : Nat) : Int) - 1)) ∧ St w.heap.size w ww [] ∧ Is [(0, .slice (some ⟨ba, 0, none⟩) (List.length x) ca), (1, .slice (some ⟨bb, 0, none⟩) (List.length y) cb), (5, .int .i64 ((List.length x : Nat) : Int)), (6, .int .i64 (((j : Nat) : Int) - 1)), (12, .bool false)] ρ) (List.length x) ⟨List.length x, rfl, (by omega), (Same.start x y _ (by omega) (by omega)), H0, (Is.of ⟨kr, kr, kr, kr, kr, trivial⟩)⟩ ?_
    clear H0
    rintro _ _ w6 ⟨j, rfl, hj, hs, H6, _, rfl⟩
    refine g_seq kr ?_
    refine g_sreg [0, 1] kr kr ?_
    refine s_val (some 17) (.int .i64 (((j : Nat) : Int) - 1)) (fun w => kr) kr ?_
    by_cases hc4 : (((j : Nat) : Int) - 1 : Int) ≥ 0
    · skip
      refine s_valE (some 18) (.bool (decide (0 ≤ ((j : Nat) : Int) - 1))) (.bool true) (fun w => kr) (bool_eq (decide_eq_true (by omega))) kr ?_
      refine s_nil ?_
      refine g_cond_t kr kr ?_
      refine g_skip kr ?_
      show WP _ _ _ _ _ _
      refine g_seq kr ?_
      refine g_block 1 kr ?_
      refine g_sreg [0, 1, 2, 3, 4, 5, 6] kr kr ?_
      refine s_val (some 21) (.slice (some ⟨ba, 0, none⟩) (List.length x) ca) (fun w => kr) kr ?_
      rw [show (((j : Nat) : Int) - 1) = ((j - 1 : Nat) : Int) from by omega]
      refine s_val (some 22) (.int .i64 ((j - 1 : Nat) : Int)) (fun w => kr) kr ?_
      refine s_callP H6 (some 23) 63 #[.slice (some ⟨ba, 0, none⟩) (List.length x) ca, .int .i64 ((j - 1 : Nat) : Int)] (fun w => w.heap[ba]? = some (.cells curA 3 (0, 0))) (.int .i64 ((List.getD x (j - 1) 0 : Nat) : Int)) (digit_fn x ba (List.length x) ca curA rfl hA (by omega) (j - 1) (by omega)) (H6.old hpre.1 (lt_of_heap hpre.1)) (fun w => kr) kr ?_
      intro w7 H7; clear H6
      refine s_val (some 24) (.slice (some ⟨bb, 0, none⟩) (List.length y) cb) (fun w => kr) kr ?_
      refine s_val (some 25) (.int .i64 ((j - 1 : Nat) : Int)) (fun w => kr) kr ?_
      refine s_callP H7 (some 26) 63 #[.slice (some ⟨bb, 0, none⟩) (List.length y) cb, .int .i64 ((j - 1 : Nat) : Int)] (fun w => w.heap[bb]? = some (.cells curB 3 (0, 0))) (.int .i64 ((List.getD y (j - 1) 0 : Nat) : Int)) (digit_fn y bb (List.length y) cb curB rfl hB (by omega) (j - 1) (by omega)) (H7.old hpre.2 (lt_of_heap hpre.2)) (fun w => kr) kr ?_
      intro w8 H8; clear H7
      by_cases hc5 : (List.getD x (j - 1) 0 : Nat) ≠ List.getD y (j - 1) 0
      · skip
        refine s_valE (some 27) (.bool (!(((List.getD x (j - 1) 0 : Nat) : Int) == ((List.getD y (j - 1) 0 : Nat) : Int)))) (.bool true) (fun w => kr) (bool_eq (by rw [beq_eq_false_iff_ne.2 (by omega)]; rfl)) kr ?_
        refine s_nil ?_
        refine g_cond_t kr kr ?_
        refine g_sreg [0, 1, 2, 3, 4, 5, 6, 7] kr kr ?_
        refine s_val (some 28) (.slice (some ⟨ba, 0, none⟩) (List.length x) ca) (fun w => kr) kr ?_
        refine s_val (some 29) (.int .i64 ((j - 1 : Nat) : Int)) (fun w => kr) kr ?_
        refine s_callP H8 (some 30) 63 #[.slice (some ⟨ba, 0, none⟩) (List.length x) ca, .int .i64 ((j - 1 : Nat) : Int)] (fun w => w.heap[ba]? = some (.cells curA 3 (0, 0))) (.int .i64 ((List.getD x (j - 1) 0 : Nat) : Int)) (digit_fn x ba (List.length x) ca curA rfl hA (by omega) (j - 1) (by omega)) (H8.old hpre.1 (lt_of_heap hpre.1)) (fun w => kr) kr ?_
        intro w9 H9; clear H8
        refine s_val (some 31) (.slice (some ⟨bb, 0, none⟩) (List.length y) cb) (fun w => kr) kr ?_
        refine s_val (some 32) (.int .i64 ((j - 1 : Nat) : Int)) (fun w => kr) kr ?_
        refine s_callP H9 (some 33) 63 #[.slice (some ⟨bb, 0, none⟩) (List.length y) cb, .int .i64 ((j - 1 : Nat) : Int)] (fun w => w.heap[bb]? = some (.cells curB 3 (0, 0))) (.int .i64 ((List.getD y (j - 1) 0 : Nat) : Int)) (digit_fn y bb (List.length y) cb curB rfl hB (by omega) (j - 1) (by omega)) (H9.old hpre.2 (lt_of_heap hpre.2)) (fun w => kr) kr ?_
        intro w10 H10; clear H9
        refine s_valE (some 34) (.bool (decide (((List.getD x (j - 1) 0 : Nat) : Int) < ((List.getD y (j - 1) 0 : Nat) : Int)))) (.bool (ls x y)) (fun w => kr) (bool_eq (ls_digit hx hy (j - 1) (fun t ht => hs t (by omega)) (by unfold dAt; omega))) kr ?_
        refine s_val (some 4) (.bool (ls x y)) (fun w => kr) kr ?_
        refine s_nil ?_
        refine g_ret kr ?_
        show ∃ vs, Res _ _ _ _ vs ∧ _
        refine ⟨[.bool (ls x y)], (.tmp (.bool (ls x y)) kr .nil), ?_, H10.below⟩
        rfl
      · skip
        refine s_valE (some 27) (.bool (!(((List.getD x (j - 1) 0 : Nat) : Int) == ((List.getD y (j - 1) 0 : Nat) : Int)))) (.bool false) (fun w => kr) (bool_eq (by rw [beq_iff_eq.2 (by omega)]; rfl)) kr ?_
        refine s_nil ?_
        refine g_cond_f kr kr ?_
        refine g_skip kr ?_
        show WP _ _ _ _ _ _
        refine g_reg0 [0, 1, 2] kr ?_
        refine s_val (some 19) (.int .i64 ((j - 1 : Nat) : Int)) (fun w => kr) kr ?_
        refine s_valE (some 20) (.int .i64 (IntKind.i64.wrap (((j - 1 : Nat) : Int) - 1))) (.int .i64 (((j - 1 : Nat) : Int) - 1)) (fun w => kr) (int_eq (wrap_i64 (by omega) (by omega))) kr ?_
        refine s_val (some 6) (.int .i64 (((j - 1 : Nat) : Int) - 1)) (fun w => kr) kr ?_
        refine s_nil ?_
        show ∃ m, _ ∧ _
        exact ⟨_, (by omega), (j - 1), rfl, (by omega), (Same.down (j := j - 1) (fun t ht => hs t (by omega)) (by unfold dAt; omega)), H8, (Is.of ⟨kr, kr, kr, kr, kr, trivial⟩)⟩
    · skip
      refine s_valE (some 18) (.bool (decide (0 ≤ ((j : Nat) : Int) - 1))) (.bool false) (fun w => kr) (bool_eq (decide_eq_false (by omega))) kr ?_
      refine s_nil ?_
      refine g_cond_f kr kr ?_
      refine g_exit 0 kr ?_
      show WP _ _ _ _ _ _
      refine g_sreg [0] kr kr ?_
      refine s_val (some 4) (.bool false) (fun w => kr) kr ?_
      refine s_nil ?_
      refine g_ret kr ?_
      show ∃ vs, Res _ _ _ _ vs ∧ _
      refine ⟨[.bool false], (.tmp (.bool false) kr .nil), ?_, H6.below⟩
      exact congrArg Value.bool (ls_none (x := x) (y := y) fun t => hs t (by omega)).symm

set_option maxRecDepth 100000 in
set_option maxHeartbeats 2000000 in
theorem take_fn (x y : List Nat) (ba nx ca bb ny cb : Nat) (curA curB : Array Value) (hnx : nx = List.length x) (hny : ny = List.length y) (hA : Rw 1 curA ca nx (cellsD x)) (hB : Rw 1 curB cb ny (cellsD y)) (hx : Ok x) (hy : Ok y) (lx : List.length x ≤ 5000) (ly : List.length y ≤ 5000) (hle : vl y ≤ vl x) : FnR Try.prog 68 #[.slice (some ⟨ba, 0, none⟩) nx ca, .slice (some ⟨bb, 0, none⟩) ny cb] (fun w => w.heap[ba]? = some (.cells curA 3 (0, 0)) ∧ w.heap[bb]? = some (.cells curB 3 (0, 0))) (RetS 3 1 (fun cur cap n l => (n = List.length l ∧ Rw 1 cur cap n (cellsD l) ∧ Ok l ∧ (vl l = vl x - vl y ∧ List.length l = List.length x)))) := by
  subst hnx hny
  refine FnR.intro (c := codeOf Try.f68) [.tmp 4] 35 Try.func68 kr kr kr fun w hpre => ?_
  have H0 := St.start w
  refine g_sreg [0] kr kr ?_
  refine s_val (some 4) (.slice none 0 0) (fun w => kr) kr ?_
  refine s_nil ?_
  refine g_sreg [0, 1] kr kr ?_
  refine s_new H0 (some 9) (fun b => .slice (some ⟨b, 0, none⟩) 0 0) #[] 3 (fun w => kr) kr ?_
  intro b1 w1 H1; clear H0
  refine s_val (some 5) (.slice (some ⟨b1, 0, none⟩) 0 0) (fun w => kr) kr ?_
  refine s_nil ?_
  refine g_sreg [0] kr kr ?_
  refine s_val (some 6) (.int .i64 0) (fun w => kr) kr ?_
  refine s_nil ?_
  refine g_seq kr ?_
  refine g_sreg [0, 1, 2] kr kr ?_
  refine s_val (some 10) (.slice (some ⟨ba, 0, none⟩) (List.length x) ca) (fun w => kr) kr ?_
  refine s_val (some 11) (.int .i64 ((List.length x : Nat) : Int)) (fun w => kr) kr ?_
  refine s_val (some 12) (.int .i64 0) (fun w => kr) kr ?_
  refine s_nil ?_
  refine g_block 0 kr ?_
  refine g_loop kr (fun mz ρ ww => ∃ (b : Nat) (cap : Nat) (n : Nat) (cur : Array Value) (l : List Nat) (k : Nat) (c : Nat), List.length x + 1 - k = mz ∧ (n = List.length l) ∧ (Rw 1 cur cap n (cellsD l)) ∧ (k ≤ List.length x) ∧ (TakeI x y l k (c : Int)) ∧ St w.heap.size w ww [(b, Od cur 3)] ∧ Is [(0, .slice (some ⟨ba, 0, none⟩) (List.length x) ca), (1, .slice (some ⟨bb, 0, none⟩) (List.length y) cb), (4, .slice none 0 0), (5, .slice (some ⟨b, 0, none⟩) n cap), (6, .int .i64 ((c : Nat) : Int)), (11, .int .i64 ((List.length x : Nat) : Int)), (12, .int .i64 ((k : Nat) : Int))] ρ) (List.length x + 1 - 0) ⟨b1, 0, 0, #[], [], 0, 0, rfl, rfl, (Rw.lit #[] 0 rfl (by unfold maxLen; omega)), (by omega), (TakeI.start x y), H1, (Is.of ⟨kr, kr, kr, kr, kr, kr, kr, trivial⟩)⟩ ?_
  clear H1
  rintro _ _ w2 ⟨b, cap, n, cur, l, k, c, rfl, hn, hr, hk, hS, H2, _, rfl⟩
  have hc0 := hS.c0; have hc1 := hS.c1; have hxk := ok_getD hx k; have hyk := ok_getD hy k; have hlen := hS.len; have hok := hS.ok
  refine g_sreg [0] kr kr ?_
  by_cases hc1 : (k : Nat) < List.length x
  · skip
    refine s_valE (some 13) (.bool (decide (((k : Nat) : Int) < ((List.length x : Nat) : Int)))) (.bool true) (fun w => kr) (bool_eq (decide_eq_true (by omega))) kr ?_
    refine s_nil ?_
    refine g_seq kr ?_
    refine g_cond_t kr kr ?_
    refine g_skip kr ?_
    show WP _ _ _ _ _ _
    refine g_seq kr ?_
    refine g_block 1 kr ?_
    refine g_sreg [0, 1] kr kr ?_
    refine s_val (some 14) (.int .i64 ((k : Nat) : Int)) (fun w => kr) kr ?_
    refine s_val (some 7) (.int .i64 ((k : Nat) : Int)) (fun w => kr) kr ?_
    refine s_nil ?_
    refine D2.g_sdraw [0, 1, 2, 3, 4, 5, 6, 7, 8, 9, 10] [((some 15), fun _ => .slice (some ⟨ba, 0, none⟩) (List.length x) ca), ((some 16), fun _ => .int .i64 ((k : Nat) : Int)), ((some 17), fun _ => .pointer (some ⟨ba, 0 + k * 1, none⟩)), ((some 18), fun _ => .int .i64 ((List.getD x k 0 : Nat) : Int)), ((some 19), fun _ => .slice (some ⟨bb, 0, none⟩) (List.length y) cb), ((some 20), fun _ => .int .i64 ((k : Nat) : Int)), ((some 21), fun _ => .int .i64 ((List.getD y k 0 : Nat) : Int)), ((some 22), fun _ => .int .i64 (((List.getD x k 0 : Nat) : Int) - ((List.getD y k 0 : Nat) : Int))), ((some 23), fun _ => .int .i64 ((c : Nat) : Int)), ((some 24), fun _ => .int .i64 ((((List.getD x k 0 : Nat) : Int) - ((List.getD y k 0 : Nat) : Int)) - ((c : Nat) : Int))), ((some 8), fun _ => .int .i64 ((((List.getD x k 0 : Nat) : Int) - ((List.getD y k 0 : Nat) : Int)) - ((c : Nat) : Int)))] (D2.Pre w.heap.size w (fun L g => [(true, (b, Od cur 3))]) (fun L g => True)) kr kr kr kr ⟨D2.StE.of H2.drew _ kr, trivial⟩ ⟨?_, ?_, ?_, ?_, ?_, ?_, ?_, ?_, ?_, ?_, ?_, trivial⟩ ?_
    · exact D2.gv_val (fun _ _ _ h => h) (fun g w => kr)
    · exact D2.gv_val (fun _ _ _ h => h) (fun g w => kr)
    · exact D2.gv_op (fun _ _ _ h => h) _ (fun g => kr) (fun g => (fun o w ho => idxS_run (kd := .i64) (t := 68) (e := 3) (size := 1) (bytes := 8) kr (x := (.tmp 15)) (y := (.tmp 16)) ba 0 (List.length x) ca k ho kr kr (by omega) w))
    · exact D2.gv_load1F 3 (.tmp 17) ba (0 + k * 1) curA 3 (0, 0) (fun _ _ _ h => h) (fun g => kr) (fun g => kr) hpre.1 (lt_of_heap hpre.1) kr (hA.atD (by omega) rfl)
    · exact D2.gv_val (fun _ _ _ h => h) (fun g w => kr)
    · exact D2.gv_val (fun _ _ _ h => h) (fun g w => kr)
    · exact D2.gv_callP 63 (fun g => #[.slice (some ⟨bb, 0, none⟩) (List.length y) cb, .int .i64 ((k : Nat) : Int)]) (fun g => fun w => w.heap[bb]? = some (.cells curB 3 (0, 0))) (fun _ _ _ h => h) (fun L g hN hF => by exact digit_fn y bb (List.length y) cb curB rfl hB (by omega) k (by omega)) (fun L g w hN hE hF => by exact (hE.old hpre.2 (lt_of_heap hpre.2))) (fun g w => kr)
    · exact D2.gv_valE (fun _ _ _ h => h) (V' := .int .i64 (IntKind.i64.wrap (((List.getD x k 0 : Nat) : Int) - ((List.getD y k 0 : Nat) : Int)))) (fun g w => kr) (int_eq (wrap_i64 (by omega) (by omega)))
    · exact D2.gv_val (fun _ _ _ h => h) (fun g w => kr)
    · exact D2.gv_valE (fun _ _ _ h => h) (V' := .int .i64 (IntKind.i64.wrap ((((List.getD x k 0 : Nat) : Int) - ((List.getD y k 0 : Nat) : Int)) - ((c : Nat) : Int)))) (fun g w => kr) (int_eq (wrap_i64 (by omega) (by omega)))
    · exact D2.gv_val (fun _ _ _ h => h) (fun g w => kr)
    intro L0 G3 w3 hall HL; clear H2
    have H3 : St w.heap.size w w3 [(b, Od cur 3)] := D2.StE.st HL.1
    clear HL hall
    refine g_sreg [0] kr kr ?_
    refine s_val (some 6) (.int .i64 0) (fun w => kr) kr ?_
    refine s_nil ?_
    refine g_seq kr ?_
    refine g_sreg [0, 1] kr kr ?_
    refine s_val (some 25) (.int .i64 ((((List.getD x k 0 : Nat) : Int) - ((List.getD y k 0 : Nat) : Int)) - ((c : Nat) : Int))) (fun w => kr) kr ?_
    by_cases hc2 : ((((List.getD x k 0 : Nat) : Int) - ((List.getD y k 0 : Nat) : Int)) - ((c : Nat) : Int) : Int) < 0
    · skip
      refine s_valE (some 26) (.bool (decide ((((List.getD x k 0 : Nat) : Int) - ((List.getD y k 0 : Nat) : Int)) - ((c : Nat) : Int) < 0))) (.bool true) (fun w => kr) (bool_eq (decide_eq_true (by omega))) kr ?_
      refine s_nil ?_
      refine g_cond_t kr kr ?_
      refine g_sreg [0, 1, 2] kr kr ?_
      refine s_val (some 27) (.int .i64 ((((List.getD x k 0 : Nat) : Int) - ((List.getD y k 0 : Nat) : Int)) - ((c : Nat) : Int))) (fun w => kr) kr ?_
      refine s_valE (some 28) (.int .i64 (IntKind.i64.wrap (((((List.getD x k 0 : Nat) : Int) - ((List.getD y k 0 : Nat) : Int)) - ((c : Nat) : Int)) + 65536))) (.int .i64 (((((List.getD x k 0 : Nat) : Int) - ((List.getD y k 0 : Nat) : Int)) - ((c : Nat) : Int)) + 65536)) (fun w => kr) (int_eq (wrap_i64 (by omega) (by omega))) kr ?_
      refine s_val (some 8) (.int .i64 (((((List.getD x k 0 : Nat) : Int) - ((List.getD y k 0 : Nat) : Int)) - ((c : Nat) : Int)) + 65536)) (fun w => kr) kr ?_
      refine s_nil ?_
      refine g_reg0 [0] kr ?_
      refine s_val (some 6) (.int .i64 1) (fun w => kr) kr ?_
      refine s_nil ?_
      show WP _ _ _ _ _ _
      refine g_reg0 [0, 1, 2, 3, 4] kr ?_
      refine s_val (some 29) (.slice (some ⟨b, 0, none⟩) n cap) (fun w => kr) kr ?_
      rw [show (((((List.getD x k 0 : Nat) : Int) - ((List.getD y k 0 : Nat) : Int)) - ((c : Nat) : Int)) + 65536) = ((Int.toNat (((((List.getD x k 0 : Nat) : Int) - ((List.getD y k 0 : Nat) : Int)) - ((c : Nat) : Int)) + 65536) : Nat) : Int) from by omega]
      refine s_val (some 30) (.int .i64 ((Int.toNat (((((List.getD x k 0 : Nat) : Int) - ((List.getD y k 0 : Nat) : Int)) - ((c : Nat) : Int)) + 65536) : Nat) : Int)) (fun w => kr) kr ?_
      refine s_new H3 (some 31) (fun b => .slice (some ⟨b, 0, none⟩) 1 1) #[.int .i64 ((Int.toNat (((((List.getD x k 0 : Nat) : Int) - ((List.getD y k 0 : Nat) : Int)) - ((c : Nat) : Int)) + 65536) : Nat) : Int)] 3 (fun w => kr) kr ?_
      intro b2 w4 H4; clear H3
      refine s_append H4 (some 32) 68 3 1 8 (.tmp 29) (.tmp 31) 1 0 b b2 n 1 cap 1 cur #[.int .i64 ((Int.toNat (((((List.getD x k 0 : Nat) : Int) - ((List.getD y k 0 : Nat) : Int)) - ((c : Nat) : Int)) + 65536) : Nat) : Int)] 3 (0, 0) (cellsD l) ([.int .i64 ((Int.toNat (((((List.getD x k 0 : Nat) : Int) - ((List.getD y k 0 : Nat) : Int)) - ((c : Nat) : Int)) + 65536) : Nat) : Int)]) (fun b_1 cur_3 => [(b2, Obj.cells #[.int .i64 ((Int.toNat (((((List.getD x k 0 : Nat) : Int) - ((List.getD y k 0 : Nat) : Int)) - ((c : Nat) : Int)) + 65536) : Nat) : Int)] 3 (0, 0)), (b_1, Od cur_3 3)]) kr kr kr kr kr hr kr kr (by rfl) (by rfl) (by intro u hu; simp at hu; first | exact hu.elim | (rcases hu with rfl | rfl | rfl | rfl <;> rfl) | (rcases hu with rfl | rfl <;> rfl) | (subst hu; rfl)) (by omega) (by unfold maxLen; omega) (fun _ _ => kr) ?_
      intro b_1 cap_2 cur_3 w5 H5 hr_4; clear H4
      refine s_val (some 5) (.slice (some ⟨b_1, 0, none⟩) (n + 1) cap_2) (fun w => kr) kr ?_
      refine s_nil ?_
      show WP _ _ _ _ _ _
      refine g_reg0 [0, 1] kr ?_
      refine s_valE (some 33) (.int .i64 (IntKind.i64.wrap (((k : Nat) : Int) + 1))) (.int .i64 ((k + 1 : Nat) : Int)) (fun w => kr) (int_eq (wrapAdd_i64 (a := k) (b := 1) (by omega))) kr ?_
      refine s_val (some 12) (.int .i64 ((k + 1 : Nat) : Int)) (fun w => kr) kr ?_
      refine s_nil ?_
      have hS2 := hS.step (((((List.getD x k 0 : Nat) : Int) - ((List.getD y k 0 : Nat) : Int)) - ((c : Nat) : Int)) + 65536) ((1 : Nat) : Int) (by omega) (by omega) (by omega) (by omega) (by unfold dAt; omega)
      have HD3 : St w.heap.size w w5 [(b_1, Od cur_3 3)] := H5.sub (List.Sublist.cons _ (List.Sublist.cons_cons _ List.Sublist.slnil))
      show ∃ m, _ ∧ _
      exact ⟨_, (by omega), b_1, cap_2, n + 1, cur_3, l ++ [Int.toNat (((((List.getD x k 0 : Nat) : Int) - ((List.getD y k 0 : Nat) : Int)) - ((c : Nat) : Int)) + 65536)], k + 1, 1, rfl, (by rw [List.length_append, ← hn]; rfl), (by rw [cellsD_append]; exact hr_4), (by omega), hS2, HD3, (Is.of ⟨kr, kr, kr, kr, kr, kr, kr, trivial⟩)⟩
    · skip
      refine s_valE (some 26) (.bool (decide ((((List.getD x k 0 : Nat) : Int) - ((List.getD y k 0 : Nat) : Int)) - ((c : Nat) : Int) < 0))) (.bool false) (fun w => kr) (bool_eq (decide_eq_false (by omega))) kr ?_
      refine s_nil ?_
      refine g_cond_f kr kr ?_
      refine g_skip kr ?_
      show WP _ _ _ _ _ _
      refine g_reg0 [0, 1, 2, 3, 4] kr ?_
      refine s_val (some 29) (.slice (some ⟨b, 0, none⟩) n cap) (fun w => kr) kr ?_
      rw [show ((((List.getD x k 0 : Nat) : Int) - ((List.getD y k 0 : Nat) : Int)) - ((c : Nat) : Int)) = ((Int.toNat ((((List.getD x k 0 : Nat) : Int) - ((List.getD y k 0 : Nat) : Int)) - ((c : Nat) : Int)) : Nat) : Int) from by omega]
      refine s_val (some 30) (.int .i64 ((Int.toNat ((((List.getD x k 0 : Nat) : Int) - ((List.getD y k 0 : Nat) : Int)) - ((c : Nat) : Int)) : Nat) : Int)) (fun w => kr) kr ?_
      refine s_new H3 (some 31) (fun b => .slice (some ⟨b, 0, none⟩) 1 1) #[.int .i64 ((Int.toNat ((((List.getD x k 0 : Nat) : Int) - ((List.getD y k 0 : Nat) : Int)) - ((c : Nat) : Int)) : Nat) : Int)] 3 (fun w => kr) kr ?_
      intro b3 w6 H6; clear H3
      refine s_append H6 (some 32) 68 3 1 8 (.tmp 29) (.tmp 31) 1 0 b b3 n 1 cap 1 cur #[.int .i64 ((Int.toNat ((((List.getD x k 0 : Nat) : Int) - ((List.getD y k 0 : Nat) : Int)) - ((c : Nat) : Int)) : Nat) : Int)] 3 (0, 0) (cellsD l) ([.int .i64 ((Int.toNat ((((List.getD x k 0 : Nat) : Int) - ((List.getD y k 0 : Nat) : Int)) - ((c : Nat) : Int)) : Nat) : Int)]) (fun b_5 cur_7 => [(b3, Obj.cells #[.int .i64 ((Int.toNat ((((List.getD x k 0 : Nat) : Int) - ((List.getD y k 0 : Nat) : Int)) - ((c : Nat) : Int)) : Nat) : Int)] 3 (0, 0)), (b_5, Od cur_7 3)]) kr kr kr kr kr hr kr kr (by rfl) (by rfl) (by intro u hu; simp at hu; first | exact hu.elim | (rcases hu with rfl | rfl | rfl | rfl <;> rfl) | (rcases hu with rfl | rfl <;> rfl) | (subst hu; rfl)) (by omega) (by unfold maxLen; omega) (fun _ _ => kr) ?_
      intro b_5 cap_6 cur_7 w7 H7 hr_8; clear H6
      refine s_val (some 5) (.slice (some ⟨b_5, 0, none⟩) (n + 1) cap_6) (fun w => kr) kr ?_
      refine s_nil ?_
      show WP _ _ _ _ _ _
      refine g_reg0 [0, 1] kr ?_
      refine s_valE (some 33) (.int .i64 (IntKind.i64.wrap (((k : Nat) : Int) + 1))) (.int .i64 ((k + 1 : Nat) : Int)) (fun w => kr) (int_eq (wrapAdd_i64 (a := k) (b := 1) (by omega))) kr ?_
      refine s_val (some 12) (.int .i64 ((k + 1 : Nat) : Int)) (fun w => kr) kr ?_
      refine s_nil ?_
      have hS2 := hS.step ((((List.getD x k 0 : Nat) : Int) - ((List.getD y k 0 : Nat) : Int)) - ((c : Nat) : Int)) ((0 : Nat) : Int) (by omega) (by omega) (by omega) (by omega) (by unfold dAt; omega)
      have HD4 : St w.heap.size w w7 [(b_5, Od cur_7 3)] := H7.sub (List.Sublist.cons _ (List.Sublist.cons_cons _ List.Sublist.slnil))
      show ∃ m, _ ∧ _
      exact ⟨_, (by omega), b_5, cap_6, n + 1, cur_7, l ++ [Int.toNat ((((List.getD x k 0 : Nat) : Int) - ((List.getD y k 0 : Nat) : Int)) - ((c : Nat) : Int))], k + 1, 0, rfl, (by rw [List.length_append, ← hn]; rfl), (by rw [cellsD_append]; exact hr_8), (by omega), hS2, HD4, (Is.of ⟨kr, kr, kr, kr, kr, kr, kr, trivial⟩)⟩
  · skip
    refine s_valE (some 13) (.bool (decide (((k : Nat) : Int) < ((List.length x : Nat) : Int)))) (.bool false) (fun w => kr) (bool_eq (decide_eq_false (by omega))) kr ?_
    refine s_nil ?_
    refine g_seq kr ?_
    refine g_cond_f kr kr ?_
    refine g_exit 0 kr ?_
    show WP _ _ _ _ _ _
    refine g_sreg [0, 1] kr kr ?_
    refine s_val (some 34) (.slice (some ⟨b, 0, none⟩) n cap) (fun w => kr) kr ?_
    refine s_val (some 4) (.slice (some ⟨b, 0, none⟩) n cap) (fun w => kr) kr ?_
    refine s_nil ?_
    refine g_ret kr ?_
    show ∃ vs, Res _ _ _ _ vs ∧ _
    refine ⟨[.slice (some ⟨b, 0, none⟩) n cap], (.tmp (.slice (some ⟨b, 0, none⟩) n cap) kr .nil), H2.below, ?_⟩
    obtain rfl : k = List.length x := by omega
    exact ⟨b, cap, _, _, l, rfl, H2.ge 0 (o := .cells cur 3 (0, 0)) kr, H2.get 0 kr, hn, hr, hok, hS.fin hx hy hle, hlen⟩
end Go.Proofs.Ytljhbhhpfkmemaa
