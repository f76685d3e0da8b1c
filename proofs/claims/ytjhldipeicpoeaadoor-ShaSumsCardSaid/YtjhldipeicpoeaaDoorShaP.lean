/-
  The reference: a word turned; digits times a number.
-/
import Derived.Test.YtjhldipeicpoeaaDoorProg
import Derived.Test.YtjhldipeicpoeaaDoorShaM
import Derived.Test.YtjhldipeicpoeaaDoorShaR
import Derived.Test.YtjhldipeicpoeaaDoorShaN
namespace Go.Proofs.YtjhldipeicpoeaaDoor
open Go Go.RowKit Go.Proofs.Sha
set_option linter.unusedVariables false
theorem or_rr (x : W) (n : Nat) : x >>> n ||| x <<< (32 - n) = rr x n := BitVec.or_comm _ _

set_option maxRecDepth 100000 in
set_option maxHeartbeats 2000000 in
theorem rightR_fn (x : W) (n : Nat) (h0 : 0 < n) (hn : n < 32) : Fn Tryd.prog 23 #[.int .u32 ((BitVec.toNat x : Nat) : Int), .int .i64 ((n : Nat) : Int)] (.int .u32 ((BitVec.toNat (rr x n) : Nat) : Int)) := by
  refine Fn.intro (c := codeOf Tryd.f23) [.tmp 4] 15 Tryd.func23 (by kernel_rfl) (by kernel_rfl) (by kernel_rfl) fun w => ?_
  have H0 := St.start w
  refine g_sreg [0] (by kernel_rfl) (by kernel_rfl) ?_
  refine s_val (some 4) (.int .u32 0) (fun w => by kernel_rfl) (by kernel_rfl) ?_
  refine s_nil ?_
  refine g_sreg [0, 1, 2, 3, 4, 5, 6, 7, 8, 9, 10] (by kernel_rfl) (by kernel_rfl) ?_
  refine s_val (some 5) (.int .u32 ((BitVec.toNat x : Nat) : Int)) (fun w => by kernel_rfl) (by kernel_rfl) ?_
  refine s_val (some 6) (.int .i64 ((n : Nat) : Int)) (fun w => by kernel_rfl) (by kernel_rfl) ?_
  refine s_valE (some 7) (.int .u64 (IntKind.u64.wrap (((n : Nat) : Int)))) (.int .u64 ((n : Nat) : Int)) (fun w => by kernel_rfl) (int_eq (wrapN_u64 (a := n) (by omega))) (by kernel_rfl) ?_
  refine s_valE (some 8) (.int .u32 (Int.fdiv (((BitVec.toNat x : Nat) : Int)) (2 ^ (min n 32)))) (.int .u32 ((BitVec.toNat (x >>> n) : Nat) : Int)) (fun w => by kernel_rfl) (bv_shr_u32 x n) (by kernel_rfl) ?_
  refine s_val (some 9) (.int .u32 ((BitVec.toNat x : Nat) : Int)) (fun w => by kernel_rfl) (by kernel_rfl) ?_
  refine s_val (some 10) (.int .i64 ((n : Nat) : Int)) (fun w => by kernel_rfl) (by kernel_rfl) ?_
  refine s_valE (some 11) (.int .i64 (IntKind.i64.wrap (32 - ((n : Nat) : Int)))) (.int .i64 ((32 - n : Nat) : Int)) (fun w => by kernel_rfl) (int_eq (wrapSub_i64 (a := 32) (b := n) (by omega))) (by kernel_rfl) ?_
  refine s_valE (some 12) (.int .u64 (IntKind.u64.wrap (((32 - n : Nat) : Int)))) (.int .u64 ((32 - n : Nat) : Int)) (fun w => by kernel_rfl) (int_eq (wrapN_u64 (a := 32 - n) (by omega))) (by kernel_rfl) ?_
  refine s_valE (some 13) (.int .u32 (IntKind.u32.wrap ((((BitVec.toNat x : Nat) : Int)) * 2 ^ (min (32 - n) 32)))) (.int .u32 ((BitVec.toNat (x <<< (32 - n)) : Nat) : Int)) (fun w => by kernel_rfl) (bv_shl_u32 x (32 - n)) (by kernel_rfl) ?_
  refine s_valE (some 14) (.int .u32 (Go.bits .or .u32 (((BitVec.toNat (x >>> n) : Nat) : Int)) (((BitVec.toNat (x <<< (32 - n)) : Nat) : Int)))) (.int .u32 ((BitVec.toNat ((x >>> n) ||| (x <<< (32 - n))) : Nat) : Int)) (fun w => by kernel_rfl) (bv_or_u32 (x >>> n) (x <<< (32 - n))) (by kernel_rfl) ?_
  refine s_val (some 4) (.int .u32 ((BitVec.toNat ((x >>> n) ||| (x <<< (32 - n))) : Nat) : Int)) (fun w => by kernel_rfl) (by kernel_rfl) ?_
  refine s_nil ?_
  refine g_ret (by kernel_rfl) ?_
  show ∃ vs, Res _ _ _ _ vs ∧ _
  refine ⟨[.int .u32 ((BitVec.toNat ((x >>> n) ||| (x <<< (32 - n))) : Nat) : Int)], (.tmp (.int .u32 ((BitVec.toNat ((x >>> n) ||| (x <<< (32 - n))) : Nat) : Int)) (by kernel_rfl) .nil), ?_, H0.below⟩
  rw [← or_rr x n]; rfl

set_option maxRecDepth 100000 in
set_option maxHeartbeats 2000000 in
theorem times_fn (x : List Nat) (ba nx ca : Nat) (curA : Array Value) (hnx : nx = List.length x) (hA : Rw 1 curA ca nx (cellsD x)) (hx : Ok x) (lx : List.length x ≤ 1000) (y : Nat) (hy : y < 65536) : FnR Tryd.prog 28 #[.slice (some ⟨ba, 0, none⟩) nx ca, .int .i64 ((y : Nat) : Int)] (fun w => w.heap[ba]? = some (.cells curA 3 (0, 0))) (RetS 3 1 (fun cur cap n l => (n = List.length l ∧ Rw 1 cur cap n (cellsD l) ∧ Ok l ∧ (vl l = vl x * y ∧ List.length l ≤ List.length x + 1)))) := by
  subst hnx
  refine FnR.intro (c := codeOf Tryd.f28) [.tmp 4] 41 Tryd.func28 (by kernel_rfl) (by kernel_rfl) (by kernel_rfl) fun w hpre => ?_
  have H0 := St.start w
  refine g_sreg [0] (by kernel_rfl) (by kernel_rfl) ?_
  refine s_val (some 4) (.slice none 0 0) (fun w => by kernel_rfl) (by kernel_rfl) ?_
  refine s_nil ?_
  refine g_sreg [0, 1] (by kernel_rfl) (by kernel_rfl) ?_
  refine s_new H0 (some 9) (fun b => .slice (some ⟨b, 0, none⟩) 0 0) #[] 3 (fun w => by kernel_rfl) (by kernel_rfl) ?_
  intro b1 w1 H1; clear H0
  refine s_val (some 5) (.slice (some ⟨b1, 0, none⟩) 0 0) (fun w => by kernel_rfl) (by kernel_rfl) ?_
  refine s_nil ?_
  refine g_sreg [0] (by kernel_rfl) (by kernel_rfl) ?_
  refine s_val (some 6) (.int .i64 0) (fun w => by kernel_rfl) (by kernel_rfl) ?_
  refine s_nil ?_
  refine g_seq (by kernel_rfl) ?_
  refine g_sreg [0] (by kernel_rfl) (by kernel_rfl) ?_
  refine s_val (some 7) (.int .i64 0) (fun w => by kernel_rfl) (by kernel_rfl) ?_
  refine s_nil ?_
  refine g_block 0 (by kernel_rfl) ?_
  refine g_loop (by kernel_rfl) (fun mz ρ ww => ∃ (b : Nat) (cap : Nat) (n : Nat) (cur : Array Value) (l : List Nat) (i : Nat) (c : Nat), List.length x + 2 - i = mz ∧ (n = List.length l) ∧ (Rw 1 cur cap n (cellsD l)) ∧ (TimI x y l i c) ∧ St w.heap.size w ww [(b, Obj.cells cur 3 (0, 0))] ∧ Is [(0, .slice (some ⟨ba, 0, none⟩) (List.length x) ca), (1, .int .i64 ((y : Nat) : Int)), (4, .slice none 0 0), (5, .slice (some ⟨b, 0, none⟩) n cap), (6, .int .i64 ((c : Nat) : Int)), (7, .int .i64 ((i : Nat) : Int))] ρ) (List.length x + 2 - 0) ⟨b1, 0, 0, #[], [], 0, 0, rfl, rfl, (Rw.lit #[] 0 rfl (by unfold maxLen; omega)), (TimI.start x y), H1, (Is.of ⟨(by kernel_rfl), (by kernel_rfl), (by kernel_rfl), (by kernel_rfl), (by kernel_rfl), (by kernel_rfl), trivial⟩)⟩ ?_
  clear H1
  rintro _ _ w2 ⟨b, cap, n, cur, l, i, c, rfl, hn, hr, hS, H2, _, rfl⟩
  have hcw := hS.cw; have htop := hS.top; have hfin := hS.fin; have hlen := hS.len; have hxi := ok_getD hx i
  have hm : List.getD x i 0 * y ≤ 65535 * 65535 := Nat.mul_le_mul (by omega) (by omega)
  refine g_seq (by kernel_rfl) ?_
  refine g_sreg [0, 1, 2, 3, 4, 5, 6, 7] (by kernel_rfl) (by kernel_rfl) ?_
  refine s_val (some 10) (.int .i64 ((i : Nat) : Int)) (fun w => by kernel_rfl) (by kernel_rfl) ?_
  refine s_val (some 11) (.slice (some ⟨ba, 0, none⟩) (List.length x) ca) (fun w => by kernel_rfl) (by kernel_rfl) ?_
  refine s_val (some 12) (.int .i64 ((List.length x : Nat) : Int)) (fun w => by kernel_rfl) (by kernel_rfl) ?_
  by_cases hc1 : (i : Nat) < List.length x
  · skip
    refine s_valE (some 13) (.bool (decide (((i : Nat) : Int) < ((List.length x : Nat) : Int)))) (.bool true) (fun w => by kernel_rfl) (bool_eq (decide_eq_true (by omega))) (by kernel_rfl) ?_
    refine s_val (some 14) (.bool true) (fun w => by kernel_rfl) (by kernel_rfl) ?_
    refine s_not (some 15) (by kernel_rfl) (by kernel_rfl) ?_
    refine s_not (some 16) (by kernel_rfl) (by kernel_rfl) ?_
    refine s_val (some 17) (.bool true) (fun w => by kernel_rfl) (by kernel_rfl) ?_
    refine s_nil ?_
    refine g_cond_t (by kernel_rfl) (by kernel_rfl) ?_
    refine g_skip (by kernel_rfl) ?_
    show WP _ _ _ _ _ _
    refine g_seq (by kernel_rfl) ?_
    refine g_block 1 (by kernel_rfl) ?_
    refine g_sreg [0, 1] (by kernel_rfl) (by kernel_rfl) ?_
    refine s_val (some 20) (.int .i64 ((c : Nat) : Int)) (fun w => by kernel_rfl) (by kernel_rfl) ?_
    refine s_val (some 8) (.int .i64 ((c : Nat) : Int)) (fun w => by kernel_rfl) (by kernel_rfl) ?_
    refine s_nil ?_
    refine g_seq (by kernel_rfl) ?_
    refine g_sreg [0, 1, 2, 3] (by kernel_rfl) (by kernel_rfl) ?_
    refine s_val (some 21) (.int .i64 ((i : Nat) : Int)) (fun w => by kernel_rfl) (by kernel_rfl) ?_
    refine s_val (some 22) (.slice (some ⟨ba, 0, none⟩) (List.length x) ca) (fun w => by kernel_rfl) (by kernel_rfl) ?_
    refine s_val (some 23) (.int .i64 ((List.length x : Nat) : Int)) (fun w => by kernel_rfl) (by kernel_rfl) ?_
    refine s_valE (some 24) (.bool (decide (((i : Nat) : Int) < ((List.length x : Nat) : Int)))) (.bool true) (fun w => by kernel_rfl) (bool_eq (decide_eq_true (by omega))) (by kernel_rfl) ?_
    refine s_nil ?_
    refine g_cond_t (by kernel_rfl) (by kernel_rfl) ?_
    refine g_reg0 [0, 1, 2, 3, 4, 5, 6, 7, 8] (by kernel_rfl) ?_
    refine s_val (some 25) (.int .i64 ((c : Nat) : Int)) (fun w => by kernel_rfl) (by kernel_rfl) ?_
    refine s_val (some 26) (.slice (some ⟨ba, 0, none⟩) (List.length x) ca) (fun w => by kernel_rfl) (by kernel_rfl) ?_
    refine s_val (some 27) (.int .i64 ((i : Nat) : Int)) (fun w => by kernel_rfl) (by kernel_rfl) ?_
    refine s_op (some 28) _ (.pointer (some ⟨ba, 0 + i * 1, none⟩)) (by kernel_rfl) (by kernel_rfl) (fun o w ho => idxS_run (kd := .i64) (t := 39) (e := 3) (size := 1) (bytes := 8) (by kernel_rfl) (x := (.tmp 26)) (y := (.tmp 27)) ba 0 (List.length x) ca i ho (by kernel_rfl) (by kernel_rfl) (by omega) w) ?_
    refine s_load1F H2 (some 29) 3 (.tmp 28) ba (0 + i * 1) curA 3 (0, 0) (.int .i64 ((List.getD x i 0 : Nat) : Int)) (by kernel_rfl) (by kernel_rfl) (by kernel_rfl) hpre (lt_of_heap hpre) (by kernel_rfl) (hA.atD (by omega) rfl) ?_
    refine s_val (some 30) (.int .i64 ((y : Nat) : Int)) (fun w => by kernel_rfl) (by kernel_rfl) ?_
    refine s_valE (some 31) (.int .i64 (IntKind.i64.wrap (((List.getD x i 0 : Nat) : Int) * ((y : Nat) : Int)))) (.int .i64 (((List.getD x i 0) * y : Nat) : Int)) (fun w => by kernel_rfl) (int_eq (wrapMul_i64 (a := List.getD x i 0) (b := y) (by omega))) (by kernel_rfl) ?_
    refine s_valE (some 32) (.int .i64 (IntKind.i64.wrap (((c : Nat) : Int) + (((List.getD x i 0) * y : Nat) : Int)))) (.int .i64 ((c + ((List.getD x i 0) * y) : Nat) : Int)) (fun w => by kernel_rfl) (int_eq (wrapAdd_i64 (a := c) (b := (List.getD x i 0) * y) (by omega))) (by kernel_rfl) ?_
    refine s_val (some 8) (.int .i64 ((c + ((List.getD x i 0) * y) : Nat) : Int)) (fun w => by kernel_rfl) (by kernel_rfl) ?_
    refine s_nil ?_
    show WP _ _ _ _ _ _
    refine g_sreg [0, 1, 2, 3, 4, 5] (by kernel_rfl) (by kernel_rfl) ?_
    refine s_val (some 33) (.slice (some ⟨b, 0, none⟩) n cap) (fun w => by kernel_rfl) (by kernel_rfl) ?_
    refine s_val (some 34) (.int .i64 ((c + ((List.getD x i 0) * y) : Nat) : Int)) (fun w => by kernel_rfl) (by kernel_rfl) ?_
    refine s_valE (some 35) (.int .i64 (Int.tmod ((c + ((List.getD x i 0) * y) : Nat) : Int) 65536)) (.int .i64 (((c + ((List.getD x i 0) * y)) % 65536 : Nat) : Int)) (fun w => by kernel_rfl) (int_eq (remN (c + ((List.getD x i 0) * y)) 65536)) (by kernel_rfl) ?_
    refine s_new H2 (some 36) (fun b => .slice (some ⟨b, 0, none⟩) 1 1) #[.int .i64 (((c + ((List.getD x i 0) * y)) % 65536 : Nat) : Int)] 3 (fun w => by kernel_rfl) (by kernel_rfl) ?_
    intro b2 w3 H3; clear H2
    refine s_append H3 (some 37) 39 3 1 8 (.tmp 33) (.tmp 36) 1 0 b b2 n 1 cap 1 cur #[.int .i64 (((c + ((List.getD x i 0) * y)) % 65536 : Nat) : Int)] 3 (0, 0) (cellsD l) ([.int .i64 (((c + ((List.getD x i 0) * y)) % 65536 : Nat) : Int)]) (fun b_1 cur_3 => [(b2, Obj.cells #[.int .i64 (((c + ((List.getD x i 0) * y)) % 65536 : Nat) : Int)] 3 (0, 0)), (b_1, Obj.cells cur_3 3 (0, 0))]) (by kernel_rfl) (by kernel_rfl) (by kernel_rfl) (by kernel_rfl) (by kernel_rfl) hr (by kernel_rfl) (by kernel_rfl) (by rfl) (by rfl) (by intro u hu; simp at hu; first | exact hu.elim | (rcases hu with rfl | rfl | rfl | rfl <;> rfl) | (rcases hu with rfl | rfl <;> rfl) | (subst hu; rfl)) (by omega) (by unfold maxLen; omega) (fun _ _ => by kernel_rfl) ?_
    intro b_1 cap_2 cur_3 w4 H4 hr_4; clear H3
    have hr_4t : Rw 1 cur_3 cap_2 (n + 1) (cellsD (l ++ [(c + ((List.getD x i 0) * y)) % 65536])) := by rw [cellsD_append]; exact hr_4
    refine s_val (some 5) (.slice (some ⟨b_1, 0, none⟩) (n + 1) cap_2) (fun w => by kernel_rfl) (by kernel_rfl) ?_
    refine s_nil ?_
    refine g_reg0 [0, 1, 2] (by kernel_rfl) ?_
    refine s_val (some 38) (.int .i64 ((c + ((List.getD x i 0) * y) : Nat) : Int)) (fun w => by kernel_rfl) (by kernel_rfl) ?_
    refine s_valE (some 39) (.int .i64 (IntKind.i64.wrap (((c + ((List.getD x i 0) * y) : Nat) : Int).tdiv 65536))) (.int .i64 (((c + ((List.getD x i 0) * y)) / 65536 : Nat) : Int)) (fun w => by kernel_rfl) (int_eq (quoN_i64 (a := c + ((List.getD x i 0) * y)) (b := 65536) (by omega))) (by kernel_rfl) ?_
    refine s_val (some 6) (.int .i64 (((c + ((List.getD x i 0) * y)) / 65536 : Nat) : Int)) (fun w => by kernel_rfl) (by kernel_rfl) ?_
    refine s_nil ?_
    show WP _ _ _ _ _ _
    refine g_reg0 [0, 1, 2] (by kernel_rfl) ?_
    refine s_val (some 18) (.int .i64 ((i : Nat) : Int)) (fun w => by kernel_rfl) (by kernel_rfl) ?_
    refine s_valE (some 19) (.int .i64 (IntKind.i64.wrap (((i : Nat) : Int) + 1))) (.int .i64 ((i + 1 : Nat) : Int)) (fun w => by kernel_rfl) (int_eq (wrapAdd_i64 (a := i) (b := 1) (by omega))) (by kernel_rfl) ?_
    refine s_val (some 7) (.int .i64 ((i + 1 : Nat) : Int)) (fun w => by kernel_rfl) (by kernel_rfl) ?_
    refine s_nil ?_
    have hd : c + ((List.getD x i 0) * y) = c + List.getD x i 0 * y := by first | rfl | (rw [getD_over (l := x) (i := i) (by omega)]; omega)
    have hS2 := hS.next hx hy (by omega) _ hd
    have HD2 : St w.heap.size w w4 [(b_1, Obj.cells cur_3 3 (0, 0))] := H4.sub (List.Sublist.cons _ (List.Sublist.cons_cons _ List.Sublist.slnil))
    show ∃ m, _ ∧ _
    exact ⟨_, (by omega), b_1, cap_2, n + 1, cur_3, (l ++ [(c + ((List.getD x i 0) * y)) % 65536]), (i + 1), (c + ((List.getD x i 0) * y)) / 65536, rfl, (by rw [List.length_append, ← hn]; rfl), hr_4t, hS2, HD2, (Is.of ⟨(by kernel_rfl), (by kernel_rfl), (by kernel_rfl), (by kernel_rfl), (by kernel_rfl), (by kernel_rfl), trivial⟩)⟩
  · skip
    refine s_valE (some 13) (.bool (decide (((i : Nat) : Int) < ((List.length x : Nat) : Int)))) (.bool false) (fun w => by kernel_rfl) (bool_eq (decide_eq_false (by omega))) (by kernel_rfl) ?_
    refine s_val (some 14) (.bool false) (fun w => by kernel_rfl) (by kernel_rfl) ?_
    refine s_val (some 15) (.int .i64 ((c : Nat) : Int)) (fun w => by kernel_rfl) (by kernel_rfl) ?_
    by_cases hc3 : (c : Nat) > 0
    · skip
      refine s_valE (some 16) (.bool (decide (0 < ((c : Nat) : Int)))) (.bool true) (fun w => by kernel_rfl) (bool_eq (decide_eq_true (by omega))) (by kernel_rfl) ?_
      refine s_val (some 17) (.bool true) (fun w => by kernel_rfl) (by kernel_rfl) ?_
      refine s_nil ?_
      refine g_cond_t (by kernel_rfl) (by kernel_rfl) ?_
      refine g_skip (by kernel_rfl) ?_
      show WP _ _ _ _ _ _
      refine g_seq (by kernel_rfl) ?_
      refine g_block 1 (by kernel_rfl) ?_
      refine g_sreg [0, 1] (by kernel_rfl) (by kernel_rfl) ?_
      refine s_val (some 20) (.int .i64 ((c : Nat) : Int)) (fun w => by kernel_rfl) (by kernel_rfl) ?_
      refine s_val (some 8) (.int .i64 ((c : Nat) : Int)) (fun w => by kernel_rfl) (by kernel_rfl) ?_
      refine s_nil ?_
      refine g_seq (by kernel_rfl) ?_
      refine g_sreg [0, 1, 2, 3] (by kernel_rfl) (by kernel_rfl) ?_
      refine s_val (some 21) (.int .i64 ((i : Nat) : Int)) (fun w => by kernel_rfl) (by kernel_rfl) ?_
      refine s_val (some 22) (.slice (some ⟨ba, 0, none⟩) (List.length x) ca) (fun w => by kernel_rfl) (by kernel_rfl) ?_
      refine s_val (some 23) (.int .i64 ((List.length x : Nat) : Int)) (fun w => by kernel_rfl) (by kernel_rfl) ?_
      refine s_valE (some 24) (.bool (decide (((i : Nat) : Int) < ((List.length x : Nat) : Int)))) (.bool false) (fun w => by kernel_rfl) (bool_eq (decide_eq_false (by omega))) (by kernel_rfl) ?_
      refine s_nil ?_
      refine g_cond_f (by kernel_rfl) (by kernel_rfl) ?_
      refine g_skip (by kernel_rfl) ?_
      show WP _ _ _ _ _ _
      refine g_sreg [0, 1, 2, 3, 4, 5] (by kernel_rfl) (by kernel_rfl) ?_
      refine s_val (some 33) (.slice (some ⟨b, 0, none⟩) n cap) (fun w => by kernel_rfl) (by kernel_rfl) ?_
      refine s_val (some 34) (.int .i64 ((c : Nat) : Int)) (fun w => by kernel_rfl) (by kernel_rfl) ?_
      refine s_valE (some 35) (.int .i64 (Int.tmod ((c : Nat) : Int) 65536)) (.int .i64 ((c % 65536 : Nat) : Int)) (fun w => by kernel_rfl) (int_eq (remN c 65536)) (by kernel_rfl) ?_
      refine s_new H2 (some 36) (fun b => .slice (some ⟨b, 0, none⟩) 1 1) #[.int .i64 ((c % 65536 : Nat) : Int)] 3 (fun w => by kernel_rfl) (by kernel_rfl) ?_
      intro b3 w5 H5; clear H2
      refine s_append H5 (some 37) 39 3 1 8 (.tmp 33) (.tmp 36) 1 0 b b3 n 1 cap 1 cur #[.int .i64 ((c % 65536 : Nat) : Int)] 3 (0, 0) (cellsD l) ([.int .i64 ((c % 65536 : Nat) : Int)]) (fun b_5 cur_7 => [(b3, Obj.cells #[.int .i64 ((c % 65536 : Nat) : Int)] 3 (0, 0)), (b_5, Obj.cells cur_7 3 (0, 0))]) (by kernel_rfl) (by kernel_rfl) (by kernel_rfl) (by kernel_rfl) (by kernel_rfl) hr (by kernel_rfl) (by kernel_rfl) (by rfl) (by rfl) (by intro u hu; simp at hu; first | exact hu.elim | (rcases hu with rfl | rfl | rfl | rfl <;> rfl) | (rcases hu with rfl | rfl <;> rfl) | (subst hu; rfl)) (by omega) (by unfold maxLen; omega) (fun _ _ => by kernel_rfl) ?_
      intro b_5 cap_6 cur_7 w6 H6 hr_8; clear H5
      have hr_8t : Rw 1 cur_7 cap_6 (n + 1) (cellsD (l ++ [c % 65536])) := by rw [cellsD_append]; exact hr_8
      refine s_val (some 5) (.slice (some ⟨b_5, 0, none⟩) (n + 1) cap_6) (fun w => by kernel_rfl) (by kernel_rfl) ?_
      refine s_nil ?_
      refine g_reg0 [0, 1, 2] (by kernel_rfl) ?_
      refine s_val (some 38) (.int .i64 ((c : Nat) : Int)) (fun w => by kernel_rfl) (by kernel_rfl) ?_
      refine s_valE (some 39) (.int .i64 (IntKind.i64.wrap (((c : Nat) : Int).tdiv 65536))) (.int .i64 ((c / 65536 : Nat) : Int)) (fun w => by kernel_rfl) (int_eq (quoN_i64 (a := c) (b := 65536) (by omega))) (by kernel_rfl) ?_
      refine s_val (some 6) (.int .i64 ((c / 65536 : Nat) : Int)) (fun w => by kernel_rfl) (by kernel_rfl) ?_
      refine s_nil ?_
      show WP _ _ _ _ _ _
      refine g_reg0 [0, 1, 2] (by kernel_rfl) ?_
      refine s_val (some 18) (.int .i64 ((i : Nat) : Int)) (fun w => by kernel_rfl) (by kernel_rfl) ?_
      refine s_valE (some 19) (.int .i64 (IntKind.i64.wrap (((i : Nat) : Int) + 1))) (.int .i64 ((i + 1 : Nat) : Int)) (fun w => by kernel_rfl) (int_eq (wrapAdd_i64 (a := i) (b := 1) (by omega))) (by kernel_rfl) ?_
      refine s_val (some 7) (.int .i64 ((i + 1 : Nat) : Int)) (fun w => by kernel_rfl) (by kernel_rfl) ?_
      refine s_nil ?_
      have hd : c = c + List.getD x i 0 * y := by first | rfl | (rw [getD_over (l := x) (i := i) (by omega)]; omega)
      have hS2 := hS.next hx hy (by omega) _ hd
      have HD4 : St w.heap.size w w6 [(b_5, Obj.cells cur_7 3 (0, 0))] := H6.sub (List.Sublist.cons _ (List.Sublist.cons_cons _ List.Sublist.slnil))
      show ∃ m, _ ∧ _
      exact ⟨_, (by omega), b_5, cap_6, n + 1, cur_7, (l ++ [c % 65536]), (i + 1), c / 65536, rfl, (by rw [List.length_append, ← hn]; rfl), hr_8t, hS2, HD4, (Is.of ⟨(by kernel_rfl), (by kernel_rfl), (by kernel_rfl), (by kernel_rfl), (by kernel_rfl), (by kernel_rfl), trivial⟩)⟩
    · skip
      refine s_valE (some 16) (.bool (decide (0 < ((c : Nat) : Int)))) (.bool false) (fun w => by kernel_rfl) (bool_eq (decide_eq_false (by omega))) (by kernel_rfl) ?_
      refine s_val (some 17) (.bool false) (fun w => by kernel_rfl) (by kernel_rfl) ?_
      refine s_nil ?_
      refine g_cond_f (by kernel_rfl) (by kernel_rfl) ?_
      refine g_exit 0 (by kernel_rfl) ?_
      show WP _ _ _ _ _ _
      refine g_sreg [0, 1] (by kernel_rfl) (by kernel_rfl) ?_
      refine s_val (some 40) (.slice (some ⟨b, 0, none⟩) n cap) (fun w => by kernel_rfl) (by kernel_rfl) ?_
      refine s_val (some 4) (.slice (some ⟨b, 0, none⟩) n cap) (fun w => by kernel_rfl) (by kernel_rfl) ?_
      refine s_nil ?_
      refine g_ret (by kernel_rfl) ?_
      show ∃ vs, Res _ _ _ _ vs ∧ _
      refine ⟨[.slice (some ⟨b, 0, none⟩) n cap], (.tmp (.slice (some ⟨b, 0, none⟩) n cap) (by kernel_rfl) .nil), H2.below, ?_⟩
      exact ⟨b, cap, _, _, l, rfl, H2.ge 0 (o := .cells cur 3 (0, 0)) (by kernel_rfl), H2.get 0 (by kernel_rfl), hn, hr, hS.ok, hS.done (by omega) (by omega), by have := hS.len; have := hS.top; omega⟩
end Go.Proofs.YtjhldipeicpoeaaDoor
