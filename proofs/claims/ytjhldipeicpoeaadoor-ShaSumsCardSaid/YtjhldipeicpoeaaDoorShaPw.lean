/-
  The reference: powers.
-/
import Derived.Test.YtjhldipeicpoeaaDoorProg
import Derived.Test.YtjhldipeicpoeaaDoorShaM
import Derived.Test.YtjhldipeicpoeaaDoorShaP
namespace Go.Proofs.YtjhldipeicpoeaaDoor
open Go Go.RowKit Go.Proofs.Sha
set_option linter.unusedVariables false
set_option maxRecDepth 100000 in
set_option maxHeartbeats 2000000 in
theorem power_fn (N : Nat) (hN : N < 281474976710656) (o : Nat) (ho : o ≤ 3) : FnR Tryd.prog 25 #[.int .u64 ((N : Nat) : Int), .int .i64 ((o : Nat) : Int)] (fun _ => True) (RetS 3 1 (fun cur cap n l => (n = List.length l ∧ Rw 1 cur cap n (cellsD l) ∧ Ok l ∧ (vl l = N ^ o ∧ List.length l = 1 + 4 * o)))) := by
  refine FnR.intro (c := codeOf Tryd.f25) [.tmp 4] 102 Tryd.func25 (by kernel_rfl) (by kernel_rfl) (by kernel_rfl) fun w hpre => ?_
  have H0 := St.start w
  refine g_sreg [0] (by kernel_rfl) (by kernel_rfl) ?_
  refine s_val (some 4) (.slice none 0 0) (fun w => by kernel_rfl) (by kernel_rfl) ?_
  refine s_nil ?_
  refine g_sreg [0, 1] (by kernel_rfl) (by kernel_rfl) ?_
  refine s_new H0 (some 17) (fun b => .slice (some ⟨b, 0, none⟩) 1 1) #[.int .i64 1] 3 (fun w => by kernel_rfl) (by kernel_rfl) ?_
  intro b1 w1 H1; clear H0
  refine s_val (some 5) (.slice (some ⟨b1, 0, none⟩) 1 1) (fun w => by kernel_rfl) (by kernel_rfl) ?_
  refine s_nil ?_
  refine g_sreg [0, 1, 2, 3] (by kernel_rfl) (by kernel_rfl) ?_
  refine s_val (some 18) (.int .u64 ((N : Nat) : Int)) (fun w => by kernel_rfl) (by kernel_rfl) ?_
  refine s_valE (some 19) (.int .u64 (Int.tmod ((N : Nat) : Int) 65536)) (.int .u64 ((N % 65536 : Nat) : Int)) (fun w => by kernel_rfl) (int_eq (remN N 65536)) (by kernel_rfl) ?_
  refine s_valE (some 20) (.int .i64 (IntKind.i64.wrap (((N % 65536 : Nat) : Int)))) (.int .i64 ((N % 65536 : Nat) : Int)) (fun w => by kernel_rfl) (int_eq (wrapN_i64 (a := N % 65536) (by omega))) (by kernel_rfl) ?_
  refine s_val (some 6) (.int .i64 ((N % 65536 : Nat) : Int)) (fun w => by kernel_rfl) (by kernel_rfl) ?_
  refine s_nil ?_
  refine g_sreg [0, 1, 2, 3, 4] (by kernel_rfl) (by kernel_rfl) ?_
  refine s_val (some 21) (.int .u64 ((N : Nat) : Int)) (fun w => by kernel_rfl) (by kernel_rfl) ?_
  refine s_valE (some 22) (.int .u64 (IntKind.u64.wrap (((N : Nat) : Int).tdiv 65536))) (.int .u64 ((N / 65536 : Nat) : Int)) (fun w => by kernel_rfl) (int_eq (quoN_u64 (a := N) (b := 65536) (by omega))) (by kernel_rfl) ?_
  refine s_valE (some 23) (.int .u64 (Int.tmod ((N / 65536 : Nat) : Int) 65536)) (.int .u64 (((N / 65536) % 65536 : Nat) : Int)) (fun w => by kernel_rfl) (int_eq (remN (N / 65536) 65536)) (by kernel_rfl) ?_
  refine s_valE (some 24) (.int .i64 (IntKind.i64.wrap ((((N / 65536) % 65536 : Nat) : Int)))) (.int .i64 (((N / 65536) % 65536 : Nat) : Int)) (fun w => by kernel_rfl) (int_eq (wrapN_i64 (a := (N / 65536) % 65536) (by omega))) (by kernel_rfl) ?_
  refine s_val (some 7) (.int .i64 (((N / 65536) % 65536 : Nat) : Int)) (fun w => by kernel_rfl) (by kernel_rfl) ?_
  refine s_nil ?_
  refine g_sreg [0, 1, 2, 3] (by kernel_rfl) (by kernel_rfl) ?_
  refine s_val (some 25) (.int .u64 ((N : Nat) : Int)) (fun w => by kernel_rfl) (by kernel_rfl) ?_
  refine s_valE (some 26) (.int .u64 (IntKind.u64.wrap (((N : Nat) : Int).tdiv 4294967296))) (.int .u64 ((N / 4294967296 : Nat) : Int)) (fun w => by kernel_rfl) (int_eq (quoN_u64 (a := N) (b := 4294967296) (by omega))) (by kernel_rfl) ?_
  refine s_valE (some 27) (.int .i64 (IntKind.i64.wrap (((N / 4294967296 : Nat) : Int)))) (.int .i64 ((N / 4294967296 : Nat) : Int)) (fun w => by kernel_rfl) (int_eq (wrapN_i64 (a := N / 4294967296) (by omega))) (by kernel_rfl) ?_
  refine s_val (some 8) (.int .i64 ((N / 4294967296 : Nat) : Int)) (fun w => by kernel_rfl) (by kernel_rfl) ?_
  refine s_nil ?_
  refine g_seq (by kernel_rfl) ?_
  refine g_sreg [0] (by kernel_rfl) (by kernel_rfl) ?_
  refine s_val (some 9) (.int .i64 0) (fun w => by kernel_rfl) (by kernel_rfl) ?_
  refine s_nil ?_
  refine g_block 0 (by kernel_rfl) ?_
  refine g_loop (by kernel_rfl) (fun mz ρ ww => ∃ (b : Nat) (cap : Nat) (n : Nat) (cur : Array Value) (l : List Nat) (i : Nat), o - i = mz ∧ (n = List.length l) ∧ (Rw 1 cur cap n (cellsD l)) ∧ (Ok l) ∧ (i ≤ o) ∧ (List.length l = 1 + 4 * i) ∧ (vl l = N ^ i) ∧ St w.heap.size w ww [(b, Obj.cells cur 3 (0, 0))] ∧ Is [(0, .int .u64 ((N : Nat) : Int)), (1, .int .i64 ((o : Nat) : Int)), (4, .slice none 0 0), (5, .slice (some ⟨b, 0, none⟩) n cap), (6, .int .i64 ((N % 65536 : Nat) : Int)), (7, .int .i64 (((N / 65536) % 65536 : Nat) : Int)), (8, .int .i64 ((N / 4294967296 : Nat) : Int)), (9, .int .i64 ((i : Nat) : Int))] ρ) (o - 0) ⟨b1, 1, 1, #[.int .i64 1], [1], 0, rfl, rfl, (Rw.lit #[.int .i64 1] 1 rfl (by unfold maxLen; omega)), (by intro d hd; simp at hd; omega), (by omega), rfl, rfl, H1, (Is.of ⟨(by kernel_rfl), (by kernel_rfl), (by kernel_rfl), (by kernel_rfl), (by kernel_rfl), (by kernel_rfl), (by kernel_rfl), (by kernel_rfl), trivial⟩)⟩ ?_
  clear H1
  rintro _ _ w2 ⟨b, cap, n, cur, l, i, rfl, hn, hr, hok, hi, hll, hv, H2, _, rfl⟩
  refine g_seq (by kernel_rfl) ?_
  refine g_sreg [0, 1, 2] (by kernel_rfl) (by kernel_rfl) ?_
  refine s_val (some 28) (.int .i64 ((i : Nat) : Int)) (fun w => by kernel_rfl) (by kernel_rfl) ?_
  refine s_val (some 29) (.int .i64 ((o : Nat) : Int)) (fun w => by kernel_rfl) (by kernel_rfl) ?_
  by_cases hc1 : (i : Nat) < o
  · skip
    refine s_valE (some 30) (.bool (decide (((i : Nat) : Int) < ((o : Nat) : Int)))) (.bool true) (fun w => by kernel_rfl) (bool_eq (decide_eq_true (by omega))) (by kernel_rfl) ?_
    refine s_nil ?_
    refine g_cond_t (by kernel_rfl) (by kernel_rfl) ?_
    refine g_skip (by kernel_rfl) ?_
    show WP _ _ _ _ _ _
    refine g_seq (by kernel_rfl) ?_
    refine g_block 1 (by kernel_rfl) ?_
    refine g_sreg [0, 1, 2, 3] (by kernel_rfl) (by kernel_rfl) ?_
    refine s_val (some 33) (.slice (some ⟨b, 0, none⟩) n cap) (fun w => by kernel_rfl) (by kernel_rfl) ?_
    refine s_val (some 34) (.int .i64 ((N % 65536 : Nat) : Int)) (fun w => by kernel_rfl) (by kernel_rfl) ?_
    refine s_callS H2 (some 35) 28 #[.slice (some ⟨b, 0, none⟩) n cap, .int .i64 ((N % 65536 : Nat) : Int)] (fun w => w.heap[b]? = some (.cells cur 3 (0, 0))) 3 1 (fun curZ capZ nZ lZ => (nZ = List.length lZ ∧ Rw 1 curZ capZ nZ (cellsD lZ) ∧ Ok lZ ∧ (vl lZ = vl l * (N % 65536) ∧ List.length lZ ≤ List.length l + 1))) (times_fn l b n cap cur hn hr hok (by omega) (N % 65536) (by omega)) (H2.get 0 (by kernel_rfl)) (by kernel_rfl) (by kernel_rfl) ?_
    intro b_1 cap_2 n_3 cur_4 l_5 w3 H3 hs_6; clear H2
    obtain ⟨hs_6n, hs_6r, hs_6o, hs_6s⟩ := hs_6
    refine s_val (some 10) (.slice (some ⟨b_1, 0, none⟩) n_3 cap_2) (fun w => by kernel_rfl) (by kernel_rfl) ?_
    refine s_nil ?_
    refine g_sreg [0, 1, 2, 3] (by kernel_rfl) (by kernel_rfl) ?_
    refine s_val (some 36) (.slice (some ⟨b, 0, none⟩) n cap) (fun w => by kernel_rfl) (by kernel_rfl) ?_
    refine s_val (some 37) (.int .i64 (((N / 65536) % 65536 : Nat) : Int)) (fun w => by kernel_rfl) (by kernel_rfl) ?_
    refine s_callS H3 (some 38) 28 #[.slice (some ⟨b, 0, none⟩) n cap, .int .i64 (((N / 65536) % 65536 : Nat) : Int)] (fun w => w.heap[b]? = some (.cells cur 3 (0, 0))) 3 1 (fun curZ capZ nZ lZ => (nZ = List.length lZ ∧ Rw 1 curZ capZ nZ (cellsD lZ) ∧ Ok lZ ∧ (vl lZ = vl l * ((N / 65536) % 65536) ∧ List.length lZ ≤ List.length l + 1))) (times_fn l b n cap cur hn hr hok (by omega) ((N / 65536) % 65536) (by omega)) (H3.get 1 (by kernel_rfl)) (by kernel_rfl) (by kernel_rfl) ?_
    intro b_7 cap_8 n_9 cur_10 l_11 w4 H4 hs_12; clear H3
    obtain ⟨hs_12n, hs_12r, hs_12o, hs_12s⟩ := hs_12
    refine s_val (some 11) (.slice (some ⟨b_7, 0, none⟩) n_9 cap_8) (fun w => by kernel_rfl) (by kernel_rfl) ?_
    refine s_nil ?_
    refine g_sreg [0, 1, 2, 3] (by kernel_rfl) (by kernel_rfl) ?_
    refine s_val (some 39) (.slice (some ⟨b, 0, none⟩) n cap) (fun w => by kernel_rfl) (by kernel_rfl) ?_
    refine s_val (some 40) (.int .i64 ((N / 4294967296 : Nat) : Int)) (fun w => by kernel_rfl) (by kernel_rfl) ?_
    refine s_callS H4 (some 41) 28 #[.slice (some ⟨b, 0, none⟩) n cap, .int .i64 ((N / 4294967296 : Nat) : Int)] (fun w => w.heap[b]? = some (.cells cur 3 (0, 0))) 3 1 (fun curZ capZ nZ lZ => (nZ = List.length lZ ∧ Rw 1 curZ capZ nZ (cellsD lZ) ∧ Ok lZ ∧ (vl lZ = vl l * (N / 4294967296) ∧ List.length lZ ≤ List.length l + 1))) (times_fn l b n cap cur hn hr hok (by omega) (N / 4294967296) (by omega)) (H4.get 2 (by kernel_rfl)) (by kernel_rfl) (by kernel_rfl) ?_
    intro b_13 cap_14 n_15 cur_16 l_17 w5 H5 hs_18; clear H4
    obtain ⟨hs_18n, hs_18r, hs_18o, hs_18s⟩ := hs_18
    refine s_val (some 12) (.slice (some ⟨b_13, 0, none⟩) n_15 cap_14) (fun w => by kernel_rfl) (by kernel_rfl) ?_
    refine s_nil ?_
    refine g_sreg [0, 1] (by kernel_rfl) (by kernel_rfl) ?_
    refine s_new H5 (some 42) (fun b => .slice (some ⟨b, 0, none⟩) 0 0) #[] 3 (fun w => by kernel_rfl) (by kernel_rfl) ?_
    intro b2 w6 H6; clear H5
    refine s_val (some 13) (.slice (some ⟨b2, 0, none⟩) 0 0) (fun w => by kernel_rfl) (by kernel_rfl) ?_
    refine s_nil ?_
    refine g_sreg [0] (by kernel_rfl) (by kernel_rfl) ?_
    refine s_val (some 14) (.int .i64 0) (fun w => by kernel_rfl) (by kernel_rfl) ?_
    refine s_nil ?_
    refine g_seq (by kernel_rfl) ?_
    refine g_sreg [0] (by kernel_rfl) (by kernel_rfl) ?_
    refine s_val (some 15) (.int .i64 0) (fun w => by kernel_rfl) (by kernel_rfl) ?_
    refine s_nil ?_
    refine g_block 2 (by kernel_rfl) ?_
    have HF2 : St w.heap.size w w6 [(b_13, Obj.cells cur_16 3 (0, 0)), (b2, Obj.cells #[] 3 (0, 0)), (b_7, Obj.cells cur_10 3 (0, 0)), (b_1, Obj.cells cur_4 3 (0, 0)), (b, Obj.cells cur 3 (0, 0))] := H6.front 1 (by kernel_rfl) (by kernel_rfl)
    have HF3 : St w.heap.size w w6 [(b_7, Obj.cells cur_10 3 (0, 0)), (b_13, Obj.cells cur_16 3 (0, 0)), (b2, Obj.cells #[] 3 (0, 0)), (b_1, Obj.cells cur_4 3 (0, 0)), (b, Obj.cells cur 3 (0, 0))] := HF2.front 2 (by kernel_rfl) (by kernel_rfl)
    have HF4 : St w.heap.size w w6 [(b_1, Obj.cells cur_4 3 (0, 0)), (b_7, Obj.cells cur_10 3 (0, 0)), (b_13, Obj.cells cur_16 3 (0, 0)), (b2, Obj.cells #[] 3 (0, 0)), (b, Obj.cells cur 3 (0, 0))] := HF3.front 3 (by kernel_rfl) (by kernel_rfl)
    have HF5 : St w.heap.size w w6 [(b, Obj.cells cur 3 (0, 0)), (b_1, Obj.cells cur_4 3 (0, 0)), (b_7, Obj.cells cur_10 3 (0, 0)), (b_13, Obj.cells cur_16 3 (0, 0)), (b2, Obj.cells #[] 3 (0, 0))] := HF4.front 4 (by kernel_rfl) (by kernel_rfl)
    have HF6 : St w.heap.size w w6 [(b2, Obj.cells #[] 3 (0, 0)), (b, Obj.cells cur 3 (0, 0)), (b_1, Obj.cells cur_4 3 (0, 0)), (b_7, Obj.cells cur_10 3 (0, 0)), (b_13, Obj.cells cur_16 3 (0, 0))] := HF5.front 4 (by kernel_rfl) (by kernel_rfl)
    refine g_loop (by kernel_rfl) (fun mz ρ ww => ∃ (b2 : Nat) (cap2 : Nat) (n2 : Nat) (cur2 : Array Value) (l2 : List Nat) (k : Nat) (q : Nat), n + 4 - k = mz ∧ (n2 = List.length l2) ∧ (Rw 1 cur2 cap2 n2 (cellsD l2)) ∧ (k ≤ n + 4) ∧ (PowI l_5 l_11 l_17 l2 k q) ∧ St w.heap.size w ww [(b2, Obj.cells cur2 3 (0, 0)), (b, Obj.cells cur 3 (0, 0)), (b_1, Obj.cells cur_4 3 (0, 0)), (b_7, Obj.cells cur_10 3 (0, 0)), (b_13, Obj.cells cur_16 3 (0, 0))] ∧ Is [(0, .int .u64 ((N : Nat) : Int)), (1, .int .i64 ((o : Nat) : Int)), (4, .slice none 0 0), (5, .slice (some ⟨b, 0, none⟩) n cap), (6, .int .i64 ((N % 65536 : Nat) : Int)), (7, .int .i64 (((N / 65536) % 65536 : Nat) : Int)), (8, .int .i64 ((N / 4294967296 : Nat) : Int)), (9, .int .i64 ((i : Nat) : Int)), (10, .slice (some ⟨b_1, 0, none⟩) n_3 cap_2), (11, .slice (some ⟨b_7, 0, none⟩) n_9 cap_8), (12, .slice (some ⟨b_13, 0, none⟩) n_15 cap_14), (13, .slice (some ⟨b2, 0, none⟩) n2 cap2), (14, .int .i64 ((q : Nat) : Int)), (15, .int .i64 ((k : Nat) : Int)), (30, .bool true)] ρ) (n + 4 - 0) ⟨b2, 0, 0, #[], [], 0, 0, rfl, rfl, (Rw.lit #[] 0 rfl (by unfold maxLen; omega)), (by omega), (PowI.start l_5 l_11 l_17), HF6, (Is.of ⟨(by kernel_rfl), (by kernel_rfl), (by kernel_rfl), (by kernel_rfl), (by kernel_rfl), (by kernel_rfl), (by kernel_rfl), (by kernel_rfl), (by kernel_rfl), (by kernel_rfl), (by kernel_rfl), (by kernel_rfl), (by kernel_rfl), (by kernel_rfl), (by kernel_rfl), trivial⟩)⟩ ?_
    clear HF6
    rintro _ _ w7 ⟨b2, cap2, n2, cur2, l2, k, q, rfl, hn2, hr2, hk, hD, H7, _, rfl⟩
    have hcw := hD.cw; have hlen2 := hD.len; have ea := ok_getD hs_6o k; have eb := ok_getD hs_12o (k - 1); have ec := ok_getD hs_18o (k - 2); have c1 := cons1 l_11 k; have c2 := cons2 l_17 k
    have zl_5 : ¬ k < List.length l_5 → List.getD l_5 (k) 0 = 0 := fun h => getD_over h
    have zl_11 : ¬ k - 1 < List.length l_11 → List.getD l_11 (k - 1) 0 = 0 := fun h => getD_over h
    have zl_17 : ¬ k - 2 < List.length l_17 → List.getD l_17 (k - 2) 0 = 0 := fun h => getD_over h
    refine g_seq (by kernel_rfl) ?_
    refine g_sreg [0, 1, 2, 3, 4] (by kernel_rfl) (by kernel_rfl) ?_
    refine s_val (some 43) (.int .i64 ((k : Nat) : Int)) (fun w => by kernel_rfl) (by kernel_rfl) ?_
    refine s_val (some 44) (.slice (some ⟨b, 0, none⟩) n cap) (fun w => by kernel_rfl) (by kernel_rfl) ?_
    refine s_val (some 45) (.int .i64 ((n : Nat) : Int)) (fun w => by kernel_rfl) (by kernel_rfl) ?_
    refine s_valE (some 46) (.int .i64 (IntKind.i64.wrap (((n : Nat) : Int) + 4))) (.int .i64 ((n + 4 : Nat) : Int)) (fun w => by kernel_rfl) (int_eq (wrapAdd_i64 (a := n) (b := 4) (by omega))) (by kernel_rfl) ?_
    by_cases hc7 : (k : Nat) < n + 4
    · skip
      refine s_valE (some 47) (.bool (decide (((k : Nat) : Int) < ((n + 4 : Nat) : Int)))) (.bool true) (fun w => by kernel_rfl) (bool_eq (decide_eq_true (by omega))) (by kernel_rfl) ?_
      refine s_nil ?_
      refine g_cond_t (by kernel_rfl) (by kernel_rfl) ?_
      refine g_skip (by kernel_rfl) ?_
      show WP _ _ _ _ _ _
      refine g_seq (by kernel_rfl) ?_
      refine g_block 3 (by kernel_rfl) ?_
      refine g_sreg [0, 1] (by kernel_rfl) (by kernel_rfl) ?_
      refine s_val (some 50) (.int .i64 ((q : Nat) : Int)) (fun w => by kernel_rfl) (by kernel_rfl) ?_
      refine s_val (some 16) (.int .i64 ((q : Nat) : Int)) (fun w => by kernel_rfl) (by kernel_rfl) ?_
      refine s_nil ?_
      refine g_seq (by kernel_rfl) ?_
      refine g_sreg [0, 1, 2, 3] (by kernel_rfl) (by kernel_rfl) ?_
      refine s_val (some 51) (.int .i64 ((k : Nat) : Int)) (fun w => by kernel_rfl) (by kernel_rfl) ?_
      refine s_val (some 52) (.slice (some ⟨b_1, 0, none⟩) n_3 cap_2) (fun w => by kernel_rfl) (by kernel_rfl) ?_
      refine s_val (some 53) (.int .i64 ((n_3 : Nat) : Int)) (fun w => by kernel_rfl) (by kernel_rfl) ?_
      by_cases hc8 : (k : Nat) < n_3
      · skip
        refine s_valE (some 54) (.bool (decide (((k : Nat) : Int) < ((n_3 : Nat) : Int)))) (.bool true) (fun w => by kernel_rfl) (bool_eq (decide_eq_true (by omega))) (by kernel_rfl) ?_
        refine s_nil ?_
        refine g_cond_t (by kernel_rfl) (by kernel_rfl) ?_
        refine g_reg0 [0, 1, 2, 3, 4, 5, 6] (by kernel_rfl) ?_
        refine s_val (some 55) (.int .i64 ((q : Nat) : Int)) (fun w => by kernel_rfl) (by kernel_rfl) ?_
        refine s_val (some 56) (.slice (some ⟨b_1, 0, none⟩) n_3 cap_2) (fun w => by kernel_rfl) (by kernel_rfl) ?_
        refine s_val (some 57) (.int .i64 ((k : Nat) : Int)) (fun w => by kernel_rfl) (by kernel_rfl) ?_
        refine s_op (some 58) _ (.pointer (some ⟨b_1, 0 + k * 1, none⟩)) (by kernel_rfl) (by kernel_rfl) (fun o w ho => idxS_run (kd := .i64) (t := 39) (e := 3) (size := 1) (bytes := 8) (by kernel_rfl) (x := (.tmp 56)) (y := (.tmp 57)) b_1 0 n_3 cap_2 k ho (by kernel_rfl) (by kernel_rfl) (by omega) w) ?_
        refine s_load1 H7 (some 59) 3 (.tmp 58) 2 b_1 (0 + k * 1) cur_4 3 (0, 0) (.int .i64 ((List.getD l_5 k 0 : Nat) : Int)) (by kernel_rfl) (by kernel_rfl) (by kernel_rfl) (by kernel_rfl) (by kernel_rfl) (hs_6r.atD (by omega) hs_6n) ?_
        refine s_valE (some 60) (.int .i64 (IntKind.i64.wrap (((q : Nat) : Int) + ((List.getD l_5 k 0 : Nat) : Int)))) (.int .i64 ((q + (List.getD l_5 k 0) : Nat) : Int)) (fun w => by kernel_rfl) (int_eq (wrapAdd_i64 (a := q) (b := List.getD l_5 k 0) (by omega))) (by kernel_rfl) ?_
        refine s_val (some 16) (.int .i64 ((q + (List.getD l_5 k 0) : Nat) : Int)) (fun w => by kernel_rfl) (by kernel_rfl) ?_
        refine s_nil ?_
        show WP _ _ _ _ _ _
        refine g_seq (by kernel_rfl) ?_
        refine g_sreg [0, 1, 2, 3, 4, 5, 6, 7, 8] (by kernel_rfl) (by kernel_rfl) ?_
        refine s_val (some 61) (.int .i64 ((k : Nat) : Int)) (fun w => by kernel_rfl) (by kernel_rfl) ?_
        by_cases hc9 : (k : Nat) ≥ 1
        · skip
          refine s_valE (some 62) (.bool (decide (1 ≤ ((k : Nat) : Int)))) (.bool true) (fun w => by kernel_rfl) (bool_eq (decide_eq_true (by omega))) (by kernel_rfl) ?_
          refine s_val (some 63) (.bool true) (fun w => by kernel_rfl) (by kernel_rfl) ?_
          refine s_val (some 64) (.int .i64 ((k : Nat) : Int)) (fun w => by kernel_rfl) (by kernel_rfl) ?_
          refine s_valE (some 65) (.int .i64 (IntKind.i64.wrap (((k : Nat) : Int) - 1))) (.int .i64 ((k - 1 : Nat) : Int)) (fun w => by kernel_rfl) (int_eq (wrapSub_i64 (a := k) (b := 1) (by omega))) (by kernel_rfl) ?_
          refine s_val (some 66) (.slice (some ⟨b_7, 0, none⟩) n_9 cap_8) (fun w => by kernel_rfl) (by kernel_rfl) ?_
          refine s_val (some 67) (.int .i64 ((n_9 : Nat) : Int)) (fun w => by kernel_rfl) (by kernel_rfl) ?_
          by_cases hc10 : (k - 1 : Nat) < n_9
          · skip
            refine s_valE (some 68) (.bool (decide (((k - 1 : Nat) : Int) < ((n_9 : Nat) : Int)))) (.bool true) (fun w => by kernel_rfl) (bool_eq (decide_eq_true (by omega))) (by kernel_rfl) ?_
            refine s_val (some 69) (.bool true) (fun w => by kernel_rfl) (by kernel_rfl) ?_
            refine s_nil ?_
            refine g_cond_t (by kernel_rfl) (by kernel_rfl) ?_
            refine g_reg0 [0, 1, 2, 3, 4, 5, 6, 7] (by kernel_rfl) ?_
            refine s_val (some 70) (.int .i64 ((q + (List.getD l_5 k 0) : Nat) : Int)) (fun w => by kernel_rfl) (by kernel_rfl) ?_
            refine s_val (some 71) (.slice (some ⟨b_7, 0, none⟩) n_9 cap_8) (fun w => by kernel_rfl) (by kernel_rfl) ?_
            refine s_val (some 72) (.int .i64 ((k : Nat) : Int)) (fun w => by kernel_rfl) (by kernel_rfl) ?_
            refine s_valE (some 73) (.int .i64 (IntKind.i64.wrap (((k : Nat) : Int) - 1))) (.int .i64 ((k - 1 : Nat) : Int)) (fun w => by kernel_rfl) (int_eq (wrapSub_i64 (a := k) (b := 1) (by omega))) (by kernel_rfl) ?_
            refine s_op (some 74) _ (.pointer (some ⟨b_7, 0 + (k - 1) * 1, none⟩)) (by kernel_rfl) (by kernel_rfl) (fun o w ho => idxS_run (kd := .i64) (t := 39) (e := 3) (size := 1) (bytes := 8) (by kernel_rfl) (x := (.tmp 71)) (y := (.tmp 73)) b_7 0 n_9 cap_8 (k - 1) ho (by kernel_rfl) (by kernel_rfl) (by omega) w) ?_
            refine s_load1 H7 (some 75) 3 (.tmp 74) 3 b_7 (0 + (k - 1) * 1) cur_10 3 (0, 0) (.int .i64 ((List.getD l_11 (k - 1) 0 : Nat) : Int)) (by kernel_rfl) (by kernel_rfl) (by kernel_rfl) (by kernel_rfl) (by kernel_rfl) (hs_12r.atD (by omega) hs_12n) ?_
            refine s_valE (some 76) (.int .i64 (IntKind.i64.wrap (((q + (List.getD l_5 k 0) : Nat) : Int) + ((List.getD l_11 (k - 1) 0 : Nat) : Int)))) (.int .i64 (((q + (List.getD l_5 k 0)) + (List.getD l_11 (k - 1) 0) : Nat) : Int)) (fun w => by kernel_rfl) (int_eq (wrapAdd_i64 (a := q + (List.getD l_5 k 0)) (b := List.getD l_11 (k - 1) 0) (by omega))) (by kernel_rfl) ?_
            refine s_val (some 16) (.int .i64 (((q + (List.getD l_5 k 0)) + (List.getD l_11 (k - 1) 0) : Nat) : Int)) (fun w => by kernel_rfl) (by kernel_rfl) ?_
            refine s_nil ?_
            show WP _ _ _ _ _ _
            refine g_seq (by kernel_rfl) ?_
            refine g_sreg [0, 1, 2, 3, 4, 5, 6, 7, 8] (by kernel_rfl) (by kernel_rfl) ?_
            refine s_val (some 77) (.int .i64 ((k : Nat) : Int)) (fun w => by kernel_rfl) (by kernel_rfl) ?_
            by_cases hc11 : (k : Nat) ≥ 2
            · skip
              refine s_valE (some 78) (.bool (decide (2 ≤ ((k : Nat) : Int)))) (.bool true) (fun w => by kernel_rfl) (bool_eq (decide_eq_true (by omega))) (by kernel_rfl) ?_
              refine s_val (some 79) (.bool true) (fun w => by kernel_rfl) (by kernel_rfl) ?_
              refine s_val (some 80) (.int .i64 ((k : Nat) : Int)) (fun w => by kernel_rfl) (by kernel_rfl) ?_
              refine s_valE (some 81) (.int .i64 (IntKind.i64.wrap (((k : Nat) : Int) - 2))) (.int .i64 ((k - 2 : Nat) : Int)) (fun w => by kernel_rfl) (int_eq (wrapSub_i64 (a := k) (b := 2) (by omega))) (by kernel_rfl) ?_
              refine s_val (some 82) (.slice (some ⟨b_13, 0, none⟩) n_15 cap_14) (fun w => by kernel_rfl) (by kernel_rfl) ?_
              refine s_val (some 83) (.int .i64 ((n_15 : Nat) : Int)) (fun w => by kernel_rfl) (by kernel_rfl) ?_
              by_cases hc12 : (k - 2 : Nat) < n_15
              · skip
                refine s_valE (some 84) (.bool (decide (((k - 2 : Nat) : Int) < ((n_15 : Nat) : Int)))) (.bool true) (fun w => by kernel_rfl) (bool_eq (decide_eq_true (by omega))) (by kernel_rfl) ?_
                refine s_val (some 85) (.bool true) (fun w => by kernel_rfl) (by kernel_rfl) ?_
                refine s_nil ?_
                refine g_cond_t (by kernel_rfl) (by kernel_rfl) ?_
                refine g_reg0 [0, 1, 2, 3, 4, 5, 6, 7] (by kernel_rfl) ?_
                refine s_val (some 86) (.int .i64 (((q + (List.getD l_5 k 0)) + (List.getD l_11 (k - 1) 0) : Nat) : Int)) (fun w => by kernel_rfl) (by kernel_rfl) ?_
                refine s_val (some 87) (.slice (some ⟨b_13, 0, none⟩) n_15 cap_14) (fun w => by kernel_rfl) (by kernel_rfl) ?_
                refine s_val (some 88) (.int .i64 ((k : Nat) : Int)) (fun w => by kernel_rfl) (by kernel_rfl) ?_
                refine s_valE (some 89) (.int .i64 (IntKind.i64.wrap (((k : Nat) : Int) - 2))) (.int .i64 ((k - 2 : Nat) : Int)) (fun w => by kernel_rfl) (int_eq (wrapSub_i64 (a := k) (b := 2) (by omega))) (by kernel_rfl) ?_
                refine s_op (some 90) _ (.pointer (some ⟨b_13, 0 + (k - 2) * 1, none⟩)) (by kernel_rfl) (by kernel_rfl) (fun o w ho => idxS_run (kd := .i64) (t := 39) (e := 3) (size := 1) (bytes := 8) (by kernel_rfl) (x := (.tmp 87)) (y := (.tmp 89)) b_13 0 n_15 cap_14 (k - 2) ho (by kernel_rfl) (by kernel_rfl) (by omega) w) ?_
                refine s_load1 H7 (some 91) 3 (.tmp 90) 4 b_13 (0 + (k - 2) * 1) cur_16 3 (0, 0) (.int .i64 ((List.getD l_17 (k - 2) 0 : Nat) : Int)) (by kernel_rfl) (by kernel_rfl) (by kernel_rfl) (by kernel_rfl) (by kernel_rfl) (hs_18r.atD (by omega) hs_18n) ?_
                refine s_valE (some 92) (.int .i64 (IntKind.i64.wrap ((((q + (List.getD l_5 k 0)) + (List.getD l_11 (k - 1) 0) : Nat) : Int) + ((List.getD l_17 (k - 2) 0 : Nat) : Int)))) (.int .i64 ((((q + (List.getD l_5 k 0)) + (List.getD l_11 (k - 1) 0)) + (List.getD l_17 (k - 2) 0) : Nat) : Int)) (fun w => by kernel_rfl) (int_eq (wrapAdd_i64 (a := (q + (List.getD l_5 k 0)) + (List.getD l_11 (k - 1) 0)) (b := List.getD l_17 (k - 2) 0) (by omega))) (by kernel_rfl) ?_
                refine s_val (some 16) (.int .i64 ((((q + (List.getD l_5 k 0)) + (List.getD l_11 (k - 1) 0)) + (List.getD l_17 (k - 2) 0) : Nat) : Int)) (fun w => by kernel_rfl) (by kernel_rfl) ?_
                refine s_nil ?_
                show WP _ _ _ _ _ _
                refine g_sreg [0, 1, 2, 3, 4, 5] (by kernel_rfl) (by kernel_rfl) ?_
                refine s_val (some 93) (.slice (some ⟨b2, 0, none⟩) n2 cap2) (fun w => by kernel_rfl) (by kernel_rfl) ?_
                refine s_val (some 94) (.int .i64 ((((q + (List.getD l_5 k 0)) + (List.getD l_11 (k - 1) 0)) + (List.getD l_17 (k - 2) 0) : Nat) : Int)) (fun w => by kernel_rfl) (by kernel_rfl) ?_
                refine s_valE (some 95) (.int .i64 (Int.tmod ((((q + (List.getD l_5 k 0)) + (List.getD l_11 (k - 1) 0)) + (List.getD l_17 (k - 2) 0) : Nat) : Int) 65536)) (.int .i64 (((((q + (List.getD l_5 k 0)) + (List.getD l_11 (k - 1) 0)) + (List.getD l_17 (k - 2) 0)) % 65536 : Nat) : Int)) (fun w => by kernel_rfl) (int_eq (remN (((q + (List.getD l_5 k 0)) + (List.getD l_11 (k - 1) 0)) + (List.getD l_17 (k - 2) 0)) 65536)) (by kernel_rfl) ?_
                refine s_new H7 (some 96) (fun b => .slice (some ⟨b, 0, none⟩) 1 1) #[.int .i64 (((((q + (List.getD l_5 k 0)) + (List.getD l_11 (k - 1) 0)) + (List.getD l_17 (k - 2) 0)) % 65536 : Nat) : Int)] 3 (fun w => by kernel_rfl) (by kernel_rfl) ?_
                intro b3 w8 H8; clear H7
                refine s_append H8 (some 97) 39 3 1 8 (.tmp 93) (.tmp 96) 1 0 b2 b3 n2 1 cap2 1 cur2 #[.int .i64 (((((q + (List.getD l_5 k 0)) + (List.getD l_11 (k - 1) 0)) + (List.getD l_17 (k - 2) 0)) % 65536 : Nat) : Int)] 3 (0, 0) (cellsD l2) ([.int .i64 (((((q + (List.getD l_5 k 0)) + (List.getD l_11 (k - 1) 0)) + (List.getD l_17 (k - 2) 0)) % 65536 : Nat) : Int)]) (fun b_19 cur_21 => [(b3, Obj.cells #[.int .i64 (((((q + (List.getD l_5 k 0)) + (List.getD l_11 (k - 1) 0)) + (List.getD l_17 (k - 2) 0)) % 65536 : Nat) : Int)] 3 (0, 0)), (b_19, Obj.cells cur_21 3 (0, 0)), (b, Obj.cells cur 3 (0, 0)), (b_1, Obj.cells cur_4 3 (0, 0)), (b_7, Obj.cells cur_10 3 (0, 0)), (b_13, Obj.cells cur_16 3 (0, 0))]) (by kernel_rfl) (by kernel_rfl) (by kernel_rfl) (by kernel_rfl) (by kernel_rfl) hr2 (by kernel_rfl) (by kernel_rfl) (by rfl) (by rfl) (by intro u hu; simp at hu; first | exact hu.elim | (rcases hu with rfl | rfl | rfl | rfl <;> rfl) | (rcases hu with rfl | rfl <;> rfl) | (subst hu; rfl)) (by omega) (by unfold maxLen; omega) (fun _ _ => by kernel_rfl) ?_
                intro b_19 cap_20 cur_21 w9 H9 hr_22; clear H8
                have hr_22t : Rw 1 cur_21 cap_20 (n2 + 1) (cellsD (l2 ++ [(((q + (List.getD l_5 k 0)) + (List.getD l_11 (k - 1) 0)) + (List.getD l_17 (k - 2) 0)) % 65536])) := by rw [cellsD_append]; exact hr_22
                refine s_val (some 13) (.slice (some ⟨b_19, 0, none⟩) (n2 + 1) cap_20) (fun w => by kernel_rfl) (by kernel_rfl) ?_
                refine s_nil ?_
                refine g_reg0 [0, 1, 2] (by kernel_rfl) ?_
                refine s_val (some 98) (.int .i64 ((((q + (List.getD l_5 k 0)) + (List.getD l_11 (k - 1) 0)) + (List.getD l_17 (k - 2) 0) : Nat) : Int)) (fun w => by kernel_rfl) (by kernel_rfl) ?_
                refine s_valE (some 99) (.int .i64 (IntKind.i64.wrap (((((q + (List.getD l_5 k 0)) + (List.getD l_11 (k - 1) 0)) + (List.getD l_17 (k - 2) 0) : Nat) : Int).tdiv 65536))) (.int .i64 (((((q + (List.getD l_5 k 0)) + (List.getD l_11 (k - 1) 0)) + (List.getD l_17 (k - 2) 0)) / 65536 : Nat) : Int)) (fun w => by kernel_rfl) (int_eq (quoN_i64 (a := ((q + (List.getD l_5 k 0)) + (List.getD l_11 (k - 1) 0)) + (List.getD l_17 (k - 2) 0)) (b := 65536) (by omega))) (by kernel_rfl) ?_
                refine s_val (some 14) (.int .i64 (((((q + (List.getD l_5 k 0)) + (List.getD l_11 (k - 1) 0)) + (List.getD l_17 (k - 2) 0)) / 65536 : Nat) : Int)) (fun w => by kernel_rfl) (by kernel_rfl) ?_
                refine s_nil ?_
                show WP _ _ _ _ _ _
                refine g_reg0 [0, 1, 2] (by kernel_rfl) ?_
                refine s_val (some 48) (.int .i64 ((k : Nat) : Int)) (fun w => by kernel_rfl) (by kernel_rfl) ?_
                refine s_valE (some 49) (.int .i64 (IntKind.i64.wrap (((k : Nat) : Int) + 1))) (.int .i64 ((k + 1 : Nat) : Int)) (fun w => by kernel_rfl) (int_eq (wrapAdd_i64 (a := k) (b := 1) (by omega))) (by kernel_rfl) ?_
                refine s_val (some 15) (.int .i64 ((k + 1 : Nat) : Int)) (fun w => by kernel_rfl) (by kernel_rfl) ?_
                refine s_nil ?_
                have hd : ((q + (List.getD l_5 k 0)) + (List.getD l_11 (k - 1) 0)) + (List.getD l_17 (k - 2) 0) = q + List.getD l_5 k 0 + List.getD (0 :: l_11) k 0 + List.getD (0 :: 0 :: l_17) k 0 := by omega
                have hD2 := hD.next hs_6o hs_12o hs_18o _ hd
                have HD13 : St w.heap.size w w9 [(b_19, Obj.cells cur_21 3 (0, 0)), (b, Obj.cells cur 3 (0, 0)), (b_1, Obj.cells cur_4 3 (0, 0)), (b_7, Obj.cells cur_10 3 (0, 0)), (b_13, Obj.cells cur_16 3 (0, 0))] := H9.sub (List.Sublist.cons _ (List.Sublist.cons_cons _ (List.Sublist.cons_cons _ (List.Sublist.cons_cons _ (List.Sublist.cons_cons _ (List.Sublist.cons_cons _ List.Sublist.slnil))))))
                show ∃ m, _ ∧ _
                exact ⟨_, (by omega), b_19, cap_20, n2 + 1, cur_21, (l2 ++ [(((q + (List.getD l_5 k 0)) + (List.getD l_11 (k - 1) 0)) + (List.getD l_17 (k - 2) 0)) % 65536]), (k + 1), (((q + (List.getD l_5 k 0)) + (List.getD l_11 (k - 1) 0)) + (List.getD l_17 (k - 2) 0)) / 65536, rfl, (by rw [List.length_append, ← hn2]; rfl), hr_22t, (by omega), hD2, HD13, (Is.of ⟨(by kernel_rfl), (by kernel_rfl), (by kernel_rfl), (by kernel_rfl), (by kernel_rfl), (by kernel_rfl), (by kernel_rfl), (by kernel_rfl), (by kernel_rfl), (by kernel_rfl), (by kernel_rfl), (by kernel_rfl), (by kernel_rfl), (by kernel_rfl), (by kernel_rfl), trivial⟩)⟩
              · skip
                refine s_valE (some 84) (.bool (decide (((k - 2 : Nat) : Int) < ((n_15 : Nat) : Int)))) (.bool false) (fun w => by kernel_rfl) (bool_eq (decide_eq_false (by omega))) (by kernel_rfl) ?_
                refine s_val (some 85) (.bool false) (fun w => by kernel_rfl) (by kernel_rfl) ?_
                refine s_nil ?_
                refine g_cond_f (by kernel_rfl) (by kernel_rfl) ?_
                refine g_skip (by kernel_rfl) ?_
                show WP _ _ _ _ _ _
                refine g_sreg [0, 1, 2, 3, 4, 5] (by kernel_rfl) (by kernel_rfl) ?_
                refine s_val (some 93) (.slice (some ⟨b2, 0, none⟩) n2 cap2) (fun w => by kernel_rfl) (by kernel_rfl) ?_
                refine s_val (some 94) (.int .i64 (((q + (List.getD l_5 k 0)) + (List.getD l_11 (k - 1) 0) : Nat) : Int)) (fun w => by kernel_rfl) (by kernel_rfl) ?_
                refine s_valE (some 95) (.int .i64 (Int.tmod (((q + (List.getD l_5 k 0)) + (List.getD l_11 (k - 1) 0) : Nat) : Int) 65536)) (.int .i64 ((((q + (List.getD l_5 k 0)) + (List.getD l_11 (k - 1) 0)) % 65536 : Nat) : Int)) (fun w => by kernel_rfl) (int_eq (remN ((q + (List.getD l_5 k 0)) + (List.getD l_11 (k - 1) 0)) 65536)) (by kernel_rfl) ?_
                refine s_new H7 (some 96) (fun b => .slice (some ⟨b, 0, none⟩) 1 1) #[.int .i64 ((((q + (List.getD l_5 k 0)) + (List.getD l_11 (k - 1) 0)) % 65536 : Nat) : Int)] 3 (fun w => by kernel_rfl) (by kernel_rfl) ?_
                intro b4 w10 H10; clear H7
                refine s_append H10 (some 97) 39 3 1 8 (.tmp 93) (.tmp 96) 1 0 b2 b4 n2 1 cap2 1 cur2 #[.int .i64 ((((q + (List.getD l_5 k 0)) + (List.getD l_11 (k - 1) 0)) % 65536 : Nat) : Int)] 3 (0, 0) (cellsD l2) ([.int .i64 ((((q + (List.getD l_5 k 0)) + (List.getD l_11 (k - 1) 0)) % 65536 : Nat) : Int)]) (fun b_23 cur_25 => [(b4, Obj.cells #[.int .i64 ((((q + (List.getD l_5 k 0)) + (List.getD l_11 (k - 1) 0)) % 65536 : Nat) : Int)] 3 (0, 0)), (b_23, Obj.cells cur_25 3 (0, 0)), (b, Obj.cells cur 3 (0, 0)), (b_1, Obj.cells cur_4 3 (0, 0)), (b_7, Obj.cells cur_10 3 (0, 0)), (b_13, Obj.cells cur_16 3 (0, 0))]) (by kernel_rfl) (by kernel_rfl) (by kernel_rfl) (by kernel_rfl) (by kernel_rfl) hr2 (by kernel_rfl) (by kernel_rfl) (by rfl) (by rfl) (by intro u hu; simp at hu; first | exact hu.elim | (rcases hu with rfl | rfl | rfl | rfl <;> rfl) | (rcases hu with rfl | rfl <;> rfl) | (subst hu; rfl)) (by omega) (by unfold maxLen; omega) (fun _ _ => by kernel_rfl) ?_
                intro b_23 cap_24 cur_25 w11 H11 hr_26; clear H10
                have hr_26t : Rw 1 cur_25 cap_24 (n2 + 1) (cellsD (l2 ++ [((q + (List.getD l_5 k 0)) + (List.getD l_11 (k - 1) 0)) % 65536])) := by rw [cellsD_append]; exact hr_26
                refine s_val (some 13) (.slice (some ⟨b_23, 0, none⟩) (n2 + 1) cap_24) (fun w => by kernel_rfl) (by kernel_rfl) ?_
                refine s_nil ?_
                refine g_reg0 [0, 1, 2] (by kernel_rfl) ?_
                refine s_val (some 98) (.int .i64 (((q + (List.getD l_5 k 0)) + (List.getD l_11 (k - 1) 0) : Nat) : Int)) (fun w => by kernel_rfl) (by kernel_rfl) ?_
                refine s_valE (some 99) (.int .i64 (IntKind.i64.wrap ((((q + (List.getD l_5 k 0)) + (List.getD l_11 (k - 1) 0) : Nat) : Int).tdiv 65536))) (.int .i64 ((((q + (List.getD l_5 k 0)) + (List.getD l_11 (k - 1) 0)) / 65536 : Nat) : Int)) (fun w => by kernel_rfl) (int_eq (quoN_i64 (a := (q + (List.getD l_5 k 0)) + (List.getD l_11 (k - 1) 0)) (b := 65536) (by omega))) (by kernel_rfl) ?_
                refine s_val (some 14) (.int .i64 ((((q + (List.getD l_5 k 0)) + (List.getD l_11 (k - 1) 0)) / 65536 : Nat) : Int)) (fun w => by kernel_rfl) (by kernel_rfl) ?_
                refine s_nil ?_
                show WP _ _ _ _ _ _
                refine g_reg0 [0, 1, 2] (by kernel_rfl) ?_
                refine s_val (some 48) (.int .i64 ((k : Nat) : Int)) (fun w => by kernel_rfl) (by kernel_rfl) ?_
                refine s_valE (some 49) (.int .i64 (IntKind.i64.wrap (((k : Nat) : Int) + 1))) (.int .i64 ((k + 1 : Nat) : Int)) (fun w => by kernel_rfl) (int_eq (wrapAdd_i64 (a := k) (b := 1) (by omega))) (by kernel_rfl) ?_
                refine s_val (some 15) (.int .i64 ((k + 1 : Nat) : Int)) (fun w => by kernel_rfl) (by kernel_rfl) ?_
                refine s_nil ?_
                have hd : (q + (List.getD l_5 k 0)) + (List.getD l_11 (k - 1) 0) = q + List.getD l_5 k 0 + List.getD (0 :: l_11) k 0 + List.getD (0 :: 0 :: l_17) k 0 := by omega
                have hD2 := hD.next hs_6o hs_12o hs_18o _ hd
                have HD14 : St w.heap.size w w11 [(b_23, Obj.cells cur_25 3 (0, 0)), (b, Obj.cells cur 3 (0, 0)), (b_1, Obj.cells cur_4 3 (0, 0)), (b_7, Obj.cells cur_10 3 (0, 0)), (b_13, Obj.cells cur_16 3 (0, 0))] := H11.sub (List.Sublist.cons _ (List.Sublist.cons_cons _ (List.Sublist.cons_cons _ (List.Sublist.cons_cons _ (List.Sublist.cons_cons _ (List.Sublist.cons_cons _ List.Sublist.slnil))))))
                show ∃ m, _ ∧ _
                exact ⟨_, (by omega), b_23, cap_24, n2 + 1, cur_25, (l2 ++ [((q + (List.getD l_5 k 0)) + (List.getD l_11 (k - 1) 0)) % 65536]), (k + 1), ((q + (List.getD l_5 k 0)) + (List.getD l_11 (k - 1) 0)) / 65536, rfl, (by rw [List.length_append, ← hn2]; rfl), hr_26t, (by omega), hD2, HD14, (Is.of ⟨(by kernel_rfl), (by kernel_rfl), (by kernel_rfl), (by kernel_rfl), (by kernel_rfl), (by kernel_rfl), (by kernel_rfl), (by kernel_rfl), (by kernel_rfl), (by kernel_rfl), (by kernel_rfl), (by kernel_rfl), (by kernel_rfl), (by kernel_rfl), (by kernel_rfl), trivial⟩)⟩
            · skip
              refine s_valE (some 78) (.bool (decide (2 ≤ ((k : Nat) : Int)))) (.bool false) (fun w => by kernel_rfl) (bool_eq (decide_eq_false (by omega))) (by kernel_rfl) ?_
              refine s_val (some 79) (.bool false) (fun w => by kernel_rfl) (by kernel_rfl) ?_
              refine s_not (some 80) (by kernel_rfl) (by kernel_rfl) ?_
              refine s_not (some 81) (by kernel_rfl) (by kernel_rfl) ?_
              refine s_not (some 82) (by kernel_rfl) (by kernel_rfl) ?_
              refine s_not (some 83) (by kernel_rfl) (by kernel_rfl) ?_
              refine s_not (some 84) (by kernel_rfl) (by kernel_rfl) ?_
              refine s_val (some 85) (.bool false) (fun w => by kernel_rfl) (by kernel_rfl) ?_
              refine s_nil ?_
              refine g_cond_f (by kernel_rfl) (by kernel_rfl) ?_
              refine g_skip (by kernel_rfl) ?_
              show WP _ _ _ _ _ _
              refine g_sreg [0, 1, 2, 3, 4, 5] (by kernel_rfl) (by kernel_rfl) ?_
              refine s_val (some 93) (.slice (some ⟨b2, 0, none⟩) n2 cap2) (fun w => by kernel_rfl) (by kernel_rfl) ?_
              refine s_val (some 94) (.int .i64 (((q + (List.getD l_5 k 0)) + (List.getD l_11 (k - 1) 0) : Nat) : Int)) (fun w => by kernel_rfl) (by kernel_rfl) ?_
              refine s_valE (some 95) (.int .i64 (Int.tmod (((q + (List.getD l_5 k 0)) + (List.getD l_11 (k - 1) 0) : Nat) : Int) 65536)) (.int .i64 ((((q + (List.getD l_5 k 0)) + (List.getD l_11 (k - 1) 0)) % 65536 : Nat) : Int)) (fun w => by kernel_rfl) (int_eq (remN ((q + (List.getD l_5 k 0)) + (List.getD l_11 (k - 1) 0)) 65536)) (by kernel_rfl) ?_
              refine s_new H7 (some 96) (fun b => .slice (some ⟨b, 0, none⟩) 1 1) #[.int .i64 ((((q + (List.getD l_5 k 0)) + (List.getD l_11 (k - 1) 0)) % 65536 : Nat) : Int)] 3 (fun w => by kernel_rfl) (by kernel_rfl) ?_
              intro b5 w12 H12; clear H7
              refine s_append H12 (some 97) 39 3 1 8 (.tmp 93) (.tmp 96) 1 0 b2 b5 n2 1 cap2 1 cur2 #[.int .i64 ((((q + (List.getD l_5 k 0)) + (List.getD l_11 (k - 1) 0)) % 65536 : Nat) : Int)] 3 (0, 0) (cellsD l2) ([.int .i64 ((((q + (List.getD l_5 k 0)) + (List.getD l_11 (k - 1) 0)) % 65536 : Nat) : Int)]) (fun b_27 cur_29 => [(b5, Obj.cells #[.int .i64 ((((q + (List.getD l_5 k 0)) + (List.getD l_11 (k - 1) 0)) % 65536 : Nat) : Int)] 3 (0, 0)), (b_27, Obj.cells cur_29 3 (0, 0)), (b, Obj.cells cur 3 (0, 0)), (b_1, Obj.cells cur_4 3 (0, 0)), (b_7, Obj.cells cur_10 3 (0, 0)), (b_13, Obj.cells cur_16 3 (0, 0))]) (by kernel_rfl) (by kernel_rfl) (by kernel_rfl) (by kernel_rfl) (by kernel_rfl) hr2 (by kernel_rfl) (by kernel_rfl) (by rfl) (by rfl) (by intro u hu; simp at hu; first | exact hu.elim | (rcases hu with rfl | rfl | rfl | rfl <;> rfl) | (rcases hu with rfl | rfl <;> rfl) | (subst hu; rfl)) (by omega) (by unfold maxLen; omega) (fun _ _ => by kernel_rfl) ?_
              intro b_27 cap_28 cur_29 w13 H13 hr_30; clear H12
              have hr_30t : Rw 1 cur_29 cap_28 (n2 + 1) (cellsD (l2 ++ [((q + (List.getD l_5 k 0)) + (List.getD l_11 (k - 1) 0)) % 65536])) := by rw [cellsD_append]; exact hr_30
              refine s_val (some 13) (.slice (some ⟨b_27, 0, none⟩) (n2 + 1) cap_28) (fun w => by kernel_rfl) (by kernel_rfl) ?_
              refine s_nil ?_
              refine g_reg0 [0, 1, 2] (by kernel_rfl) ?_
              refine s_val (some 98) (.int .i64 (((q + (List.getD l_5 k 0)) + (List.getD l_11 (k - 1) 0) : Nat) : Int)) (fun w => by kernel_rfl) (by kernel_rfl) ?_
              refine s_valE (some 99) (.int .i64 (IntKind.i64.wrap ((((q + (List.getD l_5 k 0)) + (List.getD l_11 (k - 1) 0) : Nat) : Int).tdiv 65536))) (.int .i64 ((((q + (List.getD l_5 k 0)) + (List.getD l_11 (k - 1) 0)) / 65536 : Nat) : Int)) (fun w => by kernel_rfl) (int_eq (quoN_i64 (a := (q + (List.getD l_5 k 0)) + (List.getD l_11 (k - 1) 0)) (b := 65536) (by omega))) (by kernel_rfl) ?_
              refine s_val (some 14) (.int .i64 ((((q + (List.getD l_5 k 0)) + (List.getD l_11 (k - 1) 0)) / 65536 : Nat) : Int)) (fun w => by kernel_rfl) (by kernel_rfl) ?_
              refine s_nil ?_
              show WP _ _ _ _ _ _
              refine g_reg0 [0, 1, 2] (by kernel_rfl) ?_
              refine s_val (some 48) (.int .i64 ((k : Nat) : Int)) (fun w => by kernel_rfl) (by kernel_rfl) ?_
              refine s_valE (some 49) (.int .i64 (IntKind.i64.wrap (((k : Nat) : Int) + 1))) (.int .i64 ((k + 1 : Nat) : Int)) (fun w => by kernel_rfl) (int_eq (wrapAdd_i64 (a := k) (b := 1) (by omega))) (by kernel_rfl) ?_
              refine s_val (some 15) (.int .i64 ((k + 1 : Nat) : Int)) (fun w => by kernel_rfl) (by kernel_rfl) ?_
              refine s_nil ?_
              have hd : (q + (List.getD l_5 k 0)) + (List.getD l_11 (k - 1) 0) = q + List.getD l_5 k 0 + List.getD (0 :: l_11) k 0 + List.getD (0 :: 0 :: l_17) k 0 := by omega
              have hD2 := hD.next hs_6o hs_12o hs_18o _ hd
              have HD15 : St w.heap.size w w13 [(b_27, Obj.cells cur_29 3 (0, 0)), (b, Obj.cells cur 3 (0, 0)), (b_1, Obj.cells cur_4 3 (0, 0)), (b_7, Obj.cells cur_10 3 (0, 0)), (b_13, Obj.cells cur_16 3 (0, 0))] := H13.sub (List.Sublist.cons _ (List.Sublist.cons_cons _ (List.Sublist.cons_cons _ (List.Sublist.cons_cons _ (List.Sublist.cons_cons _ (List.Sublist.cons_cons _ List.Sublist.slnil))))))
              show ∃ m, _ ∧ _
              exact ⟨_, (by omega), b_27, cap_28, n2 + 1, cur_29, (l2 ++ [((q + (List.getD l_5 k 0)) + (List.getD l_11 (k - 1) 0)) % 65536]), (k + 1), ((q + (List.getD l_5 k 0)) + (List.getD l_11 (k - 1) 0)) / 65536, rfl, (by rw [List.length_append, ← hn2]; rfl), hr_30t, (by omega), hD2, HD15, (Is.of ⟨(by kernel_rfl), (by kernel_rfl), (by kernel_rfl), (by kernel_rfl), (by kernel_rfl), (by kernel_rfl), (by kernel_rfl), (by kernel_rfl), (by kernel_rfl), (by kernel_rfl), (by kernel_rfl), (by kernel_rfl), (by kernel_rfl), (by kernel_rfl), (by kernel_rfl), trivial⟩)⟩
          · skip
            refine s_valE (some 68) (.bool (decide (((k - 1 : Nat) : Int) < ((n_9 : Nat) : Int)))) (.bool false) (fun w => by kernel_rfl) (bool_eq (decide_eq_false (by omega))) (by kernel_rfl) ?_
            refine s_val (some 69) (.bool false) (fun w => by kernel_rfl) (by kernel_rfl) ?_
            refine s_nil ?_
            refine g_cond_f (by kernel_rfl) (by kernel_rfl) ?_
            refine g_skip (by kernel_rfl) ?_
            show WP _ _ _ _ _ _
            refine g_seq (by kernel_rfl) ?_
            refine g_sreg [0, 1, 2, 3, 4, 5, 6, 7, 8] (by kernel_rfl) (by kernel_rfl) ?_
            refine s_val (some 77) (.int .i64 ((k : Nat) : Int)) (fun w => by kernel_rfl) (by kernel_rfl) ?_
            by_cases hc16 : (k : Nat) ≥ 2
            · skip
              refine s_valE (some 78) (.bool (decide (2 ≤ ((k : Nat) : Int)))) (.bool true) (fun w => by kernel_rfl) (bool_eq (decide_eq_true (by omega))) (by kernel_rfl) ?_
              refine s_val (some 79) (.bool true) (fun w => by kernel_rfl) (by kernel_rfl) ?_
              refine s_val (some 80) (.int .i64 ((k : Nat) : Int)) (fun w => by kernel_rfl) (by kernel_rfl) ?_
              refine s_valE (some 81) (.int .i64 (IntKind.i64.wrap (((k : Nat) : Int) - 2))) (.int .i64 ((k - 2 : Nat) : Int)) (fun w => by kernel_rfl) (int_eq (wrapSub_i64 (a := k) (b := 2) (by omega))) (by kernel_rfl) ?_
              refine s_val (some 82) (.slice (some ⟨b_13, 0, none⟩) n_15 cap_14) (fun w => by kernel_rfl) (by kernel_rfl) ?_
              refine s_val (some 83) (.int .i64 ((n_15 : Nat) : Int)) (fun w => by kernel_rfl) (by kernel_rfl) ?_
              by_cases hc17 : (k - 2 : Nat) < n_15
              · skip
                refine s_valE (some 84) (.bool (decide (((k - 2 : Nat) : Int) < ((n_15 : Nat) : Int)))) (.bool true) (fun w => by kernel_rfl) (bool_eq (decide_eq_true (by omega))) (by kernel_rfl) ?_
                refine s_val (some 85) (.bool true) (fun w => by kernel_rfl) (by kernel_rfl) ?_
                refine s_nil ?_
                refine g_cond_t (by kernel_rfl) (by kernel_rfl) ?_
                refine g_reg0 [0, 1, 2, 3, 4, 5, 6, 7] (by kernel_rfl) ?_
                refine s_val (some 86) (.int .i64 ((q + (List.getD l_5 k 0) : Nat) : Int)) (fun w => by kernel_rfl) (by kernel_rfl) ?_
                refine s_val (some 87) (.slice (some ⟨b_13, 0, none⟩) n_15 cap_14) (fun w => by kernel_rfl) (by kernel_rfl) ?_
                refine s_val (some 88) (.int .i64 ((k : Nat) : Int)) (fun w => by kernel_rfl) (by kernel_rfl) ?_
                refine s_valE (some 89) (.int .i64 (IntKind.i64.wrap (((k : Nat) : Int) - 2))) (.int .i64 ((k - 2 : Nat) : Int)) (fun w => by kernel_rfl) (int_eq (wrapSub_i64 (a := k) (b := 2) (by omega))) (by kernel_rfl) ?_
                refine s_op (some 90) _ (.pointer (some ⟨b_13, 0 + (k - 2) * 1, none⟩)) (by kernel_rfl) (by kernel_rfl) (fun o w ho => idxS_run (kd := .i64) (t := 39) (e := 3) (size := 1) (bytes := 8) (by kernel_rfl) (x := (.tmp 87)) (y := (.tmp 89)) b_13 0 n_15 cap_14 (k - 2) ho (by kernel_rfl) (by kernel_rfl) (by omega) w) ?_
                refine s_load1 H7 (some 91) 3 (.tmp 90) 4 b_13 (0 + (k - 2) * 1) cur_16 3 (0, 0) (.int .i64 ((List.getD l_17 (k - 2) 0 : Nat) : Int)) (by kernel_rfl) (by kernel_rfl) (by kernel_rfl) (by kernel_rfl) (by kernel_rfl) (hs_18r.atD (by omega) hs_18n) ?_
                refine s_valE (some 92) (.int .i64 (IntKind.i64.wrap (((q + (List.getD l_5 k 0) : Nat) : Int) + ((List.getD l_17 (k - 2) 0 : Nat) : Int)))) (.int .i64 (((q + (List.getD l_5 k 0)) + (List.getD l_17 (k - 2) 0) : Nat) : Int)) (fun w => by kernel_rfl) (int_eq (wrapAdd_i64 (a := q + (List.getD l_5 k 0)) (b := List.getD l_17 (k - 2) 0) (by omega))) (by kernel_rfl) ?_
                refine s_val (some 16) (.int .i64 (((q + (List.getD l_5 k 0)) + (List.getD l_17 (k - 2) 0) : Nat) : Int)) (fun w => by kernel_rfl) (by kernel_rfl) ?_
                refine s_nil ?_
                show WP _ _ _ _ _ _
                refine g_sreg [0, 1, 2, 3, 4, 5] (by kernel_rfl) (by kernel_rfl) ?_
                refine s_val (some 93) (.slice (some ⟨b2, 0, none⟩) n2 cap2) (fun w => by kernel_rfl) (by kernel_rfl) ?_
                refine s_val (some 94) (.int .i64 (((q + (List.getD l_5 k 0)) + (List.getD l_17 (k - 2) 0) : Nat) : Int)) (fun w => by kernel_rfl) (by kernel_rfl) ?_
                refine s_valE (some 95) (.int .i64 (Int.tmod (((q + (List.getD l_5 k 0)) + (List.getD l_17 (k - 2) 0) : Nat) : Int) 65536)) (.int .i64 ((((q + (List.getD l_5 k 0)) + (List.getD l_17 (k - 2) 0)) % 65536 : Nat) : Int)) (fun w => by kernel_rfl) (int_eq (remN ((q + (List.getD l_5 k 0)) + (List.getD l_17 (k - 2) 0)) 65536)) (by kernel_rfl) ?_
                refine s_new H7 (some 96) (fun b => .slice (some ⟨b, 0, none⟩) 1 1) #[.int .i64 ((((q + (List.getD l_5 k 0)) + (List.getD l_17 (k - 2) 0)) % 65536 : Nat) : Int)] 3 (fun w => by kernel_rfl) (by kernel_rfl) ?_
                intro b6 w14 H14; clear H7
                refine s_append H14 (some 97) 39 3 1 8 (.tmp 93) (.tmp 96) 1 0 b2 b6 n2 1 cap2 1 cur2 #[.int .i64 ((((q + (List.getD l_5 k 0)) + (List.getD l_17 (k - 2) 0)) % 65536 : Nat) : Int)] 3 (0, 0) (cellsD l2) ([.int .i64 ((((q + (List.getD l_5 k 0)) + (List.getD l_17 (k - 2) 0)) % 65536 : Nat) : Int)]) (fun b_31 cur_33 => [(b6, Obj.cells #[.int .i64 ((((q + (List.getD l_5 k 0)) + (List.getD l_17 (k - 2) 0)) % 65536 : Nat) : Int)] 3 (0, 0)), (b_31, Obj.cells cur_33 3 (0, 0)), (b, Obj.cells cur 3 (0, 0)), (b_1, Obj.cells cur_4 3 (0, 0)), (b_7, Obj.cells cur_10 3 (0, 0)), (b_13, Obj.cells cur_16 3 (0, 0))]) (by kernel_rfl) (by kernel_rfl) (by kernel_rfl) (by kernel_rfl) (by kernel_rfl) hr2 (by kernel_rfl) (by kernel_rfl) (by rfl) (by rfl) (by intro u hu; simp at hu; first | exact hu.elim | (rcases hu with rfl | rfl | rfl | rfl <;> rfl) | (rcases hu with rfl | rfl <;> rfl) | (subst hu; rfl)) (by omega) (by unfold maxLen; omega) (fun _ _ => by kernel_rfl) ?_
                intro b_31 cap_32 cur_33 w15 H15 hr_34; clear H14
                have hr_34t : Rw 1 cur_33 cap_32 (n2 + 1) (cellsD (l2 ++ [((q + (List.getD l_5 k 0)) + (List.getD l_17 (k - 2) 0)) % 65536])) := by rw [cellsD_append]; exact hr_34
                refine s_val (some 13) (.slice (some ⟨b_31, 0, none⟩) (n2 + 1) cap_32) (fun w => by kernel_rfl) (by kernel_rfl) ?_
                refine s_nil ?_
                refine g_reg0 [0, 1, 2] (by kernel_rfl) ?_
                refine s_val (some 98) (.int .i64 (((q + (List.getD l_5 k 0)) + (List.getD l_17 (k - 2) 0) : Nat) : Int)) (fun w => by kernel_rfl) (by kernel_rfl) ?_
                refine s_valE (some 99) (.int .i64 (IntKind.i64.wrap ((((q + (List.getD l_5 k 0)) + (List.getD l_17 (k - 2) 0) : Nat) : Int).tdiv 65536))) (.int .i64 ((((q + (List.getD l_5 k 0)) + (List.getD l_17 (k - 2) 0)) / 65536 : Nat) : Int)) (fun w => by kernel_rfl) (int_eq (quoN_i64 (a := (q + (List.getD l_5 k 0)) + (List.getD l_17 (k - 2) 0)) (b := 65536) (by omega))) (by kernel_rfl) ?_
                refine s_val (some 14) (.int .i64 ((((q + (List.getD l_5 k 0)) + (List.getD l_17 (k - 2) 0)) / 65536 : Nat) : Int)) (fun w => by kernel_rfl) (by kernel_rfl) ?_
                refine s_nil ?_
                show WP _ _ _ _ _ _
                refine g_reg0 [0, 1, 2] (by kernel_rfl) ?_
                refine s_val (some 48) (.int .i64 ((k : Nat) : Int)) (fun w => by kernel_rfl) (by kernel_rfl) ?_
                refine s_valE (some 49) (.int .i64 (IntKind.i64.wrap (((k : Nat) : Int) + 1))) (.int .i64 ((k + 1 : Nat) : Int)) (fun w => by kernel_rfl) (int_eq (wrapAdd_i64 (a := k) (b := 1) (by omega))) (by kernel_rfl) ?_
                refine s_val (some 15) (.int .i64 ((k + 1 : Nat) : Int)) (fun w => by kernel_rfl) (by kernel_rfl) ?_
                refine s_nil ?_
                have hd : (q + (List.getD l_5 k 0)) + (List.getD l_17 (k - 2) 0) = q + List.getD l_5 k 0 + List.getD (0 :: l_11) k 0 + List.getD (0 :: 0 :: l_17) k 0 := by omega
                have hD2 := hD.next hs_6o hs_12o hs_18o _ hd
                have HD18 : St w.heap.size w w15 [(b_31, Obj.cells cur_33 3 (0, 0)), (b, Obj.cells cur 3 (0, 0)), (b_1, Obj.cells cur_4 3 (0, 0)), (b_7, Obj.cells cur_10 3 (0, 0)), (b_13, Obj.cells cur_16 3 (0, 0))] := H15.sub (List.Sublist.cons _ (List.Sublist.cons_cons _ (List.Sublist.cons_cons _ (List.Sublist.cons_cons _ (List.Sublist.cons_cons _ (List.Sublist.cons_cons _ List.Sublist.slnil))))))
                show ∃ m, _ ∧ _
                exact ⟨_, (by omega), b_31, cap_32, n2 + 1, cur_33, (l2 ++ [((q + (List.getD l_5 k 0)) + (List.getD l_17 (k - 2) 0)) % 65536]), (k + 1), ((q + (List.getD l_5 k 0)) + (List.getD l_17 (k - 2) 0)) / 65536, rfl, (by rw [List.length_append, ← hn2]; rfl), hr_34t, (by omega), hD2, HD18, (Is.of ⟨(by kernel_rfl), (by kernel_rfl), (by kernel_rfl), (by kernel_rfl), (by kernel_rfl), (by kernel_rfl), (by kernel_rfl), (by kernel_rfl), (by kernel_rfl), (by kernel_rfl), (by kernel_rfl), (by kernel_rfl), (by kernel_rfl), (by kernel_rfl), (by kernel_rfl), trivial⟩)⟩
              · skip
                refine s_valE (some 84) (.bool (decide (((k - 2 : Nat) : Int) < ((n_15 : Nat) : Int)))) (.bool false) (fun w => by kernel_rfl) (bool_eq (decide_eq_false (by omega))) (by kernel_rfl) ?_
                refine s_val (some 85) (.bool false) (fun w => by kernel_rfl) (by kernel_rfl) ?_
                refine s_nil ?_
                refine g_cond_f (by kernel_rfl) (by kernel_rfl) ?_
                refine g_skip (by kernel_rfl) ?_
                show WP _ _ _ _ _ _
                refine g_sreg [0, 1, 2, 3, 4, 5] (by kernel_rfl) (by kernel_rfl) ?_
                refine s_val (some 93) (.slice (some ⟨b2, 0, none⟩) n2 cap2) (fun w => by kernel_rfl) (by kernel_rfl) ?_
                refine s_val (some 94) (.int .i64 ((q + (List.getD l_5 k 0) : Nat) : Int)) (fun w => by kernel_rfl) (by kernel_rfl) ?_
                refine s_valE (some 95) (.int .i64 (Int.tmod ((q + (List.getD l_5 k 0) : Nat) : Int) 65536)) (.int .i64 (((q + (List.getD l_5 k 0)) % 65536 : Nat) : Int)) (fun w => by kernel_rfl) (int_eq (remN (q + (List.getD l_5 k 0)) 65536)) (by kernel_rfl) ?_
                refine s_new H7 (some 96) (fun b => .slice (some ⟨b, 0, none⟩) 1 1) #[.int .i64 (((q + (List.getD l_5 k 0)) % 65536 : Nat) : Int)] 3 (fun w => by kernel_rfl) (by kernel_rfl) ?_
                intro b7 w16 H16; clear H7
                refine s_append H16 (some 97) 39 3 1 8 (.tmp 93) (.tmp 96) 1 0 b2 b7 n2 1 cap2 1 cur2 #[.int .i64 (((q + (List.getD l_5 k 0)) % 65536 : Nat) : Int)] 3 (0, 0) (cellsD l2) ([.int .i64 (((q + (List.getD l_5 k 0)) % 65536 : Nat) : Int)]) (fun b_35 cur_37 => [(b7, Obj.cells #[.int .i64 (((q + (List.getD l_5 k 0)) % 65536 : Nat) : Int)] 3 (0, 0)), (b_35, Obj.cells cur_37 3 (0, 0)), (b, Obj.cells cur 3 (0, 0)), (b_1, Obj.cells cur_4 3 (0, 0)), (b_7, Obj.cells cur_10 3 (0, 0)), (b_13, Obj.cells cur_16 3 (0, 0))]) (by kernel_rfl) (by kernel_rfl) (by kernel_rfl) (by kernel_rfl) (by kernel_rfl) hr2 (by kernel_rfl) (by kernel_rfl) (by rfl) (by rfl) (by intro u hu; simp at hu; first | exact hu.elim | (rcases hu with rfl | rfl | rfl | rfl <;> rfl) | (rcases hu with rfl | rfl <;> rfl) | (subst hu; rfl)) (by omega) (by unfold maxLen; omega) (fun _ _ => by kernel_rfl) ?_
                intro b_35 cap_36 cur_37 w17 H17 hr_38; clear H16
                have hr_38t : Rw 1 cur_37 cap_36 (n2 + 1) (cellsD (l2 ++ [(q + (List.getD l_5 k 0)) % 65536])) := by rw [cellsD_append]; exact hr_38
                refine s_val (some 13) (.slice (some ⟨b_35, 0, none⟩) (n2 + 1) cap_36) (fun w => by kernel_rfl) (by kernel_rfl) ?_
                refine s_nil ?_
                refine g_reg0 [0, 1, 2] (by kernel_rfl) ?_
                refine s_val (some 98) (.int .i64 ((q + (List.getD l_5 k 0) : Nat) : Int)) (fun w => by kernel_rfl) (by kernel_rfl) ?_
                refine s_valE (some 99) (.int .i64 (IntKind.i64.wrap (((q + (List.getD l_5 k 0) : Nat) : Int).tdiv 65536))) (.int .i64 (((q + (List.getD l_5 k 0)) / 65536 : Nat) : Int)) (fun w => by kernel_rfl) (int_eq (quoN_i64 (a := q + (List.getD l_5 k 0)) (b := 65536) (by omega))) (by kernel_rfl) ?_
                refine s_val (some 14) (.int .i64 (((q + (List.getD l_5 k 0)) / 65536 : Nat) : Int)) (fun w => by kernel_rfl) (by kernel_rfl) ?_
                refine s_nil ?_
                show WP _ _ _ _ _ _
                refine g_reg0 [0, 1, 2] (by kernel_rfl) ?_
                refine s_val (some 48) (.int .i64 ((k : Nat) : Int)) (fun w => by kernel_rfl) (by kernel_rfl) ?_
                refine s_valE (some 49) (.int .i64 (IntKind.i64.wrap (((k : Nat) : Int) + 1))) (.int .i64 ((k + 1 : Nat) : Int)) (fun w => by kernel_rfl) (int_eq (wrapAdd_i64 (a := k) (b := 1) (by omega))) (by kernel_rfl) ?_
                refine s_val (some 15) (.int .i64 ((k + 1 : Nat) : Int)) (fun w => by kernel_rfl) (by kernel_rfl) ?_
                refine s_nil ?_
                have hd : q + (List.getD l_5 k 0) = q + List.getD l_5 k 0 + List.getD (0 :: l_11) k 0 + List.getD (0 :: 0 :: l_17) k 0 := by omega
                have hD2 := hD.next hs_6o hs_12o hs_18o _ hd
                have HD19 : St w.heap.size w w17 [(b_35, Obj.cells cur_37 3 (0, 0)), (b, Obj.cells cur 3 (0, 0)), (b_1, Obj.cells cur_4 3 (0, 0)), (b_7, Obj.cells cur_10 3 (0, 0)), (b_13, Obj.cells cur_16 3 (0, 0))] := H17.sub (List.Sublist.cons _ (List.Sublist.cons_cons _ (List.Sublist.cons_cons _ (List.Sublist.cons_cons _ (List.Sublist.cons_cons _ (List.Sublist.cons_cons _ List.Sublist.slnil))))))
                show ∃ m, _ ∧ _
                exact ⟨_, (by omega), b_35, cap_36, n2 + 1, cur_37, (l2 ++ [(q + (List.getD l_5 k 0)) % 65536]), (k + 1), (q + (List.getD l_5 k 0)) / 65536, rfl, (by rw [List.length_append, ← hn2]; rfl), hr_38t, (by omega), hD2, HD19, (Is.of ⟨(by kernel_rfl), (by kernel_rfl), (by kernel_rfl), (by kernel_rfl), (by kernel_rfl), (by kernel_rfl), (by kernel_rfl), (by kernel_rfl), (by kernel_rfl), (by kernel_rfl), (by kernel_rfl), (by kernel_rfl), (by kernel_rfl), (by kernel_rfl), (by kernel_rfl), trivial⟩)⟩
            · skip
              refine s_valE (some 78) (.bool (decide (2 ≤ ((k : Nat) : Int)))) (.bool false) (fun w => by kernel_rfl) (bool_eq (decide_eq_false (by omega))) (by kernel_rfl) ?_
              refine s_val (some 79) (.bool false) (fun w => by kernel_rfl) (by kernel_rfl) ?_
              refine s_not (some 80) (by kernel_rfl) (by kernel_rfl) ?_
              refine s_not (some 81) (by kernel_rfl) (by kernel_rfl) ?_
              refine s_not (some 82) (by kernel_rfl) (by kernel_rfl) ?_
              refine s_not (some 83) (by kernel_rfl) (by kernel_rfl) ?_
              refine s_not (some 84) (by kernel_rfl) (by kernel_rfl) ?_
              refine s_val (some 85) (.bool false) (fun w => by kernel_rfl) (by kernel_rfl) ?_
              refine s_nil ?_
              refine g_cond_f (by kernel_rfl) (by kernel_rfl) ?_
              refine g_skip (by kernel_rfl) ?_
              show WP _ _ _ _ _ _
              refine g_sreg [0, 1, 2, 3, 4, 5] (by kernel_rfl) (by kernel_rfl) ?_
              refine s_val (some 93) (.slice (some ⟨b2, 0, none⟩) n2 cap2) (fun w => by kernel_rfl) (by kernel_rfl) ?_
              refine s_val (some 94) (.int .i64 ((q + (List.getD l_5 k 0) : Nat) : Int)) (fun w => by kernel_rfl) (by kernel_rfl) ?_
              refine s_valE (some 95) (.int .i64 (Int.tmod ((q + (List.getD l_5 k 0) : Nat) : Int) 65536)) (.int .i64 (((q + (List.getD l_5 k 0)) % 65536 : Nat) : Int)) (fun w => by kernel_rfl) (int_eq (remN (q + (List.getD l_5 k 0)) 65536)) (by kernel_rfl) ?_
              refine s_new H7 (some 96) (fun b => .slice (some ⟨b, 0, none⟩) 1 1) #[.int .i64 (((q + (List.getD l_5 k 0)) % 65536 : Nat) : Int)] 3 (fun w => by kernel_rfl) (by kernel_rfl) ?_
              intro b8 w18 H18; clear H7
              refine s_append H18 (some 97) 39 3 1 8 (.tmp 93) (.tmp 96) 1 0 b2 b8 n2 1 cap2 1 cur2 #[.int .i64 (((q + (List.getD l_5 k 0)) % 65536 : Nat) : Int)] 3 (0, 0) (cellsD l2) ([.int .i64 (((q + (List.getD l_5 k 0)) % 65536 : Nat) : Int)]) (fun b_39 cur_41 => [(b8, Obj.cells #[.int .i64 (((q + (List.getD l_5 k 0)) % 65536 : Nat) : Int)] 3 (0, 0)), (b_39, Obj.cells cur_41 3 (0, 0)), (b, Obj.cells cur 3 (0, 0)), (b_1, Obj.cells cur_4 3 (0, 0)), (b_7, Obj.cells cur_10 3 (0, 0)), (b_13, Obj.cells cur_16 3 (0, 0))]) (by kernel_rfl) (by kernel_rfl) (by kernel_rfl) (by kernel_rfl) (by kernel_rfl) hr2 (by kernel_rfl) (by kernel_rfl) (by rfl) (by rfl) (by intro u hu; simp at hu; first | exact hu.elim | (rcases hu with rfl | rfl | rfl | rfl <;> rfl) | (rcases hu with rfl | rfl <;> rfl) | (subst hu; rfl)) (by omega) (by unfold maxLen; omega) (fun _ _ => by kernel_rfl) ?_
              intro b_39 cap_40 cur_41 w19 H19 hr_42; clear H18
              have hr_42t : Rw 1 cur_41 cap_40 (n2 + 1) (cellsD (l2 ++ [(q + (List.getD l_5 k 0)) % 65536])) := by rw [cellsD_append]; exact hr_42
              refine s_val (some 13) (.slice (some ⟨b_39, 0, none⟩) (n2 + 1) cap_40) (fun w => by kernel_rfl) (by kernel_rfl) ?_
              refine s_nil ?_
              refine g_reg0 [0, 1, 2] (by kernel_rfl) ?_
              refine s_val (some 98) (.int .i64 ((q + (List.getD l_5 k 0) : Nat) : Int)) (fun w => by kernel_rfl) (by kernel_rfl) ?_
              refine s_valE (some 99) (.int .i64 (IntKind.i64.wrap (((q + (List.getD l_5 k 0) : Nat) : Int).tdiv 65536))) (.int .i64 (((q + (List.getD l_5 k 0)) / 65536 : Nat) : Int)) (fun w => by kernel_rfl) (int_eq (quoN_i64 (a := q + (List.getD l_5 k 0)) (b := 65536) (by omega))) (by kernel_rfl) ?_
              refine s_val (some 14) (.int .i64 (((q + (List.getD l_5 k 0)) / 65536 : Nat) : Int)) (fun w => by kernel_rfl) (by kernel_rfl) ?_
              refine s_nil ?_
              show WP _ _ _ _ _ _
              refine g_reg0 [0, 1, 2] (by kernel_rfl) ?_
              refine s_val (some 48) (.int .i64 ((k : Nat) : Int)) (fun w => by kernel_rfl) (by kernel_rfl) ?_
              refine s_valE (some 49) (.int .i64 (IntKind.i64.wrap (((k : Nat) : Int) + 1))) (.int .i64 ((k + 1 : Nat) : Int)) (fun w => by kernel_rfl) (int_eq (wrapAdd_i64 (a := k) (b := 1) (by omega))) (by kernel_rfl) ?_
              refine s_val (some 15) (.int .i64 ((k + 1 : Nat) : Int)) (fun w => by kernel_rfl) (by kernel_rfl) ?_
              refine s_nil ?_
              have hd : q + (List.getD l_5 k 0) = q + List.getD l_5 k 0 + List.getD (0 :: l_11) k 0 + List.getD (0 :: 0 :: l_17) k 0 := by omega
              have hD2 := hD.next hs_6o hs_12o hs_18o _ hd
              have HD20 : St w.heap.size w w19 [(b_39, Obj.cells cur_41 3 (0, 0)), (b, Obj.cells cur 3 (0, 0)), (b_1, Obj.cells cur_4 3 (0, 0)), (b_7, Obj.cells cur_10 3 (0, 0)), (b_13, Obj.cells cur_16 3 (0, 0))] := H19.sub (List.Sublist.cons _ (List.Sublist.cons_cons _ (List.Sublist.cons_cons _ (List.Sublist.cons_cons _ (List.Sublist.cons_cons _ (List.Sublist.cons_cons _ List.Sublist.slnil))))))
              show ∃ m, _ ∧ _
              exact ⟨_, (by omega), b_39, cap_40, n2 + 1, cur_41, (l2 ++ [(q + (List.getD l_5 k 0)) % 65536]), (k + 1), (q + (List.getD l_5 k 0)) / 65536, rfl, (by rw [List.length_append, ← hn2]; rfl), hr_42t, (by omega), hD2, HD20, (Is.of ⟨(by kernel_rfl), (by kernel_rfl), (by kernel_rfl), (by kernel_rfl), (by kernel_rfl), (by kernel_rfl), (by kernel_rfl), (by kernel_rfl), (by kernel_rfl), (by kernel_rfl), (by kernel_rfl), (by kernel_rfl), (by kernel_rfl), (by kernel_rfl), (by kernel_rfl), trivial⟩)⟩
        · skip
          refine s_valE (some 62) (.bool (decide (1 ≤ ((k : Nat) : Int)))) (.bool false) (fun w => by kernel_rfl) (bool_eq (decide_eq_false (by omega))) (by kernel_rfl) ?_
          refine s_val (some 63) (.bool false) (fun w => by kernel_rfl) (by kernel_rfl) ?_
          refine s_not (some 64) (by kernel_rfl) (by kernel_rfl) ?_
          refine s_not (some 65) (by kernel_rfl) (by kernel_rfl) ?_
          refine s_not (some 66) (by kernel_rfl) (by kernel_rfl) ?_
          refine s_not (some 67) (by kernel_rfl) (by kernel_rfl) ?_
          refine s_not (some 68) (by kernel_rfl) (by kernel_rfl) ?_
          refine s_val (some 69) (.bool false) (fun w => by kernel_rfl) (by kernel_rfl) ?_
          refine s_nil ?_
          refine g_cond_f (by kernel_rfl) (by kernel_rfl) ?_
          refine g_skip (by kernel_rfl) ?_
          show WP _ _ _ _ _ _
          refine g_seq (by kernel_rfl) ?_
          refine g_sreg [0, 1, 2, 3, 4, 5, 6, 7, 8] (by kernel_rfl) (by kernel_rfl) ?_
          refine s_val (some 77) (.int .i64 ((k : Nat) : Int)) (fun w => by kernel_rfl) (by kernel_rfl) ?_
          by_cases hc21 : (k : Nat) ≥ 2
          · skip
            refine s_valE (some 78) (.bool (decide (2 ≤ ((k : Nat) : Int)))) (.bool true) (fun w => by kernel_rfl) (bool_eq (decide_eq_true (by omega))) (by kernel_rfl) ?_
            refine s_val (some 79) (.bool true) (fun w => by kernel_rfl) (by kernel_rfl) ?_
            refine s_val (some 80) (.int .i64 ((k : Nat) : Int)) (fun w => by kernel_rfl) (by kernel_rfl) ?_
            refine s_valE (some 81) (.int .i64 (IntKind.i64.wrap (((k : Nat) : Int) - 2))) (.int .i64 ((k - 2 : Nat) : Int)) (fun w => by kernel_rfl) (int_eq (wrapSub_i64 (a := k) (b := 2) (by omega))) (by kernel_rfl) ?_
            refine s_val (some 82) (.slice (some ⟨b_13, 0, none⟩) n_15 cap_14) (fun w => by kernel_rfl) (by kernel_rfl) ?_
            refine s_val (some 83) (.int .i64 ((n_15 : Nat) : Int)) (fun w => by kernel_rfl) (by kernel_rfl) ?_
            by_cases hc22 : (k - 2 : Nat) < n_15
            · skip
              refine s_valE (some 84) (.bool (decide (((k - 2 : Nat) : Int) < ((n_15 : Nat) : Int)))) (.bool true) (fun w => by kernel_rfl) (bool_eq (decide_eq_true (by omega))) (by kernel_rfl) ?_
              refine s_val (some 85) (.bool true) (fun w => by kernel_rfl) (by kernel_rfl) ?_
              refine s_nil ?_
              refine g_cond_t (by kernel_rfl) (by kernel_rfl) ?_
              refine g_reg0 [0, 1, 2, 3, 4, 5, 6, 7] (by kernel_rfl) ?_
              refine s_val (some 86) (.int .i64 ((q + (List.getD l_5 k 0) : Nat) : Int)) (fun w => by kernel_rfl) (by kernel_rfl) ?_
              refine s_val (some 87) (.slice (some ⟨b_13, 0, none⟩) n_15 cap_14) (fun w => by kernel_rfl) (by kernel_rfl) ?_
              refine s_val (some 88) (.int .i64 ((k : Nat) : Int)) (fun w => by kernel_rfl) (by kernel_rfl) ?_
              refine s_valE (some 89) (.int .i64 (IntKind.i64.wrap (((k : Nat) : Int) - 2))) (.int .i64 ((k - 2 : Nat) : Int)) (fun w => by kernel_rfl) (int_eq (wrapSub_i64 (a := k) (b := 2) (by omega))) (by kernel_rfl) ?_
              refine s_op (some 90) _ (.pointer (some ⟨b_13, 0 + (k - 2) * 1, none⟩)) (by kernel_rfl) (by kernel_rfl) (fun o w ho => idxS_run (kd := .i64) (t := 39) (e := 3) (size := 1) (bytes := 8) (by kernel_rfl) (x := (.tmp 87)) (y := (.tmp 89)) b_13 0 n_15 cap_14 (k - 2) ho (by kernel_rfl) (by kernel_rfl) (by omega) w) ?_
              refine s_load1 H7 (some 91) 3 (.tmp 90) 4 b_13 (0 + (k - 2) * 1) cur_16 3 (0, 0) (.int .i64 ((List.getD l_17 (k - 2) 0 : Nat) : Int)) (by kernel_rfl) (by kernel_rfl) (by kernel_rfl) (by kernel_rfl) (by kernel_rfl) (hs_18r.atD (by omega) hs_18n) ?_
              refine s_valE (some 92) (.int .i64 (IntKind.i64.wrap (((q + (List.getD l_5 k 0) : Nat) : Int) + ((List.getD l_17 (k - 2) 0 : Nat) : Int)))) (.int .i64 (((q + (List.getD l_5 k 0)) + (List.getD l_17 (k - 2) 0) : Nat) : Int)) (fun w => by kernel_rfl) (int_eq (wrapAdd_i64 (a := q + (List.getD l_5 k 0)) (b := List.getD l_17 (k - 2) 0) (by omega))) (by kernel_rfl) ?_
              refine s_val (some 16) (.int .i64 (((q + (List.getD l_5 k 0)) + (List.getD l_17 (k - 2) 0) : Nat) : Int)) (fun w => by kernel_rfl) (by kernel_rfl) ?_
              refine s_nil ?_
              show WP _ _ _ _ _ _
              refine g_sreg [0, 1, 2, 3, 4, 5] (by kernel_rfl) (by kernel_rfl) ?_
              refine s_val (some 93) (.slice (some ⟨b2, 0, none⟩) n2 cap2) (fun w => by kernel_rfl) (by kernel_rfl) ?_
              refine s_val (some 94) (.int .i64 (((q + (List.getD l_5 k 0)) + (List.getD l_17 (k - 2) 0) : Nat) : Int)) (fun w => by kernel_rfl) (by kernel_rfl) ?_
              refine s_valE (some 95) (.int .i64 (Int.tmod (((q + (List.getD l_5 k 0)) + (List.getD l_17 (k - 2) 0) : Nat) : Int) 65536)) (.int .i64 ((((q + (List.getD l_5 k 0)) + (List.getD l_17 (k - 2) 0)) % 65536 : Nat) : Int)) (fun w => by kernel_rfl) (int_eq (remN ((q + (List.getD l_5 k 0)) + (List.getD l_17 (k - 2) 0)) 65536)) (by kernel_rfl) ?_
              refine s_new H7 (some 96) (fun b => .slice (some ⟨b, 0, none⟩) 1 1) #[.int .i64 ((((q + (List.getD l_5 k 0)) + (List.getD l_17 (k - 2) 0)) % 65536 : Nat) : Int)] 3 (fun w => by kernel_rfl) (by kernel_rfl) ?_
              intro b9 w20 H20; clear H7
              refine s_append H20 (some 97) 39 3 1 8 (.tmp 93) (.tmp 96) 1 0 b2 b9 n2 1 cap2 1 cur2 #[.int .i64 ((((q + (List.getD l_5 k 0)) + (List.getD l_17 (k - 2) 0)) % 65536 : Nat) : Int)] 3 (0, 0) (cellsD l2) ([.int .i64 ((((q + (List.getD l_5 k 0)) + (List.getD l_17 (k - 2) 0)) % 65536 : Nat) : Int)]) (fun b_43 cur_45 => [(b9, Obj.cells #[.int .i64 ((((q + (List.getD l_5 k 0)) + (List.getD l_17 (k - 2) 0)) % 65536 : Nat) : Int)] 3 (0, 0)), (b_43, Obj.cells cur_45 3 (0, 0)), (b, Obj.cells cur 3 (0, 0)), (b_1, Obj.cells cur_4 3 (0, 0)), (b_7, Obj.cells cur_10 3 (0, 0)), (b_13, Obj.cells cur_16 3 (0, 0))]) (by kernel_rfl) (by kernel_rfl) (by kernel_rfl) (by kernel_rfl) (by kernel_rfl) hr2 (by kernel_rfl) (by kernel_rfl) (by rfl) (by rfl) (by intro u hu; simp at hu; first | exact hu.elim | (rcases hu with rfl | rfl | rfl | rfl <;> rfl) | (rcases hu with rfl | rfl <;> rfl) | (subst hu; rfl)) (by omega) (by unfold maxLen; omega) (fun _ _ => by kernel_rfl) ?_
              intro b_43 cap_44 cur_45 w21 H21 hr_46; clear H20
              have hr_46t : Rw 1 cur_45 cap_44 (n2 + 1) (cellsD (l2 ++ [((q + (List.getD l_5 k 0)) + (List.getD l_17 (k - 2) 0)) % 65536])) := by rw [cellsD_append]; exact hr_46
              refine s_val (some 13) (.slice (some ⟨b_43, 0, none⟩) (n2 + 1) cap_44) (fun w => by kernel_rfl) (by kernel_rfl) ?_
              refine s_nil ?_
              refine g_reg0 [0, 1, 2] (by kernel_rfl) ?_
              refine s_val (some 98) (.int .i64 (((q + (List.getD l_5 k 0)) + (List.getD l_17 (k - 2) 0) : Nat) : Int)) (fun w => by kernel_rfl) (by kernel_rfl) ?_
              refine s_valE (some 99) (.int .i64 (IntKind.i64.wrap ((((q + (List.getD l_5 k 0)) + (List.getD l_17 (k - 2) 0) : Nat) : Int).tdiv 65536))) (.int .i64 ((((q + (List.getD l_5 k 0)) + (List.getD l_17 (k - 2) 0)) / 65536 : Nat) : Int)) (fun w => by kernel_rfl) (int_eq (quoN_i64 (a := (q + (List.getD l_5 k 0)) + (List.getD l_17 (k - 2) 0)) (b := 65536) (by omega))) (by kernel_rfl) ?_
              refine s_val (some 14) (.int .i64 ((((q + (List.getD l_5 k 0)) + (List.getD l_17 (k - 2) 0)) / 65536 : Nat) : Int)) (fun w => by kernel_rfl) (by kernel_rfl) ?_
              refine s_nil ?_
              show WP _ _ _ _ _ _
              refine g_reg0 [0, 1, 2] (by kernel_rfl) ?_
              refine s_val (some 48) (.int .i64 ((k : Nat) : Int)) (fun w => by kernel_rfl) (by kernel_rfl) ?_
              refine s_valE (some 49) (.int .i64 (IntKind.i64.wrap (((k : Nat) : Int) + 1))) (.int .i64 ((k + 1 : Nat) : Int)) (fun w => by kernel_rfl) (int_eq (wrapAdd_i64 (a := k) (b := 1) (by omega))) (by kernel_rfl) ?_
              refine s_val (some 15) (.int .i64 ((k + 1 : Nat) : Int)) (fun w => by kernel_rfl) (by kernel_rfl) ?_
              refine s_nil ?_
              have hd : (q + (List.getD l_5 k 0)) + (List.getD l_17 (k - 2) 0) = q + List.getD l_5 k 0 + List.getD (0 :: l_11) k 0 + List.getD (0 :: 0 :: l_17) k 0 := by omega
              have hD2 := hD.next hs_6o hs_12o hs_18o _ hd
              have HD23 : St w.heap.size w w21 [(b_43, Obj.cells cur_45 3 (0, 0)), (b, Obj.cells cur 3 (0, 0)), (b_1, Obj.cells cur_4 3 (0, 0)), (b_7, Obj.cells cur_10 3 (0, 0)), (b_13, Obj.cells cur_16 3 (0, 0))] := H21.sub (List.Sublist.cons _ (List.Sublist.cons_cons _ (List.Sublist.cons_cons _ (List.Sublist.cons_cons _ (List.Sublist.cons_cons _ (List.Sublist.cons_cons _ List.Sublist.slnil))))))
              show ∃ m, _ ∧ _
              exact ⟨_, (by omega), b_43, cap_44, n2 + 1, cur_45, (l2 ++ [((q + (List.getD l_5 k 0)) + (List.getD l_17 (k - 2) 0)) % 65536]), (k + 1), ((q + (List.getD l_5 k 0)) + (List.getD l_17 (k - 2) 0)) / 65536, rfl, (by rw [List.length_append, ← hn2]; rfl), hr_46t, (by omega), hD2, HD23, (Is.of ⟨(by kernel_rfl), (by kernel_rfl), (by kernel_rfl), (by kernel_rfl), (by kernel_rfl), (by kernel_rfl), (by kernel_rfl), (by kernel_rfl), (by kernel_rfl), (by kernel_rfl), (by kernel_rfl), (by kernel_rfl), (by kernel_rfl), (by kernel_rfl), (by kernel_rfl), trivial⟩)⟩
            · skip
              refine s_valE (some 84) (.bool (decide (((k - 2 : Nat) : Int) < ((n_15 : Nat) : Int)))) (.bool false) (fun w => by kernel_rfl) (bool_eq (decide_eq_false (by omega))) (by kernel_rfl) ?_
              refine s_val (some 85) (.bool false) (fun w => by kernel_rfl) (by kernel_rfl) ?_
              refine s_nil ?_
              refine g_cond_f (by kernel_rfl) (by kernel_rfl) ?_
              refine g_skip (by kernel_rfl) ?_
              show WP _ _ _ _ _ _
              refine g_sreg [0, 1, 2, 3, 4, 5] (by kernel_rfl) (by kernel_rfl) ?_
              refine s_val (some 93) (.slice (some ⟨b2, 0, none⟩) n2 cap2) (fun w => by kernel_rfl) (by kernel_rfl) ?_
              refine s_val (some 94) (.int .i64 ((q + (List.getD l_5 k 0) : Nat) : Int)) (fun w => by kernel_rfl) (by kernel_rfl) ?_
              refine s_valE (some 95) (.int .i64 (Int.tmod ((q + (List.getD l_5 k 0) : Nat) : Int) 65536)) (.int .i64 (((q + (List.getD l_5 k 0)) % 65536 : Nat) : Int)) (fun w => by kernel_rfl) (int_eq (remN (q + (List.getD l_5 k 0)) 65536)) (by kernel_rfl) ?_
              refine s_new H7 (some 96) (fun b => .slice (some ⟨b, 0, none⟩) 1 1) #[.int .i64 (((q + (List.getD l_5 k 0)) % 65536 : Nat) : Int)] 3 (fun w => by kernel_rfl) (by kernel_rfl) ?_
              intro b10 w22 H22; clear H7
              refine s_append H22 (some 97) 39 3 1 8 (.tmp 93) (.tmp 96) 1 0 b2 b10 n2 1 cap2 1 cur2 #[.int .i64 (((q + (List.getD l_5 k 0)) % 65536 : Nat) : Int)] 3 (0, 0) (cellsD l2) ([.int .i64 (((q + (List.getD l_5 k 0)) % 65536 : Nat) : Int)]) (fun b_47 cur_49 => [(b10, Obj.cells #[.int .i64 (((q + (List.getD l_5 k 0)) % 65536 : Nat) : Int)] 3 (0, 0)), (b_47, Obj.cells cur_49 3 (0, 0)), (b, Obj.cells cur 3 (0, 0)), (b_1, Obj.cells cur_4 3 (0, 0)), (b_7, Obj.cells cur_10 3 (0, 0)), (b_13, Obj.cells cur_16 3 (0, 0))]) (by kernel_rfl) (by kernel_rfl) (by kernel_rfl) (by kernel_rfl) (by kernel_rfl) hr2 (by kernel_rfl) (by kernel_rfl) (by rfl) (by rfl) (by intro u hu; simp at hu; first | exact hu.elim | (rcases hu with rfl | rfl | rfl | rfl <;> rfl) | (rcases hu with rfl | rfl <;> rfl) | (subst hu; rfl)) (by omega) (by unfold maxLen; omega) (fun _ _ => by kernel_rfl) ?_
              intro b_47 cap_48 cur_49 w23 H23 hr_50; clear H22
              have hr_50t : Rw 1 cur_49 cap_48 (n2 + 1) (cellsD (l2 ++ [(q + (List.getD l_5 k 0)) % 65536])) := by rw [cellsD_append]; exact hr_50
              refine s_val (some 13) (.slice (some ⟨b_47, 0, none⟩) (n2 + 1) cap_48) (fun w => by kernel_rfl) (by kernel_rfl) ?_
              refine s_nil ?_
              refine g_reg0 [0, 1, 2] (by kernel_rfl) ?_
              refine s_val (some 98) (.int .i64 ((q + (List.getD l_5 k 0) : Nat) : Int)) (fun w => by kernel_rfl) (by kernel_rfl) ?_
              refine s_valE (some 99) (.int .i64 (IntKind.i64.wrap (((q + (List.getD l_5 k 0) : Nat) : Int).tdiv 65536))) (.int .i64 (((q + (List.getD l_5 k 0)) / 65536 : Nat) : Int)) (fun w => by kernel_rfl) (int_eq (quoN_i64 (a := q + (List.getD l_5 k 0)) (b := 65536) (by omega))) (by kernel_rfl) ?_
              refine s_val (some 14) (.int .i64 (((q + (List.getD l_5 k 0)) / 65536 : Nat) : Int)) (fun w => by kernel_rfl) (by kernel_rfl) ?_
              refine s_nil ?_
              show WP _ _ _ _ _ _
              refine g_reg0 [0, 1, 2] (by kernel_rfl) ?_
              refine s_val (some 48) (.int .i64 ((k : Nat) : Int)) (fun w => by kernel_rfl) (by kernel_rfl) ?_
              refine s_valE (some 49) (.int .i64 (IntKind.i64.wrap (((k : Nat) : Int) + 1))) (.int .i64 ((k + 1 : Nat) : Int)) (fun w => by kernel_rfl) (int_eq (wrapAdd_i64 (a := k) (b := 1) (by omega))) (by kernel_rfl) ?_
              refine s_val (some 15) (.int .i64 ((k + 1 : Nat) : Int)) (fun w => by kernel_rfl) (by kernel_rfl) ?_
              refine s_nil ?_
              have hd : q + (List.getD l_5 k 0) = q + List.getD l_5 k 0 + List.getD (0 :: l_11) k 0 + List.getD (0 :: 0 :: l_17) k 0 := by omega
              have hD2 := hD.next hs_6o hs_12o hs_18o _ hd
              have HD24 : St w.heap.size w w23 [(b_47, Obj.cells cur_49 3 (0, 0)), (b, Obj.cells cur 3 (0, 0)), (b_1, Obj.cells cur_4 3 (0, 0)), (b_7, Obj.cells cur_10 3 (0, 0)), (b_13, Obj.cells cur_16 3 (0, 0))] := H23.sub (List.Sublist.cons _ (List.Sublist.cons_cons _ (List.Sublist.cons_cons _ (List.Sublist.cons_cons _ (List.Sublist.cons_cons _ (List.Sublist.cons_cons _ List.Sublist.slnil))))))
              show ∃ m, _ ∧ _
              exact ⟨_, (by omega), b_47, cap_48, n2 + 1, cur_49, (l2 ++ [(q + (List.getD l_5 k 0)) % 65536]), (k + 1), (q + (List.getD l_5 k 0)) / 65536, rfl, (by rw [List.length_append, ← hn2]; rfl), hr_50t, (by omega), hD2, HD24, (Is.of ⟨(by kernel_rfl), (by kernel_rfl), (by kernel_rfl), (by kernel_rfl), (by kernel_rfl), (by kernel_rfl), (by kernel_rfl), (by kernel_rfl), (by kernel_rfl), (by kernel_rfl), (by kernel_rfl), (by kernel_rfl), (by kernel_rfl), (by kernel_rfl), (by kernel_rfl), trivial⟩)⟩
          · skip
            refine s_valE (some 78) (.bool (decide (2 ≤ ((k : Nat) : Int)))) (.bool false) (fun w => by kernel_rfl) (bool_eq (decide_eq_false (by omega))) (by kernel_rfl) ?_
            refine s_val (some 79) (.bool false) (fun w => by kernel_rfl) (by kernel_rfl) ?_
            refine s_not (some 80) (by kernel_rfl) (by kernel_rfl) ?_
            refine s_not (some 81) (by kernel_rfl) (by kernel_rfl) ?_
            refine s_not (some 82) (by kernel_rfl) (by kernel_rfl) ?_
            refine s_not (some 83) (by kernel_rfl) (by kernel_rfl) ?_
            refine s_not (some 84) (by kernel_rfl) (by kernel_rfl) ?_
            refine s_val (some 85) (.bool false) (fun w => by kernel_rfl) (by kernel_rfl) ?_
            refine s_nil ?_
            refine g_cond_f (by kernel_rfl) (by kernel_rfl) ?_
            refine g_skip (by kernel_rfl) ?_
            show WP _ _ _ _ _ _
            refine g_sreg [0, 1, 2, 3, 4, 5] (by kernel_rfl) (by kernel_rfl) ?_
            refine s_val (some 93) (.slice (some ⟨b2, 0, none⟩) n2 cap2) (fun w => by kernel_rfl) (by kernel_rfl) ?_
            refine s_val (some 94) (.int .i64 ((q + (List.getD l_5 k 0) : Nat) : Int)) (fun w => by kernel_rfl) (by kernel_rfl) ?_
            refine s_valE (some 95) (.int .i64 (Int.tmod ((q + (List.getD l_5 k 0) : Nat) : Int) 65536)) (.int .i64 (((q + (List.getD l_5 k 0)) % 65536 : Nat) : Int)) (fun w => by kernel_rfl) (int_eq (remN (q + (List.getD l_5 k 0)) 65536)) (by kernel_rfl) ?_
            refine s_new H7 (some 96) (fun b => .slice (some ⟨b, 0, none⟩) 1 1) #[.int .i64 (((q + (List.getD l_5 k 0)) % 65536 : Nat) : Int)] 3 (fun w => by kernel_rfl) (by kernel_rfl) ?_
            intro b11 w24 H24; clear H7
            refine s_append H24 (some 97) 39 3 1 8 (.tmp 93) (.tmp 96) 1 0 b2 b11 n2 1 cap2 1 cur2 #[.int .i64 (((q + (List.getD l_5 k 0)) % 65536 : Nat) : Int)] 3 (0, 0) (cellsD l2) ([.int .i64 (((q + (List.getD l_5 k 0)) % 65536 : Nat) : Int)]) (fun b_51 cur_53 => [(b11, Obj.cells #[.int .i64 (((q + (List.getD l_5 k 0)) % 65536 : Nat) : Int)] 3 (0, 0)), (b_51, Obj.cells cur_53 3 (0, 0)), (b, Obj.cells cur 3 (0, 0)), (b_1, Obj.cells cur_4 3 (0, 0)), (b_7, Obj.cells cur_10 3 (0, 0)), (b_13, Obj.cells cur_16 3 (0, 0))]) (by kernel_rfl) (by kernel_rfl) (by kernel_rfl) (by kernel_rfl) (by kernel_rfl) hr2 (by kernel_rfl) (by kernel_rfl) (by rfl) (by rfl) (by intro u hu; simp at hu; first | exact hu.elim | (rcases hu with rfl | rfl | rfl | rfl <;> rfl) | (rcases hu with rfl | rfl <;> rfl) | (subst hu; rfl)) (by omega) (by unfold maxLen; omega) (fun _ _ => by kernel_rfl) ?_
            intro b_51 cap_52 cur_53 w25 H25 hr_54; clear H24
            have hr_54t : Rw 1 cur_53 cap_52 (n2 + 1) (cellsD (l2 ++ [(q + (List.getD l_5 k 0)) % 65536])) := by rw [cellsD_append]; exact hr_54
            refine s_val (some 13) (.slice (some ⟨b_51, 0, none⟩) (n2 + 1) cap_52) (fun w => by kernel_rfl) (by kernel_rfl) ?_
            refine s_nil ?_
            refine g_reg0 [0, 1, 2] (by kernel_rfl) ?_
            refine s_val (some 98) (.int .i64 ((q + (List.getD l_5 k 0) : Nat) : Int)) (fun w => by kernel_rfl) (by kernel_rfl) ?_
            refine s_valE (some 99) (.int .i64 (IntKind.i64.wrap (((q + (List.getD l_5 k 0) : Nat) : Int).tdiv 65536))) (.int .i64 (((q + (List.getD l_5 k 0)) / 65536 : Nat) : Int)) (fun w => by kernel_rfl) (int_eq (quoN_i64 (a := q + (List.getD l_5 k 0)) (b := 65536) (by omega))) (by kernel_rfl) ?_
            refine s_val (some 14) (.int .i64 (((q + (List.getD l_5 k 0)) / 65536 : Nat) : Int)) (fun w => by kernel_rfl) (by kernel_rfl) ?_
            refine s_nil ?_
            show WP _ _ _ _ _ _
            refine g_reg0 [0, 1, 2] (by kernel_rfl) ?_
            refine s_val (some 48) (.int .i64 ((k : Nat) : Int)) (fun w => by kernel_rfl) (by kernel_rfl) ?_
            refine s_valE (some 49) (.int .i64 (IntKind.i64.wrap (((k : Nat) : Int) + 1))) (.int .i64 ((k + 1 : Nat) : Int)) (fun w => by kernel_rfl) (int_eq (wrapAdd_i64 (a := k) (b := 1) (by omega))) (by kernel_rfl) ?_
            refine s_val (some 15) (.int .i64 ((k + 1 : Nat) : Int)) (fun w => by kernel_rfl) (by kernel_rfl) ?_
            refine s_nil ?_
            have hd : q + (List.getD l_5 k 0) = q + List.getD l_5 k 0 + List.getD (0 :: l_11) k 0 + List.getD (0 :: 0 :: l_17) k 0 := by omega
            have hD2 := hD.next hs_6o hs_12o hs_18o _ hd
            have HD25 : St w.heap.size w w25 [(b_51, Obj.cells cur_53 3 (0, 0)), (b, Obj.cells cur 3 (0, 0)), (b_1, Obj.cells cur_4 3 (0, 0)), (b_7, Obj.cells cur_10 3 (0, 0)), (b_13, Obj.cells cur_16 3 (0, 0))] := H25.sub (List.Sublist.cons _ (List.Sublist.cons_cons _ (List.Sublist.cons_cons _ (List.Sublist.cons_cons _ (List.Sublist.cons_cons _ (List.Sublist.cons_cons _ List.Sublist.slnil))))))
            show ∃ m, _ ∧ _
            exact ⟨_, (by omega), b_51, cap_52, n2 + 1, cur_53, (l2 ++ [(q + (List.getD l_5 k 0)) % 65536]), (k + 1), (q + (List.getD l_5 k 0)) / 65536, rfl, (by rw [List.length_append, ← hn2]; rfl), hr_54t, (by omega), hD2, HD25, (Is.of ⟨(by kernel_rfl), (by kernel_rfl), (by kernel_rfl), (by kernel_rfl), (by kernel_rfl), (by kernel_rfl), (by kernel_rfl), (by kernel_rfl), (by kernel_rfl), (by kernel_rfl), (by kernel_rfl), (by kernel_rfl), (by kernel_rfl), (by kernel_rfl), (by kernel_rfl), trivial⟩)⟩
      · skip
        refine s_valE (some 54) (.bool (decide (((k : Nat) : Int) < ((n_3 : Nat) : Int)))) (.bool false) (fun w => by kernel_rfl) (bool_eq (decide_eq_false (by omega))) (by kernel_rfl) ?_
        refine s_nil ?_
        refine g_cond_f (by kernel_rfl) (by kernel_rfl) ?_
        refine g_skip (by kernel_rfl) ?_
        show WP _ _ _ _ _ _
        refine g_seq (by kernel_rfl) ?_
        refine g_sreg [0, 1, 2, 3, 4, 5, 6, 7, 8] (by kernel_rfl) (by kernel_rfl) ?_
        refine s_val (some 61) (.int .i64 ((k : Nat) : Int)) (fun w => by kernel_rfl) (by kernel_rfl) ?_
        by_cases hc26 : (k : Nat) ≥ 1
        · skip
          refine s_valE (some 62) (.bool (decide (1 ≤ ((k : Nat) : Int)))) (.bool true) (fun w => by kernel_rfl) (bool_eq (decide_eq_true (by omega))) (by kernel_rfl) ?_
          refine s_val (some 63) (.bool true) (fun w => by kernel_rfl) (by kernel_rfl) ?_
          refine s_val (some 64) (.int .i64 ((k : Nat) : Int)) (fun w => by kernel_rfl) (by kernel_rfl) ?_
          refine s_valE (some 65) (.int .i64 (IntKind.i64.wrap (((k : Nat) : Int) - 1))) (.int .i64 ((k - 1 : Nat) : Int)) (fun w => by kernel_rfl) (int_eq (wrapSub_i64 (a := k) (b := 1) (by omega))) (by kernel_rfl) ?_
          refine s_val (some 66) (.slice (some ⟨b_7, 0, none⟩) n_9 cap_8) (fun w => by kernel_rfl) (by kernel_rfl) ?_
          refine s_val (some 67) (.int .i64 ((n_9 : Nat) : Int)) (fun w => by kernel_rfl) (by kernel_rfl) ?_
          by_cases hc27 : (k - 1 : Nat) < n_9
          · skip
            refine s_valE (some 68) (.bool (decide (((k - 1 : Nat) : Int) < ((n_9 : Nat) : Int)))) (.bool true) (fun w => by kernel_rfl) (bool_eq (decide_eq_true (by omega))) (by kernel_rfl) ?_
            refine s_val (some 69) (.bool true) (fun w => by kernel_rfl) (by kernel_rfl) ?_
            refine s_nil ?_
            refine g_cond_t (by kernel_rfl) (by kernel_rfl) ?_
            refine g_reg0 [0, 1, 2, 3, 4, 5, 6, 7] (by kernel_rfl) ?_
            refine s_val (some 70) (.int .i64 ((q : Nat) : Int)) (fun w => by kernel_rfl) (by kernel_rfl) ?_
            refine s_val (some 71) (.slice (some ⟨b_7, 0, none⟩) n_9 cap_8) (fun w => by kernel_rfl) (by kernel_rfl) ?_
            refine s_val (some 72) (.int .i64 ((k : Nat) : Int)) (fun w => by kernel_rfl) (by kernel_rfl) ?_
            refine s_valE (some 73) (.int .i64 (IntKind.i64.wrap (((k : Nat) : Int) - 1))) (.int .i64 ((k - 1 : Nat) : Int)) (fun w => by kernel_rfl) (int_eq (wrapSub_i64 (a := k) (b := 1) (by omega))) (by kernel_rfl) ?_
            refine s_op (some 74) _ (.pointer (some ⟨b_7, 0 + (k - 1) * 1, none⟩)) (by kernel_rfl) (by kernel_rfl) (fun o w ho => idxS_run (kd := .i64) (t := 39) (e := 3) (size := 1) (bytes := 8) (by kernel_rfl) (x := (.tmp 71)) (y := (.tmp 73)) b_7 0 n_9 cap_8 (k - 1) ho (by kernel_rfl) (by kernel_rfl) (by omega) w) ?_
            refine s_load1 H7 (some 75) 3 (.tmp 74) 3 b_7 (0 + (k - 1) * 1) cur_10 3 (0, 0) (.int .i64 ((List.getD l_11 (k - 1) 0 : Nat) : Int)) (by kernel_rfl) (by kernel_rfl) (by kernel_rfl) (by kernel_rfl) (by kernel_rfl) (hs_12r.atD (by omega) hs_12n) ?_
            refine s_valE (some 76) (.int .i64 (IntKind.i64.wrap (((q : Nat) : Int) + ((List.getD l_11 (k - 1) 0 : Nat) : Int)))) (.int .i64 ((q + (List.getD l_11 (k - 1) 0) : Nat) : Int)) (fun w => by kernel_rfl) (int_eq (wrapAdd_i64 (a := q) (b := List.getD l_11 (k - 1) 0) (by omega))) (by kernel_rfl) ?_
            refine s_val (some 16) (.int .i64 ((q + (List.getD l_11 (k - 1) 0) : Nat) : Int)) (fun w => by kernel_rfl) (by kernel_rfl) ?_
            refine s_nil ?_
            show WP _ _ _ _ _ _
            refine g_seq (by kernel_rfl) ?_
            refine g_sreg [0, 1, 2, 3, 4, 5, 6, 7, 8] (by kernel_rfl) (by kernel_rfl) ?_
            refine s_val (some 77) (.int .i64 ((k : Nat) : Int)) (fun w => by kernel_rfl) (by kernel_rfl) ?_
            by_cases hc28 : (k : Nat) ≥ 2
            · skip
              refine s_valE (some 78) (.bool (decide (2 ≤ ((k : Nat) : Int)))) (.bool true) (fun w => by kernel_rfl) (bool_eq (decide_eq_true (by omega))) (by kernel_rfl) ?_
              refine s_val (some 79) (.bool true) (fun w => by kernel_rfl) (by kernel_rfl) ?_
              refine s_val (some 80) (.int .i64 ((k : Nat) : Int)) (fun w => by kernel_rfl) (by kernel_rfl) ?_
              refine s_valE (some 81) (.int .i64 (IntKind.i64.wrap (((k : Nat) : Int) - 2))) (.int .i64 ((k - 2 : Nat) : Int)) (fun w => by kernel_rfl) (int_eq (wrapSub_i64 (a := k) (b := 2) (by omega))) (by kernel_rfl) ?_
              refine s_val (some 82) (.slice (some ⟨b_13, 0, none⟩) n_15 cap_14) (fun w => by kernel_rfl) (by kernel_rfl) ?_
              refine s_val (some 83) (.int .i64 ((n_15 : Nat) : Int)) (fun w => by kernel_rfl) (by kernel_rfl) ?_
              by_cases hc29 : (k - 2 : Nat) < n_15
              · skip
                refine s_valE (some 84) (.bool (decide (((k - 2 : Nat) : Int) < ((n_15 : Nat) : Int)))) (.bool true) (fun w => by kernel_rfl) (bool_eq (decide_eq_true (by omega))) (by kernel_rfl) ?_
                refine s_val (some 85) (.bool true) (fun w => by kernel_rfl) (by kernel_rfl) ?_
                refine s_nil ?_
                refine g_cond_t (by kernel_rfl) (by kernel_rfl) ?_
                refine g_reg0 [0, 1, 2, 3, 4, 5, 6, 7] (by kernel_rfl) ?_
                refine s_val (some 86) (.int .i64 ((q + (List.getD l_11 (k - 1) 0) : Nat) : Int)) (fun w => by kernel_rfl) (by kernel_rfl) ?_
                refine s_val (some 87) (.slice (some ⟨b_13, 0, none⟩) n_15 cap_14) (fun w => by kernel_rfl) (by kernel_rfl) ?_
                refine s_val (some 88) (.int .i64 ((k : Nat) : Int)) (fun w => by kernel_rfl) (by kernel_rfl) ?_
                refine s_valE (some 89) (.int .i64 (IntKind.i64.wrap (((k : Nat) : Int) - 2))) (.int .i64 ((k - 2 : Nat) : Int)) (fun w => by kernel_rfl) (int_eq (wrapSub_i64 (a := k) (b := 2) (by omega))) (by kernel_rfl) ?_
                refine s_op (some 90) _ (.pointer (some ⟨b_13, 0 + (k - 2) * 1, none⟩)) (by kernel_rfl) (by kernel_rfl) (fun o w ho => idxS_run (kd := .i64) (t := 39) (e := 3) (size := 1) (bytes := 8) (by kernel_rfl) (x := (.tmp 87)) (y := (.tmp 89)) b_13 0 n_15 cap_14 (k - 2) ho (by kernel_rfl) (by kernel_rfl) (by omega) w) ?_
                refine s_load1 H7 (some 91) 3 (.tmp 90) 4 b_13 (0 + (k - 2) * 1) cur_16 3 (0, 0) (.int .i64 ((List.getD l_17 (k - 2) 0 : Nat) : Int)) (by kernel_rfl) (by kernel_rfl) (by kernel_rfl) (by kernel_rfl) (by kernel_rfl) (hs_18r.atD (by omega) hs_18n) ?_
                refine s_valE (some 92) (.int .i64 (IntKind.i64.wrap (((q + (List.getD l_11 (k - 1) 0) : Nat) : Int) + ((List.getD l_17 (k - 2) 0 : Nat) : Int)))) (.int .i64 (((q + (List.getD l_11 (k - 1) 0)) + (List.getD l_17 (k - 2) 0) : Nat) : Int)) (fun w => by kernel_rfl) (int_eq (wrapAdd_i64 (a := q + (List.getD l_11 (k - 1) 0)) (b := List.getD l_17 (k - 2) 0) (by omega))) (by kernel_rfl) ?_
                refine s_val (some 16) (.int .i64 (((q + (List.getD l_11 (k - 1) 0)) + (List.getD l_17 (k - 2) 0) : Nat) : Int)) (fun w => by kernel_rfl) (by kernel_rfl) ?_
                refine s_nil ?_
                show WP _ _ _ _ _ _
                refine g_sreg [0, 1, 2, 3, 4, 5] (by kernel_rfl) (by kernel_rfl) ?_
                refine s_val (some 93) (.slice (some ⟨b2, 0, none⟩) n2 cap2) (fun w => by kernel_rfl) (by kernel_rfl) ?_
                refine s_val (some 94) (.int .i64 (((q + (List.getD l_11 (k - 1) 0)) + (List.getD l_17 (k - 2) 0) : Nat) : Int)) (fun w => by kernel_rfl) (by kernel_rfl) ?_
                refine s_valE (some 95) (.int .i64 (Int.tmod (((q + (List.getD l_11 (k - 1) 0)) + (List.getD l_17 (k - 2) 0) : Nat) : Int) 65536)) (.int .i64 ((((q + (List.getD l_11 (k - 1) 0)) + (List.getD l_17 (k - 2) 0)) % 65536 : Nat) : Int)) (fun w => by kernel_rfl) (int_eq (remN ((q + (List.getD l_11 (k - 1) 0)) + (List.getD l_17 (k - 2) 0)) 65536)) (by kernel_rfl) ?_
                refine s_new H7 (some 96) (fun b => .slice (some ⟨b, 0, none⟩) 1 1) #[.int .i64 ((((q + (List.getD l_11 (k - 1) 0)) + (List.getD l_17 (k - 2) 0)) % 65536 : Nat) : Int)] 3 (fun w => by kernel_rfl) (by kernel_rfl) ?_
                intro b12 w26 H26; clear H7
                refine s_append H26 (some 97) 39 3 1 8 (.tmp 93) (.tmp 96) 1 0 b2 b12 n2 1 cap2 1 cur2 #[.int .i64 ((((q + (List.getD l_11 (k - 1) 0)) + (List.getD l_17 (k - 2) 0)) % 65536 : Nat) : Int)] 3 (0, 0) (cellsD l2) ([.int .i64 ((((q + (List.getD l_11 (k - 1) 0)) + (List.getD l_17 (k - 2) 0)) % 65536 : Nat) : Int)]) (fun b_55 cur_57 => [(b12, Obj.cells #[.int .i64 ((((q + (List.getD l_11 (k - 1) 0)) + (List.getD l_17 (k - 2) 0)) % 65536 : Nat) : Int)] 3 (0, 0)), (b_55, Obj.cells cur_57 3 (0, 0)), (b, Obj.cells cur 3 (0, 0)), (b_1, Obj.cells cur_4 3 (0, 0)), (b_7, Obj.cells cur_10 3 (0, 0)), (b_13, Obj.cells cur_16 3 (0, 0))]) (by kernel_rfl) (by kernel_rfl) (by kernel_rfl) (by kernel_rfl) (by kernel_rfl) hr2 (by kernel_rfl) (by kernel_rfl) (by rfl) (by rfl) (by intro u hu; simp at hu; first | exact hu.elim | (rcases hu with rfl | rfl | rfl | rfl <;> rfl) | (rcases hu with rfl | rfl <;> rfl) | (subst hu; rfl)) (by omega) (by unfold maxLen; omega) (fun _ _ => by kernel_rfl) ?_
                intro b_55 cap_56 cur_57 w27 H27 hr_58; clear H26
                have hr_58t : Rw 1 cur_57 cap_56 (n2 + 1) (cellsD (l2 ++ [((q + (List.getD l_11 (k - 1) 0)) + (List.getD l_17 (k - 2) 0)) % 65536])) := by rw [cellsD_append]; exact hr_58
                refine s_val (some 13) (.slice (some ⟨b_55, 0, none⟩) (n2 + 1) cap_56) (fun w => by kernel_rfl) (by kernel_rfl) ?_
                refine s_nil ?_
                refine g_reg0 [0, 1, 2] (by kernel_rfl) ?_
                refine s_val (some 98) (.int .i64 (((q + (List.getD l_11 (k - 1) 0)) + (List.getD l_17 (k - 2) 0) : Nat) : Int)) (fun w => by kernel_rfl) (by kernel_rfl) ?_
                refine s_valE (some 99) (.int .i64 (IntKind.i64.wrap ((((q + (List.getD l_11 (k - 1) 0)) + (List.getD l_17 (k - 2) 0) : Nat) : Int).tdiv 65536))) (.int .i64 ((((q + (List.getD l_11 (k - 1) 0)) + (List.getD l_17 (k - 2) 0)) / 65536 : Nat) : Int)) (fun w => by kernel_rfl) (int_eq (quoN_i64 (a := (q + (List.getD l_11 (k - 1) 0)) + (List.getD l_17 (k - 2) 0)) (b := 65536) (by omega))) (by kernel_rfl) ?_
                refine s_val (some 14) (.int .i64 ((((q + (List.getD l_11 (k - 1) 0)) + (List.getD l_17 (k - 2) 0)) / 65536 : Nat) : Int)) (fun w => by kernel_rfl) (by kernel_rfl) ?_
                refine s_nil ?_
                show WP _ _ _ _ _ _
                refine g_reg0 [0, 1, 2] (by kernel_rfl) ?_
                refine s_val (some 48) (.int .i64 ((k : Nat) : Int)) (fun w => by kernel_rfl) (by kernel_rfl) ?_
                refine s_valE (some 49) (.int .i64 (IntKind.i64.wrap (((k : Nat) : Int) + 1))) (.int .i64 ((k + 1 : Nat) : Int)) (fun w => by kernel_rfl) (int_eq (wrapAdd_i64 (a := k) (b := 1) (by omega))) (by kernel_rfl) ?_
                refine s_val (some 15) (.int .i64 ((k + 1 : Nat) : Int)) (fun w => by kernel_rfl) (by kernel_rfl) ?_
                refine s_nil ?_
                have hd : (q + (List.getD l_11 (k - 1) 0)) + (List.getD l_17 (k - 2) 0) = q + List.getD l_5 k 0 + List.getD (0 :: l_11) k 0 + List.getD (0 :: 0 :: l_17) k 0 := by omega
                have hD2 := hD.next hs_6o hs_12o hs_18o _ hd
                have HD30 : St w.heap.size w w27 [(b_55, Obj.cells cur_57 3 (0, 0)), (b, Obj.cells cur 3 (0, 0)), (b_1, Obj.cells cur_4 3 (0, 0)), (b_7, Obj.cells cur_10 3 (0, 0)), (b_13, Obj.cells cur_16 3 (0, 0))] := H27.sub (List.Sublist.cons _ (List.Sublist.cons_cons _ (List.Sublist.cons_cons _ (List.Sublist.cons_cons _ (List.Sublist.cons_cons _ (List.Sublist.cons_cons _ List.Sublist.slnil))))))
                show ∃ m, _ ∧ _
                exact ⟨_, (by omega), b_55, cap_56, n2 + 1, cur_57, (l2 ++ [((q + (List.getD l_11 (k - 1) 0)) + (List.getD l_17 (k - 2) 0)) % 65536]), (k + 1), ((q + (List.getD l_11 (k - 1) 0)) + (List.getD l_17 (k - 2) 0)) / 65536, rfl, (by rw [List.length_append, ← hn2]; rfl), hr_58t, (by omega), hD2, HD30, (Is.of ⟨(by kernel_rfl), (by kernel_rfl), (by kernel_rfl), (by kernel_rfl), (by kernel_rfl), (by kernel_rfl), (by kernel_rfl), (by kernel_rfl), (by kernel_rfl), (by kernel_rfl), (by kernel_rfl), (by kernel_rfl), (by kernel_rfl), (by kernel_rfl), (by kernel_rfl), trivial⟩)⟩
              · skip
                refine s_valE (some 84) (.bool (decide (((k - 2 : Nat) : Int) < ((n_15 : Nat) : Int)))) (.bool false) (fun w => by kernel_rfl) (bool_eq (decide_eq_false (by omega))) (by kernel_rfl) ?_
                refine s_val (some 85) (.bool false) (fun w => by kernel_rfl) (by kernel_rfl) ?_
                refine s_nil ?_
                refine g_cond_f (by kernel_rfl) (by kernel_rfl) ?_
                refine g_skip (by kernel_rfl) ?_
                show WP _ _ _ _ _ _
                refine g_sreg [0, 1, 2, 3, 4, 5] (by kernel_rfl) (by kernel_rfl) ?_
                refine s_val (some 93) (.slice (some ⟨b2, 0, none⟩) n2 cap2) (fun w => by kernel_rfl) (by kernel_rfl) ?_
                refine s_val (some 94) (.int .i64 ((q + (List.getD l_11 (k - 1) 0) : Nat) : Int)) (fun w => by kernel_rfl) (by kernel_rfl) ?_
                refine s_valE (some 95) (.int .i64 (Int.tmod ((q + (List.getD l_11 (k - 1) 0) : Nat) : Int) 65536)) (.int .i64 (((q + (List.getD l_11 (k - 1) 0)) % 65536 : Nat) : Int)) (fun w => by kernel_rfl) (int_eq (remN (q + (List.getD l_11 (k - 1) 0)) 65536)) (by kernel_rfl) ?_
                refine s_new H7 (some 96) (fun b => .slice (some ⟨b, 0, none⟩) 1 1) #[.int .i64 (((q + (List.getD l_11 (k - 1) 0)) % 65536 : Nat) : Int)] 3 (fun w => by kernel_rfl) (by kernel_rfl) ?_
                intro b13 w28 H28; clear H7
                refine s_append H28 (some 97) 39 3 1 8 (.tmp 93) (.tmp 96) 1 0 b2 b13 n2 1 cap2 1 cur2 #[.int .i64 (((q + (List.getD l_11 (k - 1) 0)) % 65536 : Nat) : Int)] 3 (0, 0) (cellsD l2) ([.int .i64 (((q + (List.getD l_11 (k - 1) 0)) % 65536 : Nat) : Int)]) (fun b_59 cur_61 => [(b13, Obj.cells #[.int .i64 (((q + (List.getD l_11 (k - 1) 0)) % 65536 : Nat) : Int)] 3 (0, 0)), (b_59, Obj.cells cur_61 3 (0, 0)), (b, Obj.cells cur 3 (0, 0)), (b_1, Obj.cells cur_4 3 (0, 0)), (b_7, Obj.cells cur_10 3 (0, 0)), (b_13, Obj.cells cur_16 3 (0, 0))]) (by kernel_rfl) (by kernel_rfl) (by kernel_rfl) (by kernel_rfl) (by kernel_rfl) hr2 (by kernel_rfl) (by kernel_rfl) (by rfl) (by rfl) (by intro u hu; simp at hu; first | exact hu.elim | (rcases hu with rfl | rfl | rfl | rfl <;> rfl) | (rcases hu with rfl | rfl <;> rfl) | (subst hu; rfl)) (by omega) (by unfold maxLen; omega) (fun _ _ => by kernel_rfl) ?_
                intro b_59 cap_60 cur_61 w29 H29 hr_62; clear H28
                have hr_62t : Rw 1 cur_61 cap_60 (n2 + 1) (cellsD (l2 ++ [(q + (List.getD l_11 (k - 1) 0)) % 65536])) := by rw [cellsD_append]; exact hr_62
                refine s_val (some 13) (.slice (some ⟨b_59, 0, none⟩) (n2 + 1) cap_60) (fun w => by kernel_rfl) (by kernel_rfl) ?_
                refine s_nil ?_
                refine g_reg0 [0, 1, 2] (by kernel_rfl) ?_
                refine s_val (some 98) (.int .i64 ((q + (List.getD l_11 (k - 1) 0) : Nat) : Int)) (fun w => by kernel_rfl) (by kernel_rfl) ?_
                refine s_valE (some 99) (.int .i64 (IntKind.i64.wrap (((q + (List.getD l_11 (k - 1) 0) : Nat) : Int).tdiv 65536))) (.int .i64 (((q + (List.getD l_11 (k - 1) 0)) / 65536 : Nat) : Int)) (fun w => by kernel_rfl) (int_eq (quoN_i64 (a := q + (List.getD l_11 (k - 1) 0)) (b := 65536) (by omega))) (by kernel_rfl) ?_
                refine s_val (some 14) (.int .i64 (((q + (List.getD l_11 (k - 1) 0)) / 65536 : Nat) : Int)) (fun w => by kernel_rfl) (by kernel_rfl) ?_
                refine s_nil ?_
                show WP _ _ _ _ _ _
                refine g_reg0 [0, 1, 2] (by kernel_rfl) ?_
                refine s_val (some 48) (.int .i64 ((k : Nat) : Int)) (fun w => by kernel_rfl) (by kernel_rfl) ?_
                refine s_valE (some 49) (.int .i64 (IntKind.i64.wrap (((k : Nat) : Int) + 1))) (.int .i64 ((k + 1 : Nat) : Int)) (fun w => by kernel_rfl) (int_eq (wrapAdd_i64 (a := k) (b := 1) (by omega))) (by kernel_rfl) ?_
                refine s_val (some 15) (.int .i64 ((k + 1 : Nat) : Int)) (fun w => by kernel_rfl) (by kernel_rfl) ?_
                refine s_nil ?_
                have hd : q + (List.getD l_11 (k - 1) 0) = q + List.getD l_5 k 0 + List.getD (0 :: l_11) k 0 + List.getD (0 :: 0 :: l_17) k 0 := by omega
                have hD2 := hD.next hs_6o hs_12o hs_18o _ hd
                have HD31 : St w.heap.size w w29 [(b_59, Obj.cells cur_61 3 (0, 0)), (b, Obj.cells cur 3 (0, 0)), (b_1, Obj.cells cur_4 3 (0, 0)), (b_7, Obj.cells cur_10 3 (0, 0)), (b_13, Obj.cells cur_16 3 (0, 0))] := H29.sub (List.Sublist.cons _ (List.Sublist.cons_cons _ (List.Sublist.cons_cons _ (List.Sublist.cons_cons _ (List.Sublist.cons_cons _ (List.Sublist.cons_cons _ List.Sublist.slnil))))))
                show ∃ m, _ ∧ _
                exact ⟨_, (by omega), b_59, cap_60, n2 + 1, cur_61, (l2 ++ [(q + (List.getD l_11 (k - 1) 0)) % 65536]), (k + 1), (q + (List.getD l_11 (k - 1) 0)) / 65536, rfl, (by rw [List.length_append, ← hn2]; rfl), hr_62t, (by omega), hD2, HD31, (Is.of ⟨(by kernel_rfl), (by kernel_rfl), (by kernel_rfl), (by kernel_rfl), (by kernel_rfl), (by kernel_rfl), (by kernel_rfl), (by kernel_rfl), (by kernel_rfl), (by kernel_rfl), (by kernel_rfl), (by kernel_rfl), (by kernel_rfl), (by kernel_rfl), (by kernel_rfl), trivial⟩)⟩
            · skip
              refine s_valE (some 78) (.bool (decide (2 ≤ ((k : Nat) : Int)))) (.bool false) (fun w => by kernel_rfl) (bool_eq (decide_eq_false (by omega))) (by kernel_rfl) ?_
              refine s_val (some 79) (.bool false) (fun w => by kernel_rfl) (by kernel_rfl) ?_
              refine s_not (some 80) (by kernel_rfl) (by kernel_rfl) ?_
              refine s_not (some 81) (by kernel_rfl) (by kernel_rfl) ?_
              refine s_not (some 82) (by kernel_rfl) (by kernel_rfl) ?_
              refine s_not (some 83) (by kernel_rfl) (by kernel_rfl) ?_
              refine s_not (some 84) (by kernel_rfl) (by kernel_rfl) ?_
              refine s_val (some 85) (.bool false) (fun w => by kernel_rfl) (by kernel_rfl) ?_
              refine s_nil ?_
              refine g_cond_f (by kernel_rfl) (by kernel_rfl) ?_
              refine g_skip (by kernel_rfl) ?_
              show WP _ _ _ _ _ _
              refine g_sreg [0, 1, 2, 3, 4, 5] (by kernel_rfl) (by kernel_rfl) ?_
              refine s_val (some 93) (.slice (some ⟨b2, 0, none⟩) n2 cap2) (fun w => by kernel_rfl) (by kernel_rfl) ?_
              refine s_val (some 94) (.int .i64 ((q + (List.getD l_11 (k - 1) 0) : Nat) : Int)) (fun w => by kernel_rfl) (by kernel_rfl) ?_
              refine s_valE (some 95) (.int .i64 (Int.tmod ((q + (List.getD l_11 (k - 1) 0) : Nat) : Int) 65536)) (.int .i64 (((q + (List.getD l_11 (k - 1) 0)) % 65536 : Nat) : Int)) (fun w => by kernel_rfl) (int_eq (remN (q + (List.getD l_11 (k - 1) 0)) 65536)) (by kernel_rfl) ?_
              refine s_new H7 (some 96) (fun b => .slice (some ⟨b, 0, none⟩) 1 1) #[.int .i64 (((q + (List.getD l_11 (k - 1) 0)) % 65536 : Nat) : Int)] 3 (fun w => by kernel_rfl) (by kernel_rfl) ?_
              intro b14 w30 H30; clear H7
              refine s_append H30 (some 97) 39 3 1 8 (.tmp 93) (.tmp 96) 1 0 b2 b14 n2 1 cap2 1 cur2 #[.int .i64 (((q + (List.getD l_11 (k - 1) 0)) % 65536 : Nat) : Int)] 3 (0, 0) (cellsD l2) ([.int .i64 (((q + (List.getD l_11 (k - 1) 0)) % 65536 : Nat) : Int)]) (fun b_63 cur_65 => [(b14, Obj.cells #[.int .i64 (((q + (List.getD l_11 (k - 1) 0)) % 65536 : Nat) : Int)] 3 (0, 0)), (b_63, Obj.cells cur_65 3 (0, 0)), (b, Obj.cells cur 3 (0, 0)), (b_1, Obj.cells cur_4 3 (0, 0)), (b_7, Obj.cells cur_10 3 (0, 0)), (b_13, Obj.cells cur_16 3 (0, 0))]) (by kernel_rfl) (by kernel_rfl) (by kernel_rfl) (by kernel_rfl) (by kernel_rfl) hr2 (by kernel_rfl) (by kernel_rfl) (by rfl) (by rfl) (by intro u hu; simp at hu; first | exact hu.elim | (rcases hu with rfl | rfl | rfl | rfl <;> rfl) | (rcases hu with rfl | rfl <;> rfl) | (subst hu; rfl)) (by omega) (by unfold maxLen; omega) (fun _ _ => by kernel_rfl) ?_
              intro b_63 cap_64 cur_65 w31 H31 hr_66; clear H30
              have hr_66t : Rw 1 cur_65 cap_64 (n2 + 1) (cellsD (l2 ++ [(q + (List.getD l_11 (k - 1) 0)) % 65536])) := by rw [cellsD_append]; exact hr_66
              refine s_val (some 13) (.slice (some ⟨b_63, 0, none⟩) (n2 + 1) cap_64) (fun w => by kernel_rfl) (by kernel_rfl) ?_
              refine s_nil ?_
              refine g_reg0 [0, 1, 2] (by kernel_rfl) ?_
              refine s_val (some 98) (.int .i64 ((q + (List.getD l_11 (k - 1) 0) : Nat) : Int)) (fun w => by kernel_rfl) (by kernel_rfl) ?_
              refine s_valE (some 99) (.int .i64 (IntKind.i64.wrap (((q + (List.getD l_11 (k - 1) 0) : Nat) : Int).tdiv 65536))) (.int .i64 (((q + (List.getD l_11 (k - 1) 0)) / 65536 : Nat) : Int)) (fun w => by kernel_rfl) (int_eq (quoN_i64 (a := q + (List.getD l_11 (k - 1) 0)) (b := 65536) (by omega))) (by kernel_rfl) ?_
              refine s_val (some 14) (.int .i64 (((q + (List.getD l_11 (k - 1) 0)) / 65536 : Nat) : Int)) (fun w => by kernel_rfl) (by kernel_rfl) ?_
              refine s_nil ?_
              show WP _ _ _ _ _ _
              refine g_reg0 [0, 1, 2] (by kernel_rfl) ?_
              refine s_val (some 48) (.int .i64 ((k : Nat) : Int)) (fun w => by kernel_rfl) (by kernel_rfl) ?_
              refine s_valE (some 49) (.int .i64 (IntKind.i64.wrap (((k : Nat) : Int) + 1))) (.int .i64 ((k + 1 : Nat) : Int)) (fun w => by kernel_rfl) (int_eq (wrapAdd_i64 (a := k) (b := 1) (by omega))) (by kernel_rfl) ?_
              refine s_val (some 15) (.int .i64 ((k + 1 : Nat) : Int)) (fun w => by kernel_rfl) (by kernel_rfl) ?_
              refine s_nil ?_
              have hd : q + (List.getD l_11 (k - 1) 0) = q + List.getD l_5 k 0 + List.getD (0 :: l_11) k 0 + List.getD (0 :: 0 :: l_17) k 0 := by omega
              have hD2 := hD.next hs_6o hs_12o hs_18o _ hd
              have HD32 : St w.heap.size w w31 [(b_63, Obj.cells cur_65 3 (0, 0)), (b, Obj.cells cur 3 (0, 0)), (b_1, Obj.cells cur_4 3 (0, 0)), (b_7, Obj.cells cur_10 3 (0, 0)), (b_13, Obj.cells cur_16 3 (0, 0))] := H31.sub (List.Sublist.cons _ (List.Sublist.cons_cons _ (List.Sublist.cons_cons _ (List.Sublist.cons_cons _ (List.Sublist.cons_cons _ (List.Sublist.cons_cons _ List.Sublist.slnil))))))
              show ∃ m, _ ∧ _
              exact ⟨_, (by omega), b_63, cap_64, n2 + 1, cur_65, (l2 ++ [(q + (List.getD l_11 (k - 1) 0)) % 65536]), (k + 1), (q + (List.getD l_11 (k - 1) 0)) / 65536, rfl, (by rw [List.length_append, ← hn2]; rfl), hr_66t, (by omega), hD2, HD32, (Is.of ⟨(by kernel_rfl), (by kernel_rfl), (by kernel_rfl), (by kernel_rfl), (by kernel_rfl), (by kernel_rfl), (by kernel_rfl), (by kernel_rfl), (by kernel_rfl), (by kernel_rfl), (by kernel_rfl), (by kernel_rfl), (by kernel_rfl), (by kernel_rfl), (by kernel_rfl), trivial⟩)⟩
          · skip
            refine s_valE (some 68) (.bool (decide (((k - 1 : Nat) : Int) < ((n_9 : Nat) : Int)))) (.bool false) (fun w => by kernel_rfl) (bool_eq (decide_eq_false (by omega))) (by kernel_rfl) ?_
            refine s_val (some 69) (.bool false) (fun w => by kernel_rfl) (by kernel_rfl) ?_
            refine s_nil ?_
            refine g_cond_f (by kernel_rfl) (by kernel_rfl) ?_
            refine g_skip (by kernel_rfl) ?_
            show WP _ _ _ _ _ _
            refine g_seq (by kernel_rfl) ?_
            refine g_sreg [0, 1, 2, 3, 4, 5, 6, 7, 8] (by kernel_rfl) (by kernel_rfl) ?_
            refine s_val (some 77) (.int .i64 ((k : Nat) : Int)) (fun w => by kernel_rfl) (by kernel_rfl) ?_
            by_cases hc33 : (k : Nat) ≥ 2
            · skip
              refine s_valE (some 78) (.bool (decide (2 ≤ ((k : Nat) : Int)))) (.bool true) (fun w => by kernel_rfl) (bool_eq (decide_eq_true (by omega))) (by kernel_rfl) ?_
              refine s_val (some 79) (.bool true) (fun w => by kernel_rfl) (by kernel_rfl) ?_
              refine s_val (some 80) (.int .i64 ((k : Nat) : Int)) (fun w => by kernel_rfl) (by kernel_rfl) ?_
              refine s_valE (some 81) (.int .i64 (IntKind.i64.wrap (((k : Nat) : Int) - 2))) (.int .i64 ((k - 2 : Nat) : Int)) (fun w => by kernel_rfl) (int_eq (wrapSub_i64 (a := k) (b := 2) (by omega))) (by kernel_rfl) ?_
              refine s_val (some 82) (.slice (some ⟨b_13, 0, none⟩) n_15 cap_14) (fun w => by kernel_rfl) (by kernel_rfl) ?_
              refine s_val (some 83) (.int .i64 ((n_15 : Nat) : Int)) (fun w => by kernel_rfl) (by kernel_rfl) ?_
              by_cases hc34 : (k - 2 : Nat) < n_15
              · skip
                refine s_valE (some 84) (.bool (decide (((k - 2 : Nat) : Int) < ((n_15 : Nat) : Int)))) (.bool true) (fun w => by kernel_rfl) (bool_eq (decide_eq_true (by omega))) (by kernel_rfl) ?_
                refine s_val (some 85) (.bool true) (fun w => by kernel_rfl) (by kernel_rfl) ?_
                refine s_nil ?_
                refine g_cond_t (by kernel_rfl) (by kernel_rfl) ?_
                refine g_reg0 [0, 1, 2, 3, 4, 5, 6, 7] (by kernel_rfl) ?_
                refine s_val (some 86) (.int .i64 ((q : Nat) : Int)) (fun w => by kernel_rfl) (by kernel_rfl) ?_
                refine s_val (some 87) (.slice (some ⟨b_13, 0, none⟩) n_15 cap_14) (fun w => by kernel_rfl) (by kernel_rfl) ?_
                refine s_val (some 88) (.int .i64 ((k : Nat) : Int)) (fun w => by kernel_rfl) (by kernel_rfl) ?_
                refine s_valE (some 89) (.int .i64 (IntKind.i64.wrap (((k : Nat) : Int) - 2))) (.int .i64 ((k - 2 : Nat) : Int)) (fun w => by kernel_rfl) (int_eq (wrapSub_i64 (a := k) (b := 2) (by omega))) (by kernel_rfl) ?_
                refine s_op (some 90) _ (.pointer (some ⟨b_13, 0 + (k - 2) * 1, none⟩)) (by kernel_rfl) (by kernel_rfl) (fun o w ho => idxS_run (kd := .i64) (t := 39) (e := 3) (size := 1) (bytes := 8) (by kernel_rfl) (x := (.tmp 87)) (y := (.tmp 89)) b_13 0 n_15 cap_14 (k - 2) ho (by kernel_rfl) (by kernel_rfl) (by omega) w) ?_
                refine s_load1 H7 (some 91) 3 (.tmp 90) 4 b_13 (0 + (k - 2) * 1) cur_16 3 (0, 0) (.int .i64 ((List.getD l_17 (k - 2) 0 : Nat) : Int)) (by kernel_rfl) (by kernel_rfl) (by kernel_rfl) (by kernel_rfl) (by kernel_rfl) (hs_18r.atD (by omega) hs_18n) ?_
                refine s_valE (some 92) (.int .i64 (IntKind.i64.wrap (((q : Nat) : Int) + ((List.getD l_17 (k - 2) 0 : Nat) : Int)))) (.int .i64 ((q + (List.getD l_17 (k - 2) 0) : Nat) : Int)) (fun w => by kernel_rfl) (int_eq (wrapAdd_i64 (a := q) (b := List.getD l_17 (k - 2) 0) (by omega))) (by kernel_rfl) ?_
                refine s_val (some 16) (.int .i64 ((q + (List.getD l_17 (k - 2) 0) : Nat) : Int)) (fun w => by kernel_rfl) (by kernel_rfl) ?_
                refine s_nil ?_
                show WP _ _ _ _ _ _
                refine g_sreg [0, 1, 2, 3, 4, 5] (by kernel_rfl) (by kernel_rfl) ?_
                refine s_val (some 93) (.slice (some ⟨b2, 0, none⟩) n2 cap2) (fun w => by kernel_rfl) (by kernel_rfl) ?_
                refine s_val (some 94) (.int .i64 ((q + (List.getD l_17 (k - 2) 0) : Nat) : Int)) (fun w => by kernel_rfl) (by kernel_rfl) ?_
                refine s_valE (some 95) (.int .i64 (Int.tmod ((q + (List.getD l_17 (k - 2) 0) : Nat) : Int) 65536)) (.int .i64 (((q + (List.getD l_17 (k - 2) 0)) % 65536 : Nat) : Int)) (fun w => by kernel_rfl) (int_eq (remN (q + (List.getD l_17 (k - 2) 0)) 65536)) (by kernel_rfl) ?_
                refine s_new H7 (some 96) (fun b => .slice (some ⟨b, 0, none⟩) 1 1) #[.int .i64 (((q + (List.getD l_17 (k - 2) 0)) % 65536 : Nat) : Int)] 3 (fun w => by kernel_rfl) (by kernel_rfl) ?_
                intro b15 w32 H32; clear H7
                refine s_append H32 (some 97) 39 3 1 8 (.tmp 93) (.tmp 96) 1 0 b2 b15 n2 1 cap2 1 cur2 #[.int .i64 (((q + (List.getD l_17 (k - 2) 0)) % 65536 : Nat) : Int)] 3 (0, 0) (cellsD l2) ([.int .i64 (((q + (List.getD l_17 (k - 2) 0)) % 65536 : Nat) : Int)]) (fun b_67 cur_69 => [(b15, Obj.cells #[.int .i64 (((q + (List.getD l_17 (k - 2) 0)) % 65536 : Nat) : Int)] 3 (0, 0)), (b_67, Obj.cells cur_69 3 (0, 0)), (b, Obj.cells cur 3 (0, 0)), (b_1, Obj.cells cur_4 3 (0, 0)), (b_7, Obj.cells cur_10 3 (0, 0)), (b_13, Obj.cells cur_16 3 (0, 0))]) (by kernel_rfl) (by kernel_rfl) (by kernel_rfl) (by kernel_rfl) (by kernel_rfl) hr2 (by kernel_rfl) (by kernel_rfl) (by rfl) (by rfl) (by intro u hu; simp at hu; first | exact hu.elim | (rcases hu with rfl | rfl | rfl | rfl <;> rfl) | (rcases hu with rfl | rfl <;> rfl) | (subst hu; rfl)) (by omega) (by unfold maxLen; omega) (fun _ _ => by kernel_rfl) ?_
                intro b_67 cap_68 cur_69 w33 H33 hr_70; clear H32
                have hr_70t : Rw 1 cur_69 cap_68 (n2 + 1) (cellsD (l2 ++ [(q + (List.getD l_17 (k - 2) 0)) % 65536])) := by rw [cellsD_append]; exact hr_70
                refine s_val (some 13) (.slice (some ⟨b_67, 0, none⟩) (n2 + 1) cap_68) (fun w => by kernel_rfl) (by kernel_rfl) ?_
                refine s_nil ?_
                refine g_reg0 [0, 1, 2] (by kernel_rfl) ?_
                refine s_val (some 98) (.int .i64 ((q + (List.getD l_17 (k - 2) 0) : Nat) : Int)) (fun w => by kernel_rfl) (by kernel_rfl) ?_
                refine s_valE (some 99) (.int .i64 (IntKind.i64.wrap (((q + (List.getD l_17 (k - 2) 0) : Nat) : Int).tdiv 65536))) (.int .i64 (((q + (List.getD l_17 (k - 2) 0)) / 65536 : Nat) : Int)) (fun w => by kernel_rfl) (int_eq (quoN_i64 (a := q + (List.getD l_17 (k - 2) 0)) (b := 65536) (by omega))) (by kernel_rfl) ?_
                refine s_val (some 14) (.int .i64 (((q + (List.getD l_17 (k - 2) 0)) / 65536 : Nat) : Int)) (fun w => by kernel_rfl) (by kernel_rfl) ?_
                refine s_nil ?_
                show WP _ _ _ _ _ _
                refine g_reg0 [0, 1, 2] (by kernel_rfl) ?_
                refine s_val (some 48) (.int .i64 ((k : Nat) : Int)) (fun w => by kernel_rfl) (by kernel_rfl) ?_
                refine s_valE (some 49) (.int .i64 (IntKind.i64.wrap (((k : Nat) : Int) + 1))) (.int .i64 ((k + 1 : Nat) : Int)) (fun w => by kernel_rfl) (int_eq (wrapAdd_i64 (a := k) (b := 1) (by omega))) (by kernel_rfl) ?_
                refine s_val (some 15) (.int .i64 ((k + 1 : Nat) : Int)) (fun w => by kernel_rfl) (by kernel_rfl) ?_
                refine s_nil ?_
                have hd : q + (List.getD l_17 (k - 2) 0) = q + List.getD l_5 k 0 + List.getD (0 :: l_11) k 0 + List.getD (0 :: 0 :: l_17) k 0 := by omega
                have hD2 := hD.next hs_6o hs_12o hs_18o _ hd
                have HD35 : St w.heap.size w w33 [(b_67, Obj.cells cur_69 3 (0, 0)), (b, Obj.cells cur 3 (0, 0)), (b_1, Obj.cells cur_4 3 (0, 0)), (b_7, Obj.cells cur_10 3 (0, 0)), (b_13, Obj.cells cur_16 3 (0, 0))] := H33.sub (List.Sublist.cons _ (List.Sublist.cons_cons _ (List.Sublist.cons_cons _ (List.Sublist.cons_cons _ (List.Sublist.cons_cons _ (List.Sublist.cons_cons _ List.Sublist.slnil))))))
                show ∃ m, _ ∧ _
                exact ⟨_, (by omega), b_67, cap_68, n2 + 1, cur_69, (l2 ++ [(q + (List.getD l_17 (k - 2) 0)) % 65536]), (k + 1), (q + (List.getD l_17 (k - 2) 0)) / 65536, rfl, (by rw [List.length_append, ← hn2]; rfl), hr_70t, (by omega), hD2, HD35, (Is.of ⟨(by kernel_rfl), (by kernel_rfl), (by kernel_rfl), (by kernel_rfl), (by kernel_rfl), (by kernel_rfl), (by kernel_rfl), (by kernel_rfl), (by kernel_rfl), (by kernel_rfl), (by kernel_rfl), (by kernel_rfl), (by kernel_rfl), (by kernel_rfl), (by kernel_rfl), trivial⟩)⟩
              · skip
                refine s_valE (some 84) (.bool (decide (((k - 2 : Nat) : Int) < ((n_15 : Nat) : Int)))) (.bool false) (fun w => by kernel_rfl) (bool_eq (decide_eq_false (by omega))) (by kernel_rfl) ?_
                refine s_val (some 85) (.bool false) (fun w => by kernel_rfl) (by kernel_rfl) ?_
                refine s_nil ?_
                refine g_cond_f (by kernel_rfl) (by kernel_rfl) ?_
                refine g_skip (by kernel_rfl) ?_
                show WP _ _ _ _ _ _
                refine g_sreg [0, 1, 2, 3, 4, 5] (by kernel_rfl) (by kernel_rfl) ?_
                refine s_val (some 93) (.slice (some ⟨b2, 0, none⟩) n2 cap2) (fun w => by kernel_rfl) (by kernel_rfl) ?_
                refine s_val (some 94) (.int .i64 ((q : Nat) : Int)) (fun w => by kernel_rfl) (by kernel_rfl) ?_
                refine s_valE (some 95) (.int .i64 (Int.tmod ((q : Nat) : Int) 65536)) (.int .i64 ((q % 65536 : Nat) : Int)) (fun w => by kernel_rfl) (int_eq (remN q 65536)) (by kernel_rfl) ?_
                refine s_new H7 (some 96) (fun b => .slice (some ⟨b, 0, none⟩) 1 1) #[.int .i64 ((q % 65536 : Nat) : Int)] 3 (fun w => by kernel_rfl) (by kernel_rfl) ?_
                intro b16 w34 H34; clear H7
                refine s_append H34 (some 97) 39 3 1 8 (.tmp 93) (.tmp 96) 1 0 b2 b16 n2 1 cap2 1 cur2 #[.int .i64 ((q % 65536 : Nat) : Int)] 3 (0, 0) (cellsD l2) ([.int .i64 ((q % 65536 : Nat) : Int)]) (fun b_71 cur_73 => [(b16, Obj.cells #[.int .i64 ((q % 65536 : Nat) : Int)] 3 (0, 0)), (b_71, Obj.cells cur_73 3 (0, 0)), (b, Obj.cells cur 3 (0, 0)), (b_1, Obj.cells cur_4 3 (0, 0)), (b_7, Obj.cells cur_10 3 (0, 0)), (b_13, Obj.cells cur_16 3 (0, 0))]) (by kernel_rfl) (by kernel_rfl) (by kernel_rfl) (by kernel_rfl) (by kernel_rfl) hr2 (by kernel_rfl) (by kernel_rfl) (by rfl) (by rfl) (by intro u hu; simp at hu; first | exact hu.elim | (rcases hu with rfl | rfl | rfl | rfl <;> rfl) | (rcases hu with rfl | rfl <;> rfl) | (subst hu; rfl)) (by omega) (by unfold maxLen; omega) (fun _ _ => by kernel_rfl) ?_
                intro b_71 cap_72 cur_73 w35 H35 hr_74; clear H34
                have hr_74t : Rw 1 cur_73 cap_72 (n2 + 1) (cellsD (l2 ++ [q % 65536])) := by rw [cellsD_append]; exact hr_74
                refine s_val (some 13) (.slice (some ⟨b_71, 0, none⟩) (n2 + 1) cap_72) (fun w => by kernel_rfl) (by kernel_rfl) ?_
                refine s_nil ?_
                refine g_reg0 [0, 1, 2] (by kernel_rfl) ?_
                refine s_val (some 98) (.int .i64 ((q : Nat) : Int)) (fun w => by kernel_rfl) (by kernel_rfl) ?_
                refine s_valE (some 99) (.int .i64 (IntKind.i64.wrap (((q : Nat) : Int).tdiv 65536))) (.int .i64 ((q / 65536 : Nat) : Int)) (fun w => by kernel_rfl) (int_eq (quoN_i64 (a := q) (b := 65536) (by omega))) (by kernel_rfl) ?_
                refine s_val (some 14) (.int .i64 ((q / 65536 : Nat) : Int)) (fun w => by kernel_rfl) (by kernel_rfl) ?_
                refine s_nil ?_
                show WP _ _ _ _ _ _
                refine g_reg0 [0, 1, 2] (by kernel_rfl) ?_
                refine s_val (some 48) (.int .i64 ((k : Nat) : Int)) (fun w => by kernel_rfl) (by kernel_rfl) ?_
                refine s_valE (some 49) (.int .i64 (IntKind.i64.wrap (((k : Nat) : Int) + 1))) (.int .i64 ((k + 1 : Nat) : Int)) (fun w => by kernel_rfl) (int_eq (wrapAdd_i64 (a := k) (b := 1) (by omega))) (by kernel_rfl) ?_
                refine s_val (some 15) (.int .i64 ((k + 1 : Nat) : Int)) (fun w => by kernel_rfl) (by kernel_rfl) ?_
                refine s_nil ?_
                have hd : q = q + List.getD l_5 k 0 + List.getD (0 :: l_11) k 0 + List.getD (0 :: 0 :: l_17) k 0 := by omega
                have hD2 := hD.next hs_6o hs_12o hs_18o _ hd
                have HD36 : St w.heap.size w w35 [(b_71, Obj.cells cur_73 3 (0, 0)), (b, Obj.cells cur 3 (0, 0)), (b_1, Obj.cells cur_4 3 (0, 0)), (b_7, Obj.cells cur_10 3 (0, 0)), (b_13, Obj.cells cur_16 3 (0, 0))] := H35.sub (List.Sublist.cons _ (List.Sublist.cons_cons _ (List.Sublist.cons_cons _ (List.Sublist.cons_cons _ (List.Sublist.cons_cons _ (List.Sublist.cons_cons _ List.Sublist.slnil))))))
                show ∃ m, _ ∧ _
                exact ⟨_, (by omega), b_71, cap_72, n2 + 1, cur_73, (l2 ++ [q % 65536]), (k + 1), q / 65536, rfl, (by rw [List.length_append, ← hn2]; rfl), hr_74t, (by omega), hD2, HD36, (Is.of ⟨(by kernel_rfl), (by kernel_rfl), (by kernel_rfl), (by kernel_rfl), (by kernel_rfl), (by kernel_rfl), (by kernel_rfl), (by kernel_rfl), (by kernel_rfl), (by kernel_rfl), (by kernel_rfl), (by kernel_rfl), (by kernel_rfl), (by kernel_rfl), (by kernel_rfl), trivial⟩)⟩
            · skip
              refine s_valE (some 78) (.bool (decide (2 ≤ ((k : Nat) : Int)))) (.bool false) (fun w => by kernel_rfl) (bool_eq (decide_eq_false (by omega))) (by kernel_rfl) ?_
              refine s_val (some 79) (.bool false) (fun w => by kernel_rfl) (by kernel_rfl) ?_
              refine s_not (some 80) (by kernel_rfl) (by kernel_rfl) ?_
              refine s_not (some 81) (by kernel_rfl) (by kernel_rfl) ?_
              refine s_not (some 82) (by kernel_rfl) (by kernel_rfl) ?_
              refine s_not (some 83) (by kernel_rfl) (by kernel_rfl) ?_
              refine s_not (some 84) (by kernel_rfl) (by kernel_rfl) ?_
              refine s_val (some 85) (.bool false) (fun w => by kernel_rfl) (by kernel_rfl) ?_
              refine s_nil ?_
              refine g_cond_f (by kernel_rfl) (by kernel_rfl) ?_
              refine g_skip (by kernel_rfl) ?_
              show WP _ _ _ _ _ _
              refine g_sreg [0, 1, 2, 3, 4, 5] (by kernel_rfl) (by kernel_rfl) ?_
              refine s_val (some 93) (.slice (some ⟨b2, 0, none⟩) n2 cap2) (fun w => by kernel_rfl) (by kernel_rfl) ?_
              refine s_val (some 94) (.int .i64 ((q : Nat) : Int)) (fun w => by kernel_rfl) (by kernel_rfl) ?_
              refine s_valE (some 95) (.int .i64 (Int.tmod ((q : Nat) : Int) 65536)) (.int .i64 ((q % 65536 : Nat) : Int)) (fun w => by kernel_rfl) (int_eq (remN q 65536)) (by kernel_rfl) ?_
              refine s_new H7 (some 96) (fun b => .slice (some ⟨b, 0, none⟩) 1 1) #[.int .i64 ((q % 65536 : Nat) : Int)] 3 (fun w => by kernel_rfl) (by kernel_rfl) ?_
              intro b17 w36 H36; clear H7
              refine s_append H36 (some 97) 39 3 1 8 (.tmp 93) (.tmp 96) 1 0 b2 b17 n2 1 cap2 1 cur2 #[.int .i64 ((q % 65536 : Nat) : Int)] 3 (0, 0) (cellsD l2) ([.int .i64 ((q % 65536 : Nat) : Int)]) (fun b_75 cur_77 => [(b17, Obj.cells #[.int .i64 ((q % 65536 : Nat) : Int)] 3 (0, 0)), (b_75, Obj.cells cur_77 3 (0, 0)), (b, Obj.cells cur 3 (0, 0)), (b_1, Obj.cells cur_4 3 (0, 0)), (b_7, Obj.cells cur_10 3 (0, 0)), (b_13, Obj.cells cur_16 3 (0, 0))]) (by kernel_rfl) (by kernel_rfl) (by kernel_rfl) (by kernel_rfl) (by kernel_rfl) hr2 (by kernel_rfl) (by kernel_rfl) (by rfl) (by rfl) (by intro u hu; simp at hu; first | exact hu.elim | (rcases hu with rfl | rfl | rfl | rfl <;> rfl) | (rcases hu with rfl | rfl <;> rfl) | (subst hu; rfl)) (by omega) (by unfold maxLen; omega) (fun _ _ => by kernel_rfl) ?_
              intro b_75 cap_76 cur_77 w37 H37 hr_78; clear H36
              have hr_78t : Rw 1 cur_77 cap_76 (n2 + 1) (cellsD (l2 ++ [q % 65536])) := by rw [cellsD_append]; exact hr_78
              refine s_val (some 13) (.slice (some ⟨b_75, 0, none⟩) (n2 + 1) cap_76) (fun w => by kernel_rfl) (by kernel_rfl) ?_
              refine s_nil ?_
              refine g_reg0 [0, 1, 2] (by kernel_rfl) ?_
              refine s_val (some 98) (.int .i64 ((q : Nat) : Int)) (fun w => by kernel_rfl) (by kernel_rfl) ?_
              refine s_valE (some 99) (.int .i64 (IntKind.i64.wrap (((q : Nat) : Int).tdiv 65536))) (.int .i64 ((q / 65536 : Nat) : Int)) (fun w => by kernel_rfl) (int_eq (quoN_i64 (a := q) (b := 65536) (by omega))) (by kernel_rfl) ?_
              refine s_val (some 14) (.int .i64 ((q / 65536 : Nat) : Int)) (fun w => by kernel_rfl) (by kernel_rfl) ?_
              refine s_nil ?_
              show WP _ _ _ _ _ _
              refine g_reg0 [0, 1, 2] (by kernel_rfl) ?_
              refine s_val (some 48) (.int .i64 ((k : Nat) : Int)) (fun w => by kernel_rfl) (by kernel_rfl) ?_
              refine s_valE (some 49) (.int .i64 (IntKind.i64.wrap (((k : Nat) : Int) + 1))) (.int .i64 ((k + 1 : Nat) : Int)) (fun w => by kernel_rfl) (int_eq (wrapAdd_i64 (a := k) (b := 1) (by omega))) (by kernel_rfl) ?_
              refine s_val (some 15) (.int .i64 ((k + 1 : Nat) : Int)) (fun w => by kernel_rfl) (by kernel_rfl) ?_
              refine s_nil ?_
              have hd : q = q + List.getD l_5 k 0 + List.getD (0 :: l_11) k 0 + List.getD (0 :: 0 :: l_17) k 0 := by omega
              have hD2 := hD.next hs_6o hs_12o hs_18o _ hd
              have HD37 : St w.heap.size w w37 [(b_75, Obj.cells cur_77 3 (0, 0)), (b, Obj.cells cur 3 (0, 0)), (b_1, Obj.cells cur_4 3 (0, 0)), (b_7, Obj.cells cur_10 3 (0, 0)), (b_13, Obj.cells cur_16 3 (0, 0))] := H37.sub (List.Sublist.cons _ (List.Sublist.cons_cons _ (List.Sublist.cons_cons _ (List.Sublist.cons_cons _ (List.Sublist.cons_cons _ (List.Sublist.cons_cons _ List.Sublist.slnil))))))
              show ∃ m, _ ∧ _
              exact ⟨_, (by omega), b_75, cap_76, n2 + 1, cur_77, (l2 ++ [q % 65536]), (k + 1), q / 65536, rfl, (by rw [List.length_append, ← hn2]; rfl), hr_78t, (by omega), hD2, HD37, (Is.of ⟨(by kernel_rfl), (by kernel_rfl), (by kernel_rfl), (by kernel_rfl), (by kernel_rfl), (by kernel_rfl), (by kernel_rfl), (by kernel_rfl), (by kernel_rfl), (by kernel_rfl), (by kernel_rfl), (by kernel_rfl), (by kernel_rfl), (by kernel_rfl), (by kernel_rfl), trivial⟩)⟩
        · skip
          refine s_valE (some 62) (.bool (decide (1 ≤ ((k : Nat) : Int)))) (.bool false) (fun w => by kernel_rfl) (bool_eq (decide_eq_false (by omega))) (by kernel_rfl) ?_
          refine s_val (some 63) (.bool false) (fun w => by kernel_rfl) (by kernel_rfl) ?_
          refine s_not (some 64) (by kernel_rfl) (by kernel_rfl) ?_
          refine s_not (some 65) (by kernel_rfl) (by kernel_rfl) ?_
          refine s_not (some 66) (by kernel_rfl) (by kernel_rfl) ?_
          refine s_not (some 67) (by kernel_rfl) (by kernel_rfl) ?_
          refine s_not (some 68) (by kernel_rfl) (by kernel_rfl) ?_
          refine s_val (some 69) (.bool false) (fun w => by kernel_rfl) (by kernel_rfl) ?_
          refine s_nil ?_
          refine g_cond_f (by kernel_rfl) (by kernel_rfl) ?_
          refine g_skip (by kernel_rfl) ?_
          show WP _ _ _ _ _ _
          refine g_seq (by kernel_rfl) ?_
          refine g_sreg [0, 1, 2, 3, 4, 5, 6, 7, 8] (by kernel_rfl) (by kernel_rfl) ?_
          refine s_val (some 77) (.int .i64 ((k : Nat) : Int)) (fun w => by kernel_rfl) (by kernel_rfl) ?_
          by_cases hc38 : (k : Nat) ≥ 2
          · skip
            refine s_valE (some 78) (.bool (decide (2 ≤ ((k : Nat) : Int)))) (.bool true) (fun w => by kernel_rfl) (bool_eq (decide_eq_true (by omega))) (by kernel_rfl) ?_
            refine s_val (some 79) (.bool true) (fun w => by kernel_rfl) (by kernel_rfl) ?_
            refine s_val (some 80) (.int .i64 ((k : Nat) : Int)) (fun w => by kernel_rfl) (by kernel_rfl) ?_
            refine s_valE (some 81) (.int .i64 (IntKind.i64.wrap (((k : Nat) : Int) - 2))) (.int .i64 ((k - 2 : Nat) : Int)) (fun w => by kernel_rfl) (int_eq (wrapSub_i64 (a := k) (b := 2) (by omega))) (by kernel_rfl) ?_
            refine s_val (some 82) (.slice (some ⟨b_13, 0, none⟩) n_15 cap_14) (fun w => by kernel_rfl) (by kernel_rfl) ?_
            refine s_val (some 83) (.int .i64 ((n_15 : Nat) : Int)) (fun w => by kernel_rfl) (by kernel_rfl) ?_
            by_cases hc39 : (k - 2 : Nat) < n_15
            · skip
              refine s_valE (some 84) (.bool (decide (((k - 2 : Nat) : Int) < ((n_15 : Nat) : Int)))) (.bool true) (fun w => by kernel_rfl) (bool_eq (decide_eq_true (by omega))) (by kernel_rfl) ?_
              refine s_val (some 85) (.bool true) (fun w => by kernel_rfl) (by kernel_rfl) ?_
              refine s_nil ?_
              refine g_cond_t (by kernel_rfl) (by kernel_rfl) ?_
              refine g_reg0 [0, 1, 2, 3, 4, 5, 6, 7] (by kernel_rfl) ?_
              refine s_val (some 86) (.int .i64 ((q : Nat) : Int)) (fun w => by kernel_rfl) (by kernel_rfl) ?_
              refine s_val (some 87) (.slice (some ⟨b_13, 0, none⟩) n_15 cap_14) (fun w => by kernel_rfl) (by kernel_rfl) ?_
              refine s_val (some 88) (.int .i64 ((k : Nat) : Int)) (fun w => by kernel_rfl) (by kernel_rfl) ?_
              refine s_valE (some 89) (.int .i64 (IntKind.i64.wrap (((k : Nat) : Int) - 2))) (.int .i64 ((k - 2 : Nat) : Int)) (fun w => by kernel_rfl) (int_eq (wrapSub_i64 (a := k) (b := 2) (by omega))) (by kernel_rfl) ?_
              refine s_op (some 90) _ (.pointer (some ⟨b_13, 0 + (k - 2) * 1, none⟩)) (by kernel_rfl) (by kernel_rfl) (fun o w ho => idxS_run (kd := .i64) (t := 39) (e := 3) (size := 1) (bytes := 8) (by kernel_rfl) (x := (.tmp 87)) (y := (.tmp 89)) b_13 0 n_15 cap_14 (k - 2) ho (by kernel_rfl) (by kernel_rfl) (by omega) w) ?_
              refine s_load1 H7 (some 91) 3 (.tmp 90) 4 b_13 (0 + (k - 2) * 1) cur_16 3 (0, 0) (.int .i64 ((List.getD l_17 (k - 2) 0 : Nat) : Int)) (by kernel_rfl) (by kernel_rfl) (by kernel_rfl) (by kernel_rfl) (by kernel_rfl) (hs_18r.atD (by omega) hs_18n) ?_
              refine s_valE (some 92) (.int .i64 (IntKind.i64.wrap (((q : Nat) : Int) + ((List.getD l_17 (k - 2) 0 : Nat) : Int)))) (.int .i64 ((q + (List.getD l_17 (k - 2) 0) : Nat) : Int)) (fun w => by kernel_rfl) (int_eq (wrapAdd_i64 (a := q) (b := List.getD l_17 (k - 2) 0) (by omega))) (by kernel_rfl) ?_
              refine s_val (some 16) (.int .i64 ((q + (List.getD l_17 (k - 2) 0) : Nat) : Int)) (fun w => by kernel_rfl) (by kernel_rfl) ?_
              refine s_nil ?_
              show WP _ _ _ _ _ _
              refine g_sreg [0, 1, 2, 3, 4, 5] (by kernel_rfl) (by kernel_rfl) ?_
              refine s_val (some 93) (.slice (some ⟨b2, 0, none⟩) n2 cap2) (fun w => by kernel_rfl) (by kernel_rfl) ?_
              refine s_val (some 94) (.int .i64 ((q + (List.getD l_17 (k - 2) 0) : Nat) : Int)) (fun w => by kernel_rfl) (by kernel_rfl) ?_
              refine s_valE (some 95) (.int .i64 (Int.tmod ((q + (List.getD l_17 (k - 2) 0) : Nat) : Int) 65536)) (.int .i64 (((q + (List.getD l_17 (k - 2) 0)) % 65536 : Nat) : Int)) (fun w => by kernel_rfl) (int_eq (remN (q + (List.getD l_17 (k - 2) 0)) 65536)) (by kernel_rfl) ?_
              refine s_new H7 (some 96) (fun b => .slice (some ⟨b, 0, none⟩) 1 1) #[.int .i64 (((q + (List.getD l_17 (k - 2) 0)) % 65536 : Nat) : Int)] 3 (fun w => by kernel_rfl) (by kernel_rfl) ?_
              intro b18 w38 H38; clear H7
              refine s_append H38 (some 97) 39 3 1 8 (.tmp 93) (.tmp 96) 1 0 b2 b18 n2 1 cap2 1 cur2 #[.int .i64 (((q + (List.getD l_17 (k - 2) 0)) % 65536 : Nat) : Int)] 3 (0, 0) (cellsD l2) ([.int .i64 (((q + (List.getD l_17 (k - 2) 0)) % 65536 : Nat) : Int)]) (fun b_79 cur_81 => [(b18, Obj.cells #[.int .i64 (((q + (List.getD l_17 (k - 2) 0)) % 65536 : Nat) : Int)] 3 (0, 0)), (b_79, Obj.cells cur_81 3 (0, 0)), (b, Obj.cells cur 3 (0, 0)), (b_1, Obj.cells cur_4 3 (0, 0)), (b_7, Obj.cells cur_10 3 (0, 0)), (b_13, Obj.cells cur_16 3 (0, 0))]) (by kernel_rfl) (by kernel_rfl) (by kernel_rfl) (by kernel_rfl) (by kernel_rfl) hr2 (by kernel_rfl) (by kernel_rfl) (by rfl) (by rfl) (by intro u hu; simp at hu; first | exact hu.elim | (rcases hu with rfl | rfl | rfl | rfl <;> rfl) | (rcases hu with rfl | rfl <;> rfl) | (subst hu; rfl)) (by omega) (by unfold maxLen; omega) (fun _ _ => by kernel_rfl) ?_
              intro b_79 cap_80 cur_81 w39 H39 hr_82; clear H38
              have hr_82t : Rw 1 cur_81 cap_80 (n2 + 1) (cellsD (l2 ++ [(q + (List.getD l_17 (k - 2) 0)) % 65536])) := by rw [cellsD_append]; exact hr_82
              refine s_val (some 13) (.slice (some ⟨b_79, 0, none⟩) (n2 + 1) cap_80) (fun w => by kernel_rfl) (by kernel_rfl) ?_
              refine s_nil ?_
              refine g_reg0 [0, 1, 2] (by kernel_rfl) ?_
              refine s_val (some 98) (.int .i64 ((q + (List.getD l_17 (k - 2) 0) : Nat) : Int)) (fun w => by kernel_rfl) (by kernel_rfl) ?_
              refine s_valE (some 99) (.int .i64 (IntKind.i64.wrap (((q + (List.getD l_17 (k - 2) 0) : Nat) : Int).tdiv 65536))) (.int .i64 (((q + (List.getD l_17 (k - 2) 0)) / 65536 : Nat) : Int)) (fun w => by kernel_rfl) (int_eq (quoN_i64 (a := q + (List.getD l_17 (k - 2) 0)) (b := 65536) (by omega))) (by kernel_rfl) ?_
              refine s_val (some 14) (.int .i64 (((q + (List.getD l_17 (k - 2) 0)) / 65536 : Nat) : Int)) (fun w => by kernel_rfl) (by kernel_rfl) ?_
              refine s_nil ?_
              show WP _ _ _ _ _ _
              refine g_reg0 [0, 1, 2] (by kernel_rfl) ?_
              refine s_val (some 48) (.int .i64 ((k : Nat) : Int)) (fun w => by kernel_rfl) (by kernel_rfl) ?_
              refine s_valE (some 49) (.int .i64 (IntKind.i64.wrap (((k : Nat) : Int) + 1))) (.int .i64 ((k + 1 : Nat) : Int)) (fun w => by kernel_rfl) (int_eq (wrapAdd_i64 (a := k) (b := 1) (by omega))) (by kernel_rfl) ?_
              refine s_val (some 15) (.int .i64 ((k + 1 : Nat) : Int)) (fun w => by kernel_rfl) (by kernel_rfl) ?_
              refine s_nil ?_
              have hd : q + (List.getD l_17 (k - 2) 0) = q + List.getD l_5 k 0 + List.getD (0 :: l_11) k 0 + List.getD (0 :: 0 :: l_17) k 0 := by omega
              have hD2 := hD.next hs_6o hs_12o hs_18o _ hd
              have HD40 : St w.heap.size w w39 [(b_79, Obj.cells cur_81 3 (0, 0)), (b, Obj.cells cur 3 (0, 0)), (b_1, Obj.cells cur_4 3 (0, 0)), (b_7, Obj.cells cur_10 3 (0, 0)), (b_13, Obj.cells cur_16 3 (0, 0))] := H39.sub (List.Sublist.cons _ (List.Sublist.cons_cons _ (List.Sublist.cons_cons _ (List.Sublist.cons_cons _ (List.Sublist.cons_cons _ (List.Sublist.cons_cons _ List.Sublist.slnil))))))
              show ∃ m, _ ∧ _
              exact ⟨_, (by omega), b_79, cap_80, n2 + 1, cur_81, (l2 ++ [(q + (List.getD l_17 (k - 2) 0)) % 65536]), (k + 1), (q + (List.getD l_17 (k - 2) 0)) / 65536, rfl, (by rw [List.length_append, ← hn2]; rfl), hr_82t, (by omega), hD2, HD40, (Is.of ⟨(by kernel_rfl), (by kernel_rfl), (by kernel_rfl), (by kernel_rfl), (by kernel_rfl), (by kernel_rfl), (by kernel_rfl), (by kernel_rfl), (by kernel_rfl), (by kernel_rfl), (by kernel_rfl), (by kernel_rfl), (by kernel_rfl), (by kernel_rfl), (by kernel_rfl), trivial⟩)⟩
            · skip
              refine s_valE (some 84) (.bool (decide (((k - 2 : Nat) : Int) < ((n_15 : Nat) : Int)))) (.bool false) (fun w => by kernel_rfl) (bool_eq (decide_eq_false (by omega))) (by kernel_rfl) ?_
              refine s_val (some 85) (.bool false) (fun w => by kernel_rfl) (by kernel_rfl) ?_
              refine s_nil ?_
              refine g_cond_f (by kernel_rfl) (by kernel_rfl) ?_
              refine g_skip (by kernel_rfl) ?_
              show WP _ _ _ _ _ _
              refine g_sreg [0, 1, 2, 3, 4, 5] (by kernel_rfl) (by kernel_rfl) ?_
              refine s_val (some 93) (.slice (some ⟨b2, 0, none⟩) n2 cap2) (fun w => by kernel_rfl) (by kernel_rfl) ?_
              refine s_val (some 94) (.int .i64 ((q : Nat) : Int)) (fun w => by kernel_rfl) (by kernel_rfl) ?_
              refine s_valE (some 95) (.int .i64 (Int.tmod ((q : Nat) : Int) 65536)) (.int .i64 ((q % 65536 : Nat) : Int)) (fun w => by kernel_rfl) (int_eq (remN q 65536)) (by kernel_rfl) ?_
              refine s_new H7 (some 96) (fun b => .slice (some ⟨b, 0, none⟩) 1 1) #[.int .i64 ((q % 65536 : Nat) : Int)] 3 (fun w => by kernel_rfl) (by kernel_rfl) ?_
              intro b19 w40 H40; clear H7
              refine s_append H40 (some 97) 39 3 1 8 (.tmp 93) (.tmp 96) 1 0 b2 b19 n2 1 cap2 1 cur2 #[.int .i64 ((q % 65536 : Nat) : Int)] 3 (0, 0) (cellsD l2) ([.int .i64 ((q % 65536 : Nat) : Int)]) (fun b_83 cur_85 => [(b19, Obj.cells #[.int .i64 ((q % 65536 : Nat) : Int)] 3 (0, 0)), (b_83, Obj.cells cur_85 3 (0, 0)), (b, Obj.cells cur 3 (0, 0)), (b_1, Obj.cells cur_4 3 (0, 0)), (b_7, Obj.cells cur_10 3 (0, 0)), (b_13, Obj.cells cur_16 3 (0, 0))]) (by kernel_rfl) (by kernel_rfl) (by kernel_rfl) (by kernel_rfl) (by kernel_rfl) hr2 (by kernel_rfl) (by kernel_rfl) (by rfl) (by rfl) (by intro u hu; simp at hu; first | exact hu.elim | (rcases hu with rfl | rfl | rfl | rfl <;> rfl) | (rcases hu with rfl | rfl <;> rfl) | (subst hu; rfl)) (by omega) (by unfold maxLen; omega) (fun _ _ => by kernel_rfl) ?_
              intro b_83 cap_84 cur_85 w41 H41 hr_86; clear H40
              have hr_86t : Rw 1 cur_85 cap_84 (n2 + 1) (cellsD (l2 ++ [q % 65536])) := by rw [cellsD_append]; exact hr_86
              refine s_val (some 13) (.slice (some ⟨b_83, 0, none⟩) (n2 + 1) cap_84) (fun w => by kernel_rfl) (by kernel_rfl) ?_
              refine s_nil ?_
              refine g_reg0 [0, 1, 2] (by kernel_rfl) ?_
              refine s_val (some 98) (.int .i64 ((q : Nat) : Int)) (fun w => by kernel_rfl) (by kernel_rfl) ?_
              refine s_valE (some 99) (.int .i64 (IntKind.i64.wrap (((q : Nat) : Int).tdiv 65536))) (.int .i64 ((q / 65536 : Nat) : Int)) (fun w => by kernel_rfl) (int_eq (quoN_i64 (a := q) (b := 65536) (by omega))) (by kernel_rfl) ?_
              refine s_val (some 14) (.int .i64 ((q / 65536 : Nat) : Int)) (fun w => by kernel_rfl) (by kernel_rfl) ?_
              refine s_nil ?_
              show WP _ _ _ _ _ _
              refine g_reg0 [0, 1, 2] (by kernel_rfl) ?_
              refine s_val (some 48) (.int .i64 ((k : Nat) : Int)) (fun w => by kernel_rfl) (by kernel_rfl) ?_
              refine s_valE (some 49) (.int .i64 (IntKind.i64.wrap (((k : Nat) : Int) + 1))) (.int .i64 ((k + 1 : Nat) : Int)) (fun w => by kernel_rfl) (int_eq (wrapAdd_i64 (a := k) (b := 1) (by omega))) (by kernel_rfl) ?_
              refine s_val (some 15) (.int .i64 ((k + 1 : Nat) : Int)) (fun w => by kernel_rfl) (by kernel_rfl) ?_
              refine s_nil ?_
              have hd : q = q + List.getD l_5 k 0 + List.getD (0 :: l_11) k 0 + List.getD (0 :: 0 :: l_17) k 0 := by omega
              have hD2 := hD.next hs_6o hs_12o hs_18o _ hd
              have HD41 : St w.heap.size w w41 [(b_83, Obj.cells cur_85 3 (0, 0)), (b, Obj.cells cur 3 (0, 0)), (b_1, Obj.cells cur_4 3 (0, 0)), (b_7, Obj.cells cur_10 3 (0, 0)), (b_13, Obj.cells cur_16 3 (0, 0))] := H41.sub (List.Sublist.cons _ (List.Sublist.cons_cons _ (List.Sublist.cons_cons _ (List.Sublist.cons_cons _ (List.Sublist.cons_cons _ (List.Sublist.cons_cons _ List.Sublist.slnil))))))
              show ∃ m, _ ∧ _
              exact ⟨_, (by omega), b_83, cap_84, n2 + 1, cur_85, (l2 ++ [q % 65536]), (k + 1), q / 65536, rfl, (by rw [List.length_append, ← hn2]; rfl), hr_86t, (by omega), hD2, HD41, (Is.of ⟨(by kernel_rfl), (by kernel_rfl), (by kernel_rfl), (by kernel_rfl), (by kernel_rfl), (by kernel_rfl), (by kernel_rfl), (by kernel_rfl), (by kernel_rfl), (by kernel_rfl), (by kernel_rfl), (by kernel_rfl), (by kernel_rfl), (by kernel_rfl), (by kernel_rfl), trivial⟩)⟩
          · skip
            refine s_valE (some 78) (.bool (decide (2 ≤ ((k : Nat) : Int)))) (.bool false) (fun w => by kernel_rfl) (bool_eq (decide_eq_false (by omega))) (by kernel_rfl) ?_
            refine s_val (some 79) (.bool false) (fun w => by kernel_rfl) (by kernel_rfl) ?_
            refine s_not (some 80) (by kernel_rfl) (by kernel_rfl) ?_
            refine s_not (some 81) (by kernel_rfl) (by kernel_rfl) ?_
            refine s_not (some 82) (by kernel_rfl) (by kernel_rfl) ?_
            refine s_not (some 83) (by kernel_rfl) (by kernel_rfl) ?_
            refine s_not (some 84) (by kernel_rfl) (by kernel_rfl) ?_
            refine s_val (some 85) (.bool false) (fun w => by kernel_rfl) (by kernel_rfl) ?_
            refine s_nil ?_
            refine g_cond_f (by kernel_rfl) (by kernel_rfl) ?_
            refine g_skip (by kernel_rfl) ?_
            show WP _ _ _ _ _ _
            refine g_sreg [0, 1, 2, 3, 4, 5] (by kernel_rfl) (by kernel_rfl) ?_
            refine s_val (some 93) (.slice (some ⟨b2, 0, none⟩) n2 cap2) (fun w => by kernel_rfl) (by kernel_rfl) ?_
            refine s_val (some 94) (.int .i64 ((q : Nat) : Int)) (fun w => by kernel_rfl) (by kernel_rfl) ?_
            refine s_valE (some 95) (.int .i64 (Int.tmod ((q : Nat) : Int) 65536)) (.int .i64 ((q % 65536 : Nat) : Int)) (fun w => by kernel_rfl) (int_eq (remN q 65536)) (by kernel_rfl) ?_
            refine s_new H7 (some 96) (fun b => .slice (some ⟨b, 0, none⟩) 1 1) #[.int .i64 ((q % 65536 : Nat) : Int)] 3 (fun w => by kernel_rfl) (by kernel_rfl) ?_
            intro b20 w42 H42; clear H7
            refine s_append H42 (some 97) 39 3 1 8 (.tmp 93) (.tmp 96) 1 0 b2 b20 n2 1 cap2 1 cur2 #[.int .i64 ((q % 65536 : Nat) : Int)] 3 (0, 0) (cellsD l2) ([.int .i64 ((q % 65536 : Nat) : Int)]) (fun b_87 cur_89 => [(b20, Obj.cells #[.int .i64 ((q % 65536 : Nat) : Int)] 3 (0, 0)), (b_87, Obj.cells cur_89 3 (0, 0)), (b, Obj.cells cur 3 (0, 0)), (b_1, Obj.cells cur_4 3 (0, 0)), (b_7, Obj.cells cur_10 3 (0, 0)), (b_13, Obj.cells cur_16 3 (0, 0))]) (by kernel_rfl) (by kernel_rfl) (by kernel_rfl) (by kernel_rfl) (by kernel_rfl) hr2 (by kernel_rfl) (by kernel_rfl) (by rfl) (by rfl) (by intro u hu; simp at hu; first | exact hu.elim | (rcases hu with rfl | rfl | rfl | rfl <;> rfl) | (rcases hu with rfl | rfl <;> rfl) | (subst hu; rfl)) (by omega) (by unfold maxLen; omega) (fun _ _ => by kernel_rfl) ?_
            intro b_87 cap_88 cur_89 w43 H43 hr_90; clear H42
            have hr_90t : Rw 1 cur_89 cap_88 (n2 + 1) (cellsD (l2 ++ [q % 65536])) := by rw [cellsD_append]; exact hr_90
            refine s_val (some 13) (.slice (some ⟨b_87, 0, none⟩) (n2 + 1) cap_88) (fun w => by kernel_rfl) (by kernel_rfl) ?_
            refine s_nil ?_
            refine g_reg0 [0, 1, 2] (by kernel_rfl) ?_
            refine s_val (some 98) (.int .i64 ((q : Nat) : Int)) (fun w => by kernel_rfl) (by kernel_rfl) ?_
            refine s_valE (some 99) (.int .i64 (IntKind.i64.wrap (((q : Nat) : Int).tdiv 65536))) (.int .i64 ((q / 65536 : Nat) : Int)) (fun w => by kernel_rfl) (int_eq (quoN_i64 (a := q) (b := 65536) (by omega))) (by kernel_rfl) ?_
            refine s_val (some 14) (.int .i64 ((q / 65536 : Nat) : Int)) (fun w => by kernel_rfl) (by kernel_rfl) ?_
            refine s_nil ?_
            show WP _ _ _ _ _ _
            refine g_reg0 [0, 1, 2] (by kernel_rfl) ?_
            refine s_val (some 48) (.int .i64 ((k : Nat) : Int)) (fun w => by kernel_rfl) (by kernel_rfl) ?_
            refine s_valE (some 49) (.int .i64 (IntKind.i64.wrap (((k : Nat) : Int) + 1))) (.int .i64 ((k + 1 : Nat) : Int)) (fun w => by kernel_rfl) (int_eq (wrapAdd_i64 (a := k) (b := 1) (by omega))) (by kernel_rfl) ?_
            refine s_val (some 15) (.int .i64 ((k + 1 : Nat) : Int)) (fun w => by kernel_rfl) (by kernel_rfl) ?_
            refine s_nil ?_
            have hd : q = q + List.getD l_5 k 0 + List.getD (0 :: l_11) k 0 + List.getD (0 :: 0 :: l_17) k 0 := by omega
            have hD2 := hD.next hs_6o hs_12o hs_18o _ hd
            have HD42 : St w.heap.size w w43 [(b_87, Obj.cells cur_89 3 (0, 0)), (b, Obj.cells cur 3 (0, 0)), (b_1, Obj.cells cur_4 3 (0, 0)), (b_7, Obj.cells cur_10 3 (0, 0)), (b_13, Obj.cells cur_16 3 (0, 0))] := H43.sub (List.Sublist.cons _ (List.Sublist.cons_cons _ (List.Sublist.cons_cons _ (List.Sublist.cons_cons _ (List.Sublist.cons_cons _ (List.Sublist.cons_cons _ List.Sublist.slnil))))))
            show ∃ m, _ ∧ _
            exact ⟨_, (by omega), b_87, cap_88, n2 + 1, cur_89, (l2 ++ [q % 65536]), (k + 1), q / 65536, rfl, (by rw [List.length_append, ← hn2]; rfl), hr_90t, (by omega), hD2, HD42, (Is.of ⟨(by kernel_rfl), (by kernel_rfl), (by kernel_rfl), (by kernel_rfl), (by kernel_rfl), (by kernel_rfl), (by kernel_rfl), (by kernel_rfl), (by kernel_rfl), (by kernel_rfl), (by kernel_rfl), (by kernel_rfl), (by kernel_rfl), (by kernel_rfl), (by kernel_rfl), trivial⟩)⟩
    · skip
      refine s_valE (some 47) (.bool (decide (((k : Nat) : Int) < ((n + 4 : Nat) : Int)))) (.bool false) (fun w => by kernel_rfl) (bool_eq (decide_eq_false (by omega))) (by kernel_rfl) ?_
      refine s_nil ?_
      refine g_cond_f (by kernel_rfl) (by kernel_rfl) ?_
      refine g_exit 2 (by kernel_rfl) ?_
      show WP _ _ _ _ _ _
      refine g_reg0 [0, 1] (by kernel_rfl) ?_
      obtain ⟨va, la⟩ := hs_6s; obtain ⟨vb, lb⟩ := hs_12s; obtain ⟨vc, lc⟩ := hs_18s
      have hvs : vl l2 = vl l * N := hD.done (l := l) (by omega) hok (by omega) (by omega) (by omega) va vb vc hN
      refine s_val (some 100) (.slice (some ⟨b2, 0, none⟩) n2 cap2) (fun w => by kernel_rfl) (by kernel_rfl) ?_
      refine s_val (some 5) (.slice (some ⟨b2, 0, none⟩) n2 cap2) (fun w => by kernel_rfl) (by kernel_rfl) ?_
      refine s_nil ?_
      show WP _ _ _ _ _ _
      refine g_reg0 [0, 1, 2] (by kernel_rfl) ?_
      refine s_val (some 31) (.int .i64 ((i : Nat) : Int)) (fun w => by kernel_rfl) (by kernel_rfl) ?_
      refine s_valE (some 32) (.int .i64 (IntKind.i64.wrap (((i : Nat) : Int) + 1))) (.int .i64 ((i + 1 : Nat) : Int)) (fun w => by kernel_rfl) (int_eq (wrapAdd_i64 (a := i) (b := 1) (by omega))) (by kernel_rfl) ?_
      refine s_val (some 9) (.int .i64 ((i + 1 : Nat) : Int)) (fun w => by kernel_rfl) (by kernel_rfl) ?_
      refine s_nil ?_
      have HD43 : St w.heap.size w w7 [(b2, Obj.cells cur2 3 (0, 0))] := H7.sub (List.Sublist.cons_cons _ (List.Sublist.cons _ (List.Sublist.cons _ (List.Sublist.cons _ (List.Sublist.cons _ List.Sublist.slnil)))))
      show ∃ m, _ ∧ _
      exact ⟨_, (by omega), b2, cap2, n2, cur2, l2, (i + 1), rfl, hn2, hr2, hD.ok, (by omega), (by have := hD.len; omega), (by rw [Nat.pow_succ, ← hv]; exact hvs), HD43, (Is.of ⟨(by kernel_rfl), (by kernel_rfl), (by kernel_rfl), (by kernel_rfl), (by kernel_rfl), (by kernel_rfl), (by kernel_rfl), (by kernel_rfl), trivial⟩)⟩
  · skip
    refine s_valE (some 30) (.bool (decide (((i : Nat) : Int) < ((o : Nat) : Int)))) (.bool false) (fun w => by kernel_rfl) (bool_eq (decide_eq_false (by omega))) (by kernel_rfl) ?_
    refine s_nil ?_
    refine g_cond_f (by kernel_rfl) (by kernel_rfl) ?_
    refine g_exit 0 (by kernel_rfl) ?_
    show WP _ _ _ _ _ _
    refine g_sreg [0, 1] (by kernel_rfl) (by kernel_rfl) ?_
    refine s_val (some 101) (.slice (some ⟨b, 0, none⟩) n cap) (fun w => by kernel_rfl) (by kernel_rfl) ?_
    refine s_val (some 4) (.slice (some ⟨b, 0, none⟩) n cap) (fun w => by kernel_rfl) (by kernel_rfl) ?_
    refine s_nil ?_
    refine g_ret (by kernel_rfl) ?_
    show ∃ vs, Res _ _ _ _ vs ∧ _
    refine ⟨[.slice (some ⟨b, 0, none⟩) n cap], (.tmp (.slice (some ⟨b, 0, none⟩) n cap) (by kernel_rfl) .nil), H2.below, ?_⟩
    exact ⟨b, cap, _, _, l, rfl, H2.ge 0 (o := .cells cur 3 (0, 0)) (by kernel_rfl), H2.get 0 (by kernel_rfl), hn, hr, hok, by rw [show o = i by omega]; exact hv, by rw [show o = i by omega]; exact hll⟩
end Go.Proofs.YtjhldipeicpoeaaDoor
