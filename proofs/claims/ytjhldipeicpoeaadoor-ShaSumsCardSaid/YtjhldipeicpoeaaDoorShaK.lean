/-
  The reference: primes, K, H.
-/
import Derived.Test.YtjhldipeicpoeaaDoorProg
import Derived.Test.YtjhldipeicpoeaaDoorShaM
import Derived.Test.YtjhldipeicpoeaaDoorShaRt
import Derived.Test.YtjhldipeicpoeaaDoorShaL
namespace Go.Proofs.YtjhldipeicpoeaaDoor
open Go Go.RowKit Go.Proofs.Sha
set_option linter.unusedVariables false
theorem all_step (l : List Nat) (P : Nat → Bool) (j : Nat) (h : j < l.length) : (l.take (j + 1)).all P = ((l.take j).all P && P (l.getD j 0)) := by
  rw [List.take_add_one, List.getElem?_eq_getElem h, Option.toList_some, List.all_append, List.getD_eq_getElem?_getD, List.getElem?_eq_getElem h]; simp
theorem prL_ok (k : Nat) (hk : k ≤ 60000) : Ok (prL k) := fun d hd => by have := prL_two k d hd; omega
theorem prL_ge (k j : Nat) (h : j < (prL k).length) : 2 ≤ (prL k).getD j 0 := by
  rw [List.getD_eq_getElem?_getD, List.getElem?_eq_getElem h]; exact (prL_two k _ (List.getElem_mem h)).1
theorem prL_next (k j : Nat) (hj : j = (prL k).length) (q : Bool) (h : ((prL k).take j).all (fun p => decide ((k + 2) % p > 0)) = q) : prL (k + 1) = if q = true then prL k ++ [k + 2] else prL k := by
  subst hj
  rw [List.take_length] at h
  show (if (prL k).all (fun p => decide ((k + 2) % p > 0)) = true then prL k ++ [k + 2] else prL k) = _
  rw [h]
theorem map_take {α : Type} (f : Nat → α) (l : List Nat) (i : Nat) (h : i < l.length) : (l.take (i + 1)).map f = (l.take i).map f ++ [f (l.getD i 0)] := by
  rw [List.take_add_one, List.getElem?_eq_getElem h, Option.toList_some, List.map_append, List.getD_eq_getElem?_getD, List.getElem?_eq_getElem h]; rfl
theorem nth_take (f : Nat → W) (l : List Nat) (i j : Nat) (h : i < l.length) : nth ((l.take (i + 1)).map f) j = if j = i then f (l.getD i 0) else nth ((l.take i).map f) j := by
  rw [map_take f l i h, nth_snoc]
  have : ((l.take i).map f).length = i := by rw [List.length_map, List.length_take]; omega
  rw [this]

set_option maxRecDepth 100000 in
set_option maxHeartbeats 2000000 in
theorem primes_fn (m K : Nat) (hM1 : (prL K).length = m) (hM2 : ∀ k, k < K → (prL k).length < m) (hK : K ≤ 60000) (hm : m ≤ 1000) : FnR Tryd.prog 15 #[.int .i64 ((m : Nat) : Int)] (fun _ => True) (RetS 3 1 (fun cur cap n l => (n = List.length l ∧ Rw 1 cur cap n (cellsD l) ∧ Ok l ∧ (l = prL K)))) := by
  refine FnR.intro (c := codeOf Tryd.f15) [.tmp 2] 35 Tryd.func15 (by kernel_rfl) (by kernel_rfl) (by kernel_rfl) fun w hpre => ?_
  have H0 := St.start w
  refine g_sreg [0] (by kernel_rfl) (by kernel_rfl) ?_
  refine s_val (some 2) (.slice none 0 0) (fun w => by kernel_rfl) (by kernel_rfl) ?_
  refine s_nil ?_
  refine g_sreg [0, 1] (by kernel_rfl) (by kernel_rfl) ?_
  refine s_new H0 (some 8) (fun b => .slice (some ⟨b, 0, none⟩) 0 0) #[] 3 (fun w => by kernel_rfl) (by kernel_rfl) ?_
  intro b1 w1 H1; clear H0
  refine s_val (some 3) (.slice (some ⟨b1, 0, none⟩) 0 0) (fun w => by kernel_rfl) (by kernel_rfl) ?_
  refine s_nil ?_
  refine g_seq (by kernel_rfl) ?_
  refine g_sreg [0] (by kernel_rfl) (by kernel_rfl) ?_
  refine s_val (some 4) (.int .i64 2) (fun w => by kernel_rfl) (by kernel_rfl) ?_
  refine s_nil ?_
  refine g_block 0 (by kernel_rfl) ?_
  refine g_loop (by kernel_rfl) (fun mz ρ ww => ∃ (b : Nat) (cap : Nat) (n : Nat) (cur : Array Value) (k : Nat), K + 1 - k = mz ∧ (n = List.length (prL k)) ∧ (Rw 1 cur cap n (cellsD (prL k))) ∧ (k ≤ K) ∧ St w.heap.size w ww [(b, Obj.cells cur 3 (0, 0))] ∧ Is [(0, .int .i64 ((m : Nat) : Int)), (2, .slice none 0 0), (3, .slice (some ⟨b, 0, none⟩) n cap), (4, .int .i64 ((k + 2 : Nat) : Int))] ρ) (K + 1 - 0) ⟨b1, 0, 0, #[], 0, rfl, rfl, (Rw.lit #[] 0 rfl (by unfold maxLen; omega)), (by omega), H1, (Is.of ⟨(by kernel_rfl), (by kernel_rfl), (by kernel_rfl), (by kernel_rfl), trivial⟩)⟩ ?_
  clear H1
  rintro _ _ w2 ⟨b, cap, n, cur, k, rfl, hn, hr, hk, H2, _, rfl⟩
  have hnm : n < m → k < K := fun h => Nat.lt_of_le_of_ne hk (fun e => by subst e; omega)
  have hmb := hM1
  refine g_seq (by kernel_rfl) ?_
  refine g_sreg [0, 1, 2, 3] (by kernel_rfl) (by kernel_rfl) ?_
  refine s_val (some 9) (.slice (some ⟨b, 0, none⟩) n cap) (fun w => by kernel_rfl) (by kernel_rfl) ?_
  refine s_val (some 10) (.int .i64 ((n : Nat) : Int)) (fun w => by kernel_rfl) (by kernel_rfl) ?_
  refine s_val (some 11) (.int .i64 ((m : Nat) : Int)) (fun w => by kernel_rfl) (by kernel_rfl) ?_
  by_cases hc1 : (n : Nat) < m
  · skip
    refine s_valE (some 12) (.bool (decide (((n : Nat) : Int) < ((m : Nat) : Int)))) (.bool true) (fun w => by kernel_rfl) (bool_eq (decide_eq_true (by omega))) (by kernel_rfl) ?_
    refine s_nil ?_
    refine g_cond_t (by kernel_rfl) (by kernel_rfl) ?_
    refine g_skip (by kernel_rfl) ?_
    show WP _ _ _ _ _ _
    refine g_seq (by kernel_rfl) ?_
    refine g_block 1 (by kernel_rfl) ?_
    refine g_sreg [0] (by kernel_rfl) (by kernel_rfl) ?_
    refine s_val (some 5) (.bool true) (fun w => by kernel_rfl) (by kernel_rfl) ?_
    refine s_nil ?_
    refine g_seq (by kernel_rfl) ?_
    refine g_sreg [0, 1, 2] (by kernel_rfl) (by kernel_rfl) ?_
    refine s_val (some 15) (.slice (some ⟨b, 0, none⟩) n cap) (fun w => by kernel_rfl) (by kernel_rfl) ?_
    refine s_val (some 16) (.int .i64 ((n : Nat) : Int)) (fun w => by kernel_rfl) (by kernel_rfl) ?_
    refine s_val (some 17) (.int .i64 0) (fun w => by kernel_rfl) (by kernel_rfl) ?_
    refine s_nil ?_
    refine g_block 2 (by kernel_rfl) ?_
    refine g_loop (by kernel_rfl) (fun mz ρ ww => ∃ (q : Bool) (j : Nat), n - j = mz ∧ (j ≤ n) ∧ (((prL k).take j).all (fun p => decide ((k + 2) % p > 0)) = q) ∧ St w.heap.size w ww [(b, Obj.cells cur 3 (0, 0))] ∧ Is [(0, .int .i64 ((m : Nat) : Int)), (2, .slice none 0 0), (3, .slice (some ⟨b, 0, none⟩) n cap), (4, .int .i64 ((k + 2 : Nat) : Int)), (5, .bool q), (12, .bool true), (15, .slice (some ⟨b, 0, none⟩) n cap), (16, .int .i64 ((n : Nat) : Int)), (17, .int .i64 ((j : Nat) : Int))] ρ) (n - 0) ⟨true, 0, rfl, (by omega), rfl, H2, (Is.of ⟨(by kernel_rfl), (by kernel_rfl), (by kernel_rfl), (by kernel_rfl), (by kernel_rfl), (by kernel_rfl), (by kernel_rfl), (by kernel_rfl), (by kernel_rfl), trivial⟩)⟩ ?_
    clear H2
    rintro _ _ w3 ⟨q, j, rfl, hj, hq, H3, _, rfl⟩
    refine g_sreg [0] (by kernel_rfl) (by kernel_rfl) ?_
    by_cases hc2 : (j : Nat) < n
    · skip
      refine s_valE (some 18) (.bool (decide (((j : Nat) : Int) < ((n : Nat) : Int)))) (.bool true) (fun w => by kernel_rfl) (bool_eq (decide_eq_true (by omega))) (by kernel_rfl) ?_
      refine s_nil ?_
      refine g_seq (by kernel_rfl) ?_
      refine g_cond_t (by kernel_rfl) (by kernel_rfl) ?_
      refine g_skip (by kernel_rfl) ?_
      show WP _ _ _ _ _ _
      refine g_seq (by kernel_rfl) ?_
      refine g_block 3 (by kernel_rfl) ?_
      refine g_sreg [0, 1, 2] (by kernel_rfl) (by kernel_rfl) ?_
      refine s_op (some 19) _ (.pointer (some ⟨b, 0 + j * 1, none⟩)) (by kernel_rfl) (by kernel_rfl) (fun o w ho => idxS_run (kd := .i64) (t := 39) (e := 3) (size := 1) (bytes := 8) (by kernel_rfl) (x := (.tmp 15)) (y := (.tmp 17)) b 0 n cap j ho (by kernel_rfl) (by kernel_rfl) (by omega) w) ?_
      refine s_load1 H3 (some 20) 3 (.tmp 19) 0 b (0 + j * 1) cur 3 (0, 0) (.int .i64 ((List.getD (prL k) j 0 : Nat) : Int)) (by kernel_rfl) (by kernel_rfl) (by kernel_rfl) (by kernel_rfl) (by kernel_rfl) (hr.atD (by omega) hn) ?_
      refine s_val (some 7) (.int .i64 ((List.getD (prL k) j 0 : Nat) : Int)) (fun w => by kernel_rfl) (by kernel_rfl) ?_
      refine s_nil ?_
      refine g_reg0 [0, 1, 2, 3, 4, 5, 6, 7] (by kernel_rfl) ?_
      cases q
      · skip
        have hp2 := prL_ge k j (by omega)
        refine s_val (some 21) (.bool false) (fun w => by kernel_rfl) (by kernel_rfl) ?_
        refine s_val (some 22) (.bool false) (fun w => by kernel_rfl) (by kernel_rfl) ?_
        refine s_not (some 23) (by kernel_rfl) (by kernel_rfl) ?_
        refine s_not (some 24) (by kernel_rfl) (by kernel_rfl) ?_
        refine s_not (some 25) (by kernel_rfl) (by kernel_rfl) ?_
        refine s_not (some 26) (by kernel_rfl) (by kernel_rfl) ?_
        refine s_val (some 27) (.bool false) (fun w => by kernel_rfl) (by kernel_rfl) ?_
        refine s_val (some 5) (.bool false) (fun w => by kernel_rfl) (by kernel_rfl) ?_
        refine s_nil ?_
        show WP _ _ _ _ _ _
        refine g_reg0 [0, 1] (by kernel_rfl) ?_
        refine s_valE (some 28) (.int .i64 (IntKind.i64.wrap (((j : Nat) : Int) + 1))) (.int .i64 ((j + 1 : Nat) : Int)) (fun w => by kernel_rfl) (int_eq (wrapAdd_i64 (a := j) (b := 1) (by omega))) (by kernel_rfl) ?_
        refine s_val (some 17) (.int .i64 ((j + 1 : Nat) : Int)) (fun w => by kernel_rfl) (by kernel_rfl) ?_
        refine s_nil ?_
        show ∃ m, _ ∧ _
        exact ⟨_, (by omega), false, (j + 1), rfl, (by omega), (by rw [all_step _ _ _ (by omega), hq]; first | rfl | (simp only [Bool.true_and]; first | exact decide_eq_true (by omega) | exact decide_eq_false (by omega))), H3, (Is.of ⟨(by kernel_rfl), (by kernel_rfl), (by kernel_rfl), (by kernel_rfl), (by kernel_rfl), (by kernel_rfl), (by kernel_rfl), (by kernel_rfl), (by kernel_rfl), trivial⟩)⟩
      · skip
        have hp2 := prL_ge k j (by omega)
        refine s_val (some 21) (.bool true) (fun w => by kernel_rfl) (by kernel_rfl) ?_
        refine s_val (some 22) (.bool true) (fun w => by kernel_rfl) (by kernel_rfl) ?_
        refine s_val (some 23) (.int .i64 ((k + 2 : Nat) : Int)) (fun w => by kernel_rfl) (by kernel_rfl) ?_
        refine s_val (some 24) (.int .i64 ((List.getD (prL k) j 0 : Nat) : Int)) (fun w => by kernel_rfl) (by kernel_rfl) ?_
        refine s_opE (some 25) _ (.int .i64 (Int.tmod ((k + 2 : Nat) : Int) ((List.getD (prL k) j 0 : Nat) : Int))) (.int .i64 (((k + 2) % (List.getD (prL k) j 0) : Nat) : Int)) (by kernel_rfl) (fun o w ho => rem_run (n := 0) (t := 3) (t' := 3) (x := (.tmp 23)) (y := (.tmp 24)) (k + 2) (List.getD (prL k) j 0) (by omega) w ho (by kernel_rfl) (by kernel_rfl)) (int_eq (remN (k + 2) (List.getD (prL k) j 0))) (by kernel_rfl) ?_
        by_cases hc3 : ((k + 2) % (List.getD (prL k) j 0) : Nat) > 0
        · skip
          refine s_valE (some 26) (.bool (decide (0 < (((k + 2) % (List.getD (prL k) j 0) : Nat) : Int)))) (.bool true) (fun w => by kernel_rfl) (bool_eq (decide_eq_true (by omega))) (by kernel_rfl) ?_
          refine s_val (some 27) (.bool true) (fun w => by kernel_rfl) (by kernel_rfl) ?_
          refine s_val (some 5) (.bool true) (fun w => by kernel_rfl) (by kernel_rfl) ?_
          refine s_nil ?_
          show WP _ _ _ _ _ _
          refine g_reg0 [0, 1] (by kernel_rfl) ?_
          refine s_valE (some 28) (.int .i64 (IntKind.i64.wrap (((j : Nat) : Int) + 1))) (.int .i64 ((j + 1 : Nat) : Int)) (fun w => by kernel_rfl) (int_eq (wrapAdd_i64 (a := j) (b := 1) (by omega))) (by kernel_rfl) ?_
          refine s_val (some 17) (.int .i64 ((j + 1 : Nat) : Int)) (fun w => by kernel_rfl) (by kernel_rfl) ?_
          refine s_nil ?_
          show ∃ m, _ ∧ _
          exact ⟨_, (by omega), true, (j + 1), rfl, (by omega), (by rw [all_step _ _ _ (by omega), hq]; first | rfl | (simp only [Bool.true_and]; first | exact decide_eq_true (by omega) | exact decide_eq_false (by omega))), H3, (Is.of ⟨(by kernel_rfl), (by kernel_rfl), (by kernel_rfl), (by kernel_rfl), (by kernel_rfl), (by kernel_rfl), (by kernel_rfl), (by kernel_rfl), (by kernel_rfl), trivial⟩)⟩
        · skip
          refine s_valE (some 26) (.bool (decide (0 < (((k + 2) % (List.getD (prL k) j 0) : Nat) : Int)))) (.bool false) (fun w => by kernel_rfl) (bool_eq (decide_eq_false (by omega))) (by kernel_rfl) ?_
          refine s_val (some 27) (.bool false) (fun w => by kernel_rfl) (by kernel_rfl) ?_
          refine s_val (some 5) (.bool false) (fun w => by kernel_rfl) (by kernel_rfl) ?_
          refine s_nil ?_
          show WP _ _ _ _ _ _
          refine g_reg0 [0, 1] (by kernel_rfl) ?_
          refine s_valE (some 28) (.int .i64 (IntKind.i64.wrap (((j : Nat) : Int) + 1))) (.int .i64 ((j + 1 : Nat) : Int)) (fun w => by kernel_rfl) (int_eq (wrapAdd_i64 (a := j) (b := 1) (by omega))) (by kernel_rfl) ?_
          refine s_val (some 17) (.int .i64 ((j + 1 : Nat) : Int)) (fun w => by kernel_rfl) (by kernel_rfl) ?_
          refine s_nil ?_
          show ∃ m, _ ∧ _
          exact ⟨_, (by omega), false, (j + 1), rfl, (by omega), (by rw [all_step _ _ _ (by omega), hq]; first | rfl | (simp only [Bool.true_and]; first | exact decide_eq_true (by omega) | exact decide_eq_false (by omega))), H3, (Is.of ⟨(by kernel_rfl), (by kernel_rfl), (by kernel_rfl), (by kernel_rfl), (by kernel_rfl), (by kernel_rfl), (by kernel_rfl), (by kernel_rfl), (by kernel_rfl), trivial⟩)⟩
    · skip
      refine s_valE (some 18) (.bool (decide (((j : Nat) : Int) < ((n : Nat) : Int)))) (.bool false) (fun w => by kernel_rfl) (bool_eq (decide_eq_false (by omega))) (by kernel_rfl) ?_
      refine s_nil ?_
      refine g_seq (by kernel_rfl) ?_
      refine g_cond_f (by kernel_rfl) (by kernel_rfl) ?_
      refine g_exit 2 (by kernel_rfl) ?_
      show WP _ _ _ _ _ _
      refine g_sreg [0] (by kernel_rfl) (by kernel_rfl) ?_
      cases q
      · skip
        have hnext := prL_next k j (by omega) _ hq
        rw [if_neg (by decide)] at hnext
        refine s_val (some 29) (.bool false) (fun w => by kernel_rfl) (by kernel_rfl) ?_
        refine s_nil ?_
        refine g_cond_f (by kernel_rfl) (by kernel_rfl) ?_
        refine g_skip (by kernel_rfl) ?_
        show WP _ _ _ _ _ _
        refine g_reg0 [0, 1, 2] (by kernel_rfl) ?_
        refine s_val (some 13) (.int .i64 ((k + 2 : Nat) : Int)) (fun w => by kernel_rfl) (by kernel_rfl) ?_
        refine s_valE (some 14) (.int .i64 (IntKind.i64.wrap (((k + 2 : Nat) : Int) + 1))) (.int .i64 (((k + 2) + 1 : Nat) : Int)) (fun w => by kernel_rfl) (int_eq (wrapAdd_i64 (a := k + 2) (b := 1) (by omega))) (by kernel_rfl) ?_
        refine s_val (some 4) (.int .i64 (((k + 2) + 1 : Nat) : Int)) (fun w => by kernel_rfl) (by kernel_rfl) ?_
        refine s_nil ?_
        have hrw : Rw 1 cur cap n (cellsD (prL (k + 1))) := by rw [hnext]; exact hr
        have hnn : n = List.length (prL (k + 1)) := by rw [hnext]; exact hn
        show ∃ m, _ ∧ _
        exact ⟨_, (by omega), b, cap, n, cur, (k + 1), rfl, hnn, hrw, (by omega), H3, (Is.of ⟨(by kernel_rfl), (by kernel_rfl), (by kernel_rfl), (by kernel_rfl), trivial⟩)⟩
      · skip
        have hnext := prL_next k j (by omega) _ hq
        rw [if_pos rfl] at hnext
        refine s_val (some 29) (.bool true) (fun w => by kernel_rfl) (by kernel_rfl) ?_
        refine s_nil ?_
        refine g_cond_t (by kernel_rfl) (by kernel_rfl) ?_
        refine g_reg0 [0, 1, 2, 3, 4] (by kernel_rfl) ?_
        refine s_val (some 30) (.slice (some ⟨b, 0, none⟩) n cap) (fun w => by kernel_rfl) (by kernel_rfl) ?_
        refine s_val (some 31) (.int .i64 ((k + 2 : Nat) : Int)) (fun w => by kernel_rfl) (by kernel_rfl) ?_
        refine s_new H3 (some 32) (fun b => .slice (some ⟨b, 0, none⟩) 1 1) #[.int .i64 ((k + 2 : Nat) : Int)] 3 (fun w => by kernel_rfl) (by kernel_rfl) ?_
        intro b2 w4 H4; clear H3
        refine s_append H4 (some 33) 39 3 1 8 (.tmp 30) (.tmp 32) 1 0 b b2 n 1 cap 1 cur #[.int .i64 ((k + 2 : Nat) : Int)] 3 (0, 0) (cellsD (prL k)) ([.int .i64 ((k + 2 : Nat) : Int)]) (fun b_1 cur_3 => [(b2, Obj.cells #[.int .i64 ((k + 2 : Nat) : Int)] 3 (0, 0)), (b_1, Obj.cells cur_3 3 (0, 0))]) (by kernel_rfl) (by kernel_rfl) (by kernel_rfl) (by kernel_rfl) (by kernel_rfl) hr (by kernel_rfl) (by kernel_rfl) (by rfl) (by rfl) (by intro u hu; simp at hu; first | exact hu.elim | (rcases hu with rfl | rfl | rfl | rfl <;> rfl) | (rcases hu with rfl | rfl <;> rfl) | (subst hu; rfl)) (by omega) (by unfold maxLen; omega) (fun _ _ => by kernel_rfl) ?_
        intro b_1 cap_2 cur_3 w5 H5 hr_4; clear H4
        have hr_4t : Rw 1 cur_3 cap_2 (n + 1) (cellsD (prL k ++ [k + 2])) := by rw [cellsD_append]; exact hr_4
        have hr_4n : n + 1 = List.length (prL k ++ [k + 2]) := by have h0 : n = List.length (prL k) := hn; rw [List.length_append, ← h0]; rfl
        refine s_val (some 3) (.slice (some ⟨b_1, 0, none⟩) (n + 1) cap_2) (fun w => by kernel_rfl) (by kernel_rfl) ?_
        refine s_nil ?_
        show WP _ _ _ _ _ _
        refine g_reg0 [0, 1, 2] (by kernel_rfl) ?_
        refine s_val (some 13) (.int .i64 ((k + 2 : Nat) : Int)) (fun w => by kernel_rfl) (by kernel_rfl) ?_
        refine s_valE (some 14) (.int .i64 (IntKind.i64.wrap (((k + 2 : Nat) : Int) + 1))) (.int .i64 (((k + 2) + 1 : Nat) : Int)) (fun w => by kernel_rfl) (int_eq (wrapAdd_i64 (a := k + 2) (b := 1) (by omega))) (by kernel_rfl) ?_
        refine s_val (some 4) (.int .i64 (((k + 2) + 1 : Nat) : Int)) (fun w => by kernel_rfl) (by kernel_rfl) ?_
        refine s_nil ?_
        have hrw : Rw 1 cur_3 cap_2 (n + 1) (cellsD (prL (k + 1))) := by rw [hnext]; exact hr_4t
        have hnn : n + 1 = List.length (prL (k + 1)) := by rw [hnext]; exact hr_4n
        have HD4 : St w.heap.size w w5 [(b_1, Obj.cells cur_3 3 (0, 0))] := H5.sub (List.Sublist.cons _ (List.Sublist.cons_cons _ List.Sublist.slnil))
        show ∃ m, _ ∧ _
        exact ⟨_, (by omega), b_1, cap_2, n + 1, cur_3, (k + 1), rfl, hnn, hrw, (by omega), HD4, (Is.of ⟨(by kernel_rfl), (by kernel_rfl), (by kernel_rfl), (by kernel_rfl), trivial⟩)⟩
  · skip
    refine s_valE (some 12) (.bool (decide (((n : Nat) : Int) < ((m : Nat) : Int)))) (.bool false) (fun w => by kernel_rfl) (bool_eq (decide_eq_false (by omega))) (by kernel_rfl) ?_
    refine s_nil ?_
    refine g_cond_f (by kernel_rfl) (by kernel_rfl) ?_
    refine g_exit 0 (by kernel_rfl) ?_
    show WP _ _ _ _ _ _
    refine g_sreg [0, 1] (by kernel_rfl) (by kernel_rfl) ?_
    refine s_val (some 34) (.slice (some ⟨b, 0, none⟩) n cap) (fun w => by kernel_rfl) (by kernel_rfl) ?_
    refine s_val (some 2) (.slice (some ⟨b, 0, none⟩) n cap) (fun w => by kernel_rfl) (by kernel_rfl) ?_
    refine s_nil ?_
    refine g_ret (by kernel_rfl) ?_
    show ∃ vs, Res _ _ _ _ vs ∧ _
    refine ⟨[.slice (some ⟨b, 0, none⟩) n cap], (.tmp (.slice (some ⟨b, 0, none⟩) n cap) (by kernel_rfl) .nil), H2.below, ?_⟩
    have hkK : k = K := by
      rcases Nat.lt_or_ge k K with h | h
      · have := hM2 k h; omega
      · omega
    subst hkK
    exact ⟨b, cap, _, _, (prL k), rfl, H2.ge 0 (o := .cells cur 3 (0, 0)) (by kernel_rfl), H2.get 0 (by kernel_rfl), hn, hr, prL_ok k (by omega), rfl⟩

set_option maxRecDepth 100000 in
set_option maxHeartbeats 2000000 in
theorem K_fn  : FnR Tryd.prog 7 #[] (fun _ => True) (RetS 30 1 (fun cur cap n l => (n = 64 ∧ Rw 1 cur cap n (cellsW Sha.roots)))) := by
  refine FnR.intro (c := codeOf Tryd.f7) [.tmp 0] 18 Tryd.func7 (by kernel_rfl) (by kernel_rfl) (by kernel_rfl) fun w hpre => ?_
  have H0 := St.start w
  refine g_sreg [0] (by kernel_rfl) (by kernel_rfl) ?_
  refine s_val (some 0) (.slice none 0 0) (fun w => by kernel_rfl) (by kernel_rfl) ?_
  refine s_nil ?_
  refine g_sreg [0, 1] (by kernel_rfl) (by kernel_rfl) ?_
  refine s_new H0 (some 4) (fun b => .slice (some ⟨b, 0, none⟩) 0 0) #[] 30 (fun w => by kernel_rfl) (by kernel_rfl) ?_
  intro b1 w1 H1; clear H0
  refine s_val (some 1) (.slice (some ⟨b1, 0, none⟩) 0 0) (fun w => by kernel_rfl) (by kernel_rfl) ?_
  refine s_nil ?_
  refine g_seq (by kernel_rfl) ?_
  refine g_sreg [0, 1, 2] (by kernel_rfl) (by kernel_rfl) ?_
  refine s_callS H1 (some 5) 15 #[.int .i64 64] (fun _ => True) 3 1 (fun curZ capZ nZ lZ => (nZ = List.length lZ ∧ Rw 1 curZ capZ nZ (cellsD lZ) ∧ Ok lZ ∧ (lZ = prL 310))) (primes_fn 64 310 prL_64.1 prL_64.2 (by omega) (by omega)) trivial (by kernel_rfl) (by kernel_rfl) ?_
  intro b_1 cap_2 n_3 cur_4 l_5 w2 H2 hs_6; clear H1
  obtain ⟨hs_6n, hs_6r, hs_6o, hs_6s⟩ := hs_6
  refine s_val (some 6) (.int .i64 ((n_3 : Nat) : Int)) (fun w => by kernel_rfl) (by kernel_rfl) ?_
  refine s_val (some 7) (.int .i64 0) (fun w => by kernel_rfl) (by kernel_rfl) ?_
  refine s_nil ?_
  refine g_block 0 (by kernel_rfl) ?_
  have hL64 : List.length l_5 = 64 := by rw [hs_6s]; exact prL_64.1
  have hLn : n_3 = 64 := by rw [hs_6n]; exact hL64
  have HF1 : St w.heap.size w w2 [(b_1, Obj.cells cur_4 3 (0, 0)), (b1, Obj.cells #[] 30 (0, 0))] := H2.front 0 (by kernel_rfl) (by kernel_rfl)
  have HF2 : St w.heap.size w w2 [(b1, Obj.cells #[] 30 (0, 0)), (b_1, Obj.cells cur_4 3 (0, 0))] := HF1.front 1 (by kernel_rfl) (by kernel_rfl)
  refine g_loop (by kernel_rfl) (fun mz ρ ww => ∃ (b : Nat) (cap : Nat) (n : Nat) (cur : Array Value) (l : List (BitVec 32)) (i : Nat), 64 - i = mz ∧ (n = List.length l) ∧ (Rw 1 cur cap n (cellsW l)) ∧ (i ≤ 64) ∧ (l = (List.take i l_5).map (fun p => rootW p 3)) ∧ St w.heap.size w ww [(b, Obj.cells cur 30 (0, 0)), (b_1, Obj.cells cur_4 3 (0, 0))] ∧ Is [(0, .slice none 0 0), (1, .slice (some ⟨b, 0, none⟩) n cap), (5, .slice (some ⟨b_1, 0, none⟩) n_3 cap_2), (6, .int .i64 ((n_3 : Nat) : Int)), (7, .int .i64 ((i : Nat) : Int))] ρ) (64 - 0) ⟨b1, 0, 0, #[], [], 0, rfl, rfl, (Rw.lit #[] 0 rfl (by unfold maxLen; omega)), (by omega), rfl, HF2, (Is.of ⟨(by kernel_rfl), (by kernel_rfl), (by kernel_rfl), (by kernel_rfl), (by kernel_rfl), trivial⟩)⟩ ?_
  clear HF2
  rintro _ _ w3 ⟨b, cap, n, cur, l, i, rfl, hn, hr, hi, hl, H3, _, rfl⟩
  have hlb : List.length l ≤ 64 := by rw [hl, List.length_map, List.length_take]; omega
  refine g_sreg [0] (by kernel_rfl) (by kernel_rfl) ?_
  by_cases hc3 : (i : Nat) < n_3
  · skip
    refine s_valE (some 8) (.bool (decide (((i : Nat) : Int) < ((n_3 : Nat) : Int)))) (.bool true) (fun w => by kernel_rfl) (bool_eq (decide_eq_true (by omega))) (by kernel_rfl) ?_
    refine s_nil ?_
    refine g_seq (by kernel_rfl) ?_
    refine g_cond_t (by kernel_rfl) (by kernel_rfl) ?_
    refine g_skip (by kernel_rfl) ?_
    show WP _ _ _ _ _ _
    refine g_seq (by kernel_rfl) ?_
    refine g_block 1 (by kernel_rfl) ?_
    refine g_sreg [0, 1, 2] (by kernel_rfl) (by kernel_rfl) ?_
    refine s_op (some 9) _ (.pointer (some ⟨b_1, 0 + i * 1, none⟩)) (by kernel_rfl) (by kernel_rfl) (fun o w ho => idxS_run (kd := .i64) (t := 39) (e := 3) (size := 1) (bytes := 8) (by kernel_rfl) (x := (.tmp 5)) (y := (.tmp 7)) b_1 0 n_3 cap_2 i ho (by kernel_rfl) (by kernel_rfl) (by omega) w) ?_
    refine s_load1 H3 (some 10) 3 (.tmp 9) 1 b_1 (0 + i * 1) cur_4 3 (0, 0) (.int .i64 ((List.getD l_5 i 0 : Nat) : Int)) (by kernel_rfl) (by kernel_rfl) (by kernel_rfl) (by kernel_rfl) (by kernel_rfl) (hs_6r.atD (by omega) hs_6n) ?_
    refine s_val (some 3) (.int .i64 ((List.getD l_5 i 0 : Nat) : Int)) (fun w => by kernel_rfl) (by kernel_rfl) ?_
    refine s_nil ?_
    refine g_reg0 [0, 1, 2, 3, 4, 5] (by kernel_rfl) ?_
    refine s_val (some 11) (.slice (some ⟨b, 0, none⟩) n cap) (fun w => by kernel_rfl) (by kernel_rfl) ?_
    refine s_val (some 12) (.int .i64 ((List.getD l_5 i 0 : Nat) : Int)) (fun w => by kernel_rfl) (by kernel_rfl) ?_
    refine s_call H3 (some 13) 16 #[.int .i64 ((List.getD l_5 i 0 : Nat) : Int), .int .i64 3] (.int .u32 ((BitVec.toNat (rootW (List.getD l_5 i 0) 3) : Nat) : Int)) (root_fn (List.getD l_5 i 0) (ok_getD hs_6o i) 3 (by omega)) (fun w => by kernel_rfl) (by kernel_rfl) ?_
    intro w4 H4; clear H3
    refine s_new H4 (some 14) (fun b => .slice (some ⟨b, 0, none⟩) 1 1) #[.int .u32 ((BitVec.toNat (rootW (List.getD l_5 i 0) 3) : Nat) : Int)] 30 (fun w => by kernel_rfl) (by kernel_rfl) ?_
    intro b2 w5 H5; clear H4
    refine s_append H5 (some 15) 22 30 1 4 (.tmp 11) (.tmp 14) 1 0 b b2 n 1 cap 1 cur #[.int .u32 ((BitVec.toNat (rootW (List.getD l_5 i 0) 3) : Nat) : Int)] 30 (0, 0) (cellsW l) ([.int .u32 ((BitVec.toNat (rootW (List.getD l_5 i 0) 3) : Nat) : Int)]) (fun b_7 cur_9 => [(b2, Obj.cells #[.int .u32 ((BitVec.toNat (rootW (List.getD l_5 i 0) 3) : Nat) : Int)] 30 (0, 0)), (b_7, Obj.cells cur_9 30 (0, 0)), (b_1, Obj.cells cur_4 3 (0, 0))]) (by kernel_rfl) (by kernel_rfl) (by kernel_rfl) (by kernel_rfl) (by kernel_rfl) hr (by kernel_rfl) (by kernel_rfl) (by rfl) (by rfl) (by intro u hu; simp at hu; first | exact hu.elim | (rcases hu with rfl | rfl | rfl | rfl <;> rfl) | (rcases hu with rfl | rfl <;> rfl) | (subst hu; rfl)) (by omega) (by unfold maxLen; omega) (fun _ _ => by kernel_rfl) ?_
    intro b_7 cap_8 cur_9 w6 H6 hr_10; clear H5
    have hr_10t : Rw 1 cur_9 cap_8 (n + 1) (cellsW (l ++ [rootW (List.getD l_5 i 0) 3])) := by rw [cellsW_append]; exact hr_10
    have hr_10n : n + 1 = List.length (l ++ [rootW (List.getD l_5 i 0) 3]) := by have h0 : n = List.length l := hn; rw [List.length_append, ← h0]; rfl
    refine s_val (some 1) (.slice (some ⟨b_7, 0, none⟩) (n + 1) cap_8) (fun w => by kernel_rfl) (by kernel_rfl) ?_
    refine s_nil ?_
    show WP _ _ _ _ _ _
    refine g_reg0 [0, 1] (by kernel_rfl) ?_
    refine s_valE (some 16) (.int .i64 (IntKind.i64.wrap (((i : Nat) : Int) + 1))) (.int .i64 ((i + 1 : Nat) : Int)) (fun w => by kernel_rfl) (int_eq (wrapAdd_i64 (a := i) (b := 1) (by omega))) (by kernel_rfl) ?_
    refine s_val (some 7) (.int .i64 ((i + 1 : Nat) : Int)) (fun w => by kernel_rfl) (by kernel_rfl) ?_
    refine s_nil ?_
    have HD4 : St w.heap.size w w6 [(b_7, Obj.cells cur_9 30 (0, 0)), (b_1, Obj.cells cur_4 3 (0, 0))] := H6.sub (List.Sublist.cons _ (List.Sublist.cons_cons _ (List.Sublist.cons_cons _ List.Sublist.slnil)))
    show ∃ m, _ ∧ _
    exact ⟨_, (by omega), b_7, cap_8, n + 1, cur_9, (l ++ [rootW (List.getD l_5 i 0) 3]), (i + 1), rfl, hr_10n, hr_10t, (by omega), (by rw [map_take _ _ _ (by omega), ← hl]), HD4, (Is.of ⟨(by kernel_rfl), (by kernel_rfl), (by kernel_rfl), (by kernel_rfl), (by kernel_rfl), trivial⟩)⟩
  · skip
    refine s_valE (some 8) (.bool (decide (((i : Nat) : Int) < ((n_3 : Nat) : Int)))) (.bool false) (fun w => by kernel_rfl) (bool_eq (decide_eq_false (by omega))) (by kernel_rfl) ?_
    refine s_nil ?_
    refine g_seq (by kernel_rfl) ?_
    refine g_cond_f (by kernel_rfl) (by kernel_rfl) ?_
    refine g_exit 0 (by kernel_rfl) ?_
    show WP _ _ _ _ _ _
    refine g_sreg [0, 1] (by kernel_rfl) (by kernel_rfl) ?_
    refine s_val (some 17) (.slice (some ⟨b, 0, none⟩) n cap) (fun w => by kernel_rfl) (by kernel_rfl) ?_
    refine s_val (some 0) (.slice (some ⟨b, 0, none⟩) n cap) (fun w => by kernel_rfl) (by kernel_rfl) ?_
    refine s_nil ?_
    refine g_ret (by kernel_rfl) ?_
    show ∃ vs, Res _ _ _ _ vs ∧ _
    refine ⟨[.slice (some ⟨b, 0, none⟩) n cap], (.tmp (.slice (some ⟨b, 0, none⟩) n cap) (by kernel_rfl) .nil), H3.below, ?_⟩
    obtain rfl : i = 64 := by omega
    have hlr : l = Sha.roots := by rw [hl, List.take_of_length_le (by omega), hs_6s]; exact roots_ok
    have hn64 : n = 64 := by rw [hn, hl, List.length_map, List.length_take]; omega
    rw [hlr] at hr
    exact ⟨b, cap, _, _, [], rfl, H3.ge 0 (o := .cells cur 30 (0, 0)) (by kernel_rfl), H3.get 0 (by kernel_rfl), hn64, hr⟩

set_option maxRecDepth 100000 in
set_option maxHeartbeats 2000000 in
theorem H_fn  : Fn Tryd.prog 20 #[] (arr 8 beg.s) := by
  refine Fn.intro (c := codeOf Tryd.f20) [.cell 0 31] 18 Tryd.func20 (by kernel_rfl) (by kernel_rfl) (by kernel_rfl) fun w => ?_
  have H0 := St.start w
  refine g_sreg [0] (by kernel_rfl) (by kernel_rfl) ?_
  refine s_alloc H0 (some 0) 31 (.agg #[.int .u32 0, .int .u32 0, .int .u32 0, .int .u32 0, .int .u32 0, .int .u32 0, .int .u32 0, .int .u32 0]) (by kernel_rfl) (by kernel_rfl) (by kernel_rfl) ?_
  intro b1 w1 H1; clear H0
  refine s_nil ?_
  refine g_sreg [0, 1, 2] (by kernel_rfl) (by kernel_rfl) ?_
  refine s_val (some 4) (.agg #[.int .u32 0, .int .u32 0, .int .u32 0, .int .u32 0, .int .u32 0, .int .u32 0, .int .u32 0, .int .u32 0]) (fun w => by kernel_rfl) (by kernel_rfl) ?_
  refine s_alloc H1 (some 1) 31 (.agg #[.int .u32 0, .int .u32 0, .int .u32 0, .int .u32 0, .int .u32 0, .int .u32 0, .int .u32 0, .int .u32 0]) (by kernel_rfl) (by kernel_rfl) (by kernel_rfl) ?_
  intro b2 w2 H2; clear H1
  refine s_store H2 0 [(b2, Obj.cells #[.int .u32 0, .int .u32 0, .int .u32 0, .int .u32 0, .int .u32 0, .int .u32 0, .int .u32 0, .int .u32 0] 31 (0, 0)), (b1, Obj.cells #[.int .u32 0, .int .u32 0, .int .u32 0, .int .u32 0, .int .u32 0, .int .u32 0, .int .u32 0, .int .u32 0] 31 (0, 0))] 31 (.tmp 1) (.tmp 4) b2 (0) #[.int .u32 0, .int .u32 0, .int .u32 0, .int .u32 0, .int .u32 0, .int .u32 0, .int .u32 0, .int .u32 0] #[.int .u32 0, .int .u32 0, .int .u32 0, .int .u32 0, .int .u32 0, .int .u32 0, .int .u32 0, .int .u32 0] 31 (.agg #[.int .u32 0, .int .u32 0, .int .u32 0, .int .u32 0, .int .u32 0, .int .u32 0, .int .u32 0, .int .u32 0]) (by kernel_rfl) (by kernel_rfl) (by kernel_rfl) (by kernel_rfl) (by kernel_rfl) (by kernel_rfl) (of_decide_eq_true (by kernel_rfl)) (by kernel_rfl) (by kernel_rfl) ?_
  intro w3 H3; clear H2
  refine s_nil ?_
  refine g_seq (by kernel_rfl) ?_
  refine g_sreg [0, 1, 2] (by kernel_rfl) (by kernel_rfl) ?_
  refine s_callS H3 (some 5) 15 #[.int .i64 8] (fun _ => True) 3 1 (fun curZ capZ nZ lZ => (nZ = List.length lZ ∧ Rw 1 curZ capZ nZ (cellsD lZ) ∧ Ok lZ ∧ (lZ = prL 18))) (primes_fn 8 18 prL_8.1 prL_8.2 (by omega) (by omega)) trivial (by kernel_rfl) (by kernel_rfl) ?_
  intro b_1 cap_2 n_3 cur_4 l_5 w4 H4 hs_6; clear H3
  obtain ⟨hs_6n, hs_6r, hs_6o, hs_6s⟩ := hs_6
  refine s_val (some 6) (.int .i64 ((n_3 : Nat) : Int)) (fun w => by kernel_rfl) (by kernel_rfl) ?_
  refine s_val (some 7) (.int .i64 0) (fun w => by kernel_rfl) (by kernel_rfl) ?_
  refine s_nil ?_
  refine g_block 0 (by kernel_rfl) ?_
  have hL8 : List.length l_5 = 8 := by rw [hs_6s]; exact prL_8.1
  have hLn : n_3 = 8 := by rw [hs_6n]; exact hL8
  have HS1 : St w.heap.size w w4 [(b_1, Obj.cells cur_4 3 (0, 0)), (b2, Obj.cells (Value.cells (arr 8 ((List.take 0 l_5).map (fun p => rootW p 2)))) 31 (0, 0)), (b1, Obj.cells #[.int .u32 0, .int .u32 0, .int .u32 0, .int .u32 0, .int .u32 0, .int .u32 0, .int .u32 0, .int .u32 0] 31 (0, 0))] := by rw [show (Value.cells (arr 8 ((List.take 0 l_5).map (fun p => rootW p 2)))) = #[.int .u32 0, .int .u32 0, .int .u32 0, .int .u32 0, .int .u32 0, .int .u32 0, .int .u32 0, .int .u32 0] from by kernel_rfl]; exact H4
  have HF2 : St w.heap.size w w4 [(b1, Obj.cells #[.int .u32 0, .int .u32 0, .int .u32 0, .int .u32 0, .int .u32 0, .int .u32 0, .int .u32 0, .int .u32 0] 31 (0, 0)), (b_1, Obj.cells cur_4 3 (0, 0)), (b2, Obj.cells (Value.cells (arr 8 ((List.take 0 l_5).map (fun p => rootW p 2)))) 31 (0, 0))] := HS1.front 2 (by kernel_rfl) (by kernel_rfl)
  have HF3 : St w.heap.size w w4 [(b_1, Obj.cells cur_4 3 (0, 0)), (b1, Obj.cells #[.int .u32 0, .int .u32 0, .int .u32 0, .int .u32 0, .int .u32 0, .int .u32 0, .int .u32 0, .int .u32 0] 31 (0, 0)), (b2, Obj.cells (Value.cells (arr 8 ((List.take 0 l_5).map (fun p => rootW p 2)))) 31 (0, 0))] := HF2.front 1 (by kernel_rfl) (by kernel_rfl)
  have HF4 : St w.heap.size w w4 [(b2, Obj.cells (Value.cells (arr 8 ((List.take 0 l_5).map (fun p => rootW p 2)))) 31 (0, 0)), (b_1, Obj.cells cur_4 3 (0, 0)), (b1, Obj.cells #[.int .u32 0, .int .u32 0, .int .u32 0, .int .u32 0, .int .u32 0, .int .u32 0, .int .u32 0, .int .u32 0] 31 (0, 0))] := HF3.front 2 (by kernel_rfl) (by kernel_rfl)
  refine g_loop (by kernel_rfl) (fun mz ρ ww => ∃ (i : Nat), 8 - i = mz ∧ (i ≤ 8) ∧ St w.heap.size w ww [(b2, Obj.cells (Value.cells (arr 8 ((List.take i l_5).map (fun p => rootW p 2)))) 31 (0, 0)), (b_1, Obj.cells cur_4 3 (0, 0)), (b1, Obj.cells #[.int .u32 0, .int .u32 0, .int .u32 0, .int .u32 0, .int .u32 0, .int .u32 0, .int .u32 0, .int .u32 0] 31 (0, 0))] ∧ Is [(0, .pointer (some ⟨b1, 0, none⟩)), (1, .pointer (some ⟨b2, 0, none⟩)), (5, .slice (some ⟨b_1, 0, none⟩) n_3 cap_2), (6, .int .i64 ((n_3 : Nat) : Int)), (7, .int .i64 ((i : Nat) : Int))] ρ) (8 - 0) ⟨0, rfl, (by omega), HF4, (Is.of ⟨(by kernel_rfl), (by kernel_rfl), (by kernel_rfl), (by kernel_rfl), (by kernel_rfl), trivial⟩)⟩ ?_
  clear HF4
  rintro _ _ w5 ⟨i, rfl, hi, H5, _, rfl⟩
  refine g_sreg [0] (by kernel_rfl) (by kernel_rfl) ?_
  by_cases hc5 : (i : Nat) < n_3
  · skip
    refine s_valE (some 8) (.bool (decide (((i : Nat) : Int) < ((n_3 : Nat) : Int)))) (.bool true) (fun w => by kernel_rfl) (bool_eq (decide_eq_true (by omega))) (by kernel_rfl) ?_
    refine s_nil ?_
    refine g_seq (by kernel_rfl) ?_
    refine g_cond_t (by kernel_rfl) (by kernel_rfl) ?_
    refine g_skip (by kernel_rfl) ?_
    show WP _ _ _ _ _ _
    refine g_seq (by kernel_rfl) ?_
    refine g_block 1 (by kernel_rfl) ?_
    refine g_sreg [0, 1, 2, 3, 4] (by kernel_rfl) (by kernel_rfl) ?_
    refine s_val (some 9) (.int .i64 ((i : Nat) : Int)) (fun w => by kernel_rfl) (by kernel_rfl) ?_
    refine s_op (some 10) _ (.pointer (some ⟨b_1, 0 + i * 1, none⟩)) (by kernel_rfl) (by kernel_rfl) (fun o w ho => idxS_run (kd := .i64) (t := 39) (e := 3) (size := 1) (bytes := 8) (by kernel_rfl) (x := (.tmp 5)) (y := (.tmp 7)) b_1 0 n_3 cap_2 i ho (by kernel_rfl) (by kernel_rfl) (by omega) w) ?_
    refine s_load1 H5 (some 11) 3 (.tmp 10) 1 b_1 (0 + i * 1) cur_4 3 (0, 0) (.int .i64 ((List.getD l_5 i 0 : Nat) : Int)) (by kernel_rfl) (by kernel_rfl) (by kernel_rfl) (by kernel_rfl) (by kernel_rfl) (hs_6r.atD (by omega) hs_6n) ?_
    refine s_val (some 2) (.int .i64 ((i : Nat) : Int)) (fun w => by kernel_rfl) (by kernel_rfl) ?_
    refine s_val (some 3) (.int .i64 ((List.getD l_5 i 0 : Nat) : Int)) (fun w => by kernel_rfl) (by kernel_rfl) ?_
    refine s_nil ?_
    refine g_reg0 [0, 1, 2, 3, 4] (by kernel_rfl) ?_
    refine s_val (some 12) (.int .i64 ((i : Nat) : Int)) (fun w => by kernel_rfl) (by kernel_rfl) ?_
    refine s_val (some 13) (.int .i64 ((List.getD l_5 i 0 : Nat) : Int)) (fun w => by kernel_rfl) (by kernel_rfl) ?_
    refine s_call H5 (some 14) 16 #[.int .i64 ((List.getD l_5 i 0 : Nat) : Int), .int .i64 2] (.int .u32 ((BitVec.toNat (rootW (List.getD l_5 i 0) 2) : Nat) : Int)) (root_fn (List.getD l_5 i 0) (ok_getD hs_6o i) 2 (by omega)) (fun w => by kernel_rfl) (by kernel_rfl) ?_
    intro w6 H6; clear H5
    refine s_op (some 15) _ (.pointer (some ⟨b2, 0 + i * 1, none⟩)) (by kernel_rfl) (by kernel_rfl) (fun o w ho => idxA_run (kd := .i64) (t := 31) (n := 8) (size := 1) (by kernel_rfl) (x := (.tmp 1)) (y := (.tmp 12)) b2 0 i ho (by kernel_rfl) (by kernel_rfl) (by omega) w) ?_
    refine s_store H6 0 [(b2, Obj.cells (Value.cells (arr 8 ((List.take (i + 1) l_5).map (fun p => rootW p 2)))) 31 (0, 0)), (b_1, Obj.cells cur_4 3 (0, 0)), (b1, Obj.cells #[.int .u32 0, .int .u32 0, .int .u32 0, .int .u32 0, .int .u32 0, .int .u32 0, .int .u32 0, .int .u32 0] 31 (0, 0))] 30 (.tmp 15) (.tmp 14) b2 (0 + i * 1) (Value.cells (arr 8 ((List.take i l_5).map (fun p => rootW p 2)))) (Value.cells (arr 8 ((List.take (i + 1) l_5).map (fun p => rootW p 2)))) 31 (.int .u32 ((BitVec.toNat (rootW (List.getD l_5 i 0) 2) : Nat) : Int)) (by kernel_rfl) (by kernel_rfl) (by kernel_rfl) (by kernel_rfl) (by kernel_rfl) (by kernel_rfl) (by show _ + 1 ≤ 8; omega) (arr_put (k := i) (x := rootW (List.getD l_5 i 0) 2) (by omega) (by omega) (fun j _ => nth_take (fun p => rootW p 2) l_5 i j (by omega))) (by kernel_rfl) ?_
    intro w7 H7; clear H6
    refine s_nil ?_
    show WP _ _ _ _ _ _
    refine g_reg0 [0, 1] (by kernel_rfl) ?_
    refine s_valE (some 16) (.int .i64 (IntKind.i64.wrap (((i : Nat) : Int) + 1))) (.int .i64 ((i + 1 : Nat) : Int)) (fun w => by kernel_rfl) (int_eq (wrapAdd_i64 (a := i) (b := 1) (by omega))) (by kernel_rfl) ?_
    refine s_val (some 7) (.int .i64 ((i + 1 : Nat) : Int)) (fun w => by kernel_rfl) (by kernel_rfl) ?_
    refine s_nil ?_
    show ∃ m, _ ∧ _
    exact ⟨_, (by omega), (i + 1), rfl, (by omega), H7, (Is.of ⟨(by kernel_rfl), (by kernel_rfl), (by kernel_rfl), (by kernel_rfl), (by kernel_rfl), trivial⟩)⟩
  · skip
    refine s_valE (some 8) (.bool (decide (((i : Nat) : Int) < ((n_3 : Nat) : Int)))) (.bool false) (fun w => by kernel_rfl) (bool_eq (decide_eq_false (by omega))) (by kernel_rfl) ?_
    refine s_nil ?_
    refine g_seq (by kernel_rfl) ?_
    refine g_cond_f (by kernel_rfl) (by kernel_rfl) ?_
    refine g_exit 0 (by kernel_rfl) ?_
    show WP _ _ _ _ _ _
    refine g_sreg [0, 1] (by kernel_rfl) (by kernel_rfl) ?_
    refine s_load H5 (some 17) 31 (.tmp 1) 0 b2 (Value.cells (arr 8 ((List.take i l_5).map (fun p => rootW p 2)))) 31 (0, 0) (by kernel_rfl) (by kernel_rfl) (by kernel_rfl) (by kernel_rfl) (by kernel_rfl) ?_
    refine s_store H5 2 [(b2, Obj.cells (Value.cells (arr 8 ((List.take i l_5).map (fun p => rootW p 2)))) 31 (0, 0)), (b_1, Obj.cells cur_4 3 (0, 0)), (b1, Obj.cells (Value.cells (arr 8 ((List.take i l_5).map (fun p => rootW p 2)))) 31 (0, 0))] 31 (.tmp 0) (.tmp 17) b1 (0) #[.int .u32 0, .int .u32 0, .int .u32 0, .int .u32 0, .int .u32 0, .int .u32 0, .int .u32 0, .int .u32 0] (Value.cells (arr 8 ((List.take i l_5).map (fun p => rootW p 2)))) 31 (arr 8 ((List.take i l_5).map (fun p => rootW p 2))) (by kernel_rfl) (by kernel_rfl) (by kernel_rfl) (by kernel_rfl) (by kernel_rfl) (by kernel_rfl) (of_decide_eq_true (by kernel_rfl)) (by kernel_rfl) (by kernel_rfl) ?_
    intro w8 H8; clear H5
    refine s_nil ?_
    refine g_ret (by kernel_rfl) ?_
    show ∃ vs, Res _ _ _ _ vs ∧ _
    refine ⟨[arr 8 ((List.take i l_5).map (fun p => rootW p 2))], (.agg (b := b1) (Value.cells (arr 8 ((List.take i l_5).map (fun p => rootW p 2)))) 31 (0, 0) (by kernel_rfl) (H8.get 2 (by kernel_rfl)) (by kernel_rfl) .nil), ?_, H8.below⟩
    obtain rfl : i = 8 := by omega
    have hlr : (List.take 8 l_5).map (fun p => rootW p 2) = Sha.beg.s := by rw [List.take_of_length_le (by omega), hs_6s]; exact heads_ok
    exact congrArg (arr 8) hlr
end Go.Proofs.YtjhldipeicpoeaaDoor
