/-
  The reference: Left.
-/
import Derived.Test.YtljhbhhpfkmemaaNum
import Derived.Test.YtljhbhhpfkmemaaUlib
import Derived.Test.YtljhbhhpfkmemaaRefM
import Derived.Test.YtljhbhhpfkmemaaRefY
namespace Go.Proofs.Ytljhbhhpfkmemaa
open Go Go.RowKit
set_option linter.unusedVariables false
set_option maxRecDepth 100000 in
set_option maxHeartbeats 2000000 in
theorem left_fn (x y : List Nat) (ba nx ca bb ny cb : Nat) (curA curB : Array Value) (hnx : nx = List.length x) (hny : ny = List.length y) (hA : Rw 1 curA ca nx (cellsD x)) (hB : Rw 1 curB cb ny (cellsD y)) (hx : Ok x) (hy : Ok y) (lx : List.length x ≤ 2000) (ly : List.length y ≤ 2000) (hM : 0 < vl y) (hy1 : 1 ≤ List.length y) : FnR Try.prog 72 #[.slice (some ⟨ba, 0, none⟩) nx ca, .slice (some ⟨bb, 0, none⟩) ny cb] (fun w => w.heap[ba]? = some (.cells curA 3 (0, 0)) ∧ w.heap[bb]? = some (.cells curB 3 (0, 0))) (RetS 3 1 (fun cur cap n l => (n = List.length l ∧ Rw 1 cur cap n (cellsD l) ∧ Ok l ∧ (vl l = vl x % vl y ∧ 1 ≤ List.length l ∧ List.length l ≤ List.length y)))) := by
  subst hnx hny
  refine FnR.intro (c := codeOf Try.f72) [.tmp 4] 58 Try.func72 kr kr kr fun w hpre => ?_
  have H0 := St.start w
  refine g_sreg [0] kr kr ?_
  refine s_val (some 4) (.slice none 0 0) (fun w => kr) kr ?_
  refine s_nil ?_
  refine g_sreg [0, 1] kr kr ?_
  refine s_new H0 (some 7) (fun b => .slice (some ⟨b, 0, none⟩) 1 1) #[.int .i64 0] 3 (fun w => kr) kr ?_
  intro b1 w1 H1; clear H0
  refine s_val (some 5) (.slice (some ⟨b1, 0, none⟩) 1 1) (fun w => kr) kr ?_
  refine s_nil ?_
  refine g_seq kr ?_
  refine g_sreg [0, 1, 2, 3, 4] kr kr ?_
  refine s_val (some 8) (.slice (some ⟨ba, 0, none⟩) (List.length x) ca) (fun w => kr) kr ?_
  refine s_val (some 9) (.int .i64 ((List.length x : Nat) : Int)) (fun w => kr) kr ?_
  refine s_valE (some 10) (.int .i64 (IntKind.i64.wrap (16 * ((List.length x : Nat) : Int)))) (.int .i64 ((16 * (List.length x) : Nat) : Int)) (fun w => kr) (int_eq (wrapMul_i64 (a := 16) (b := List.length x) (by omega))) kr ?_
  refine s_valE (some 11) (.int .i64 (IntKind.i64.wrap (((16 * (List.length x) : Nat) : Int) - 1))) (.int .i64 (((16 * (List.length x) : Nat) : Int) - 1)) (fun w => kr) (int_eq (wrap_i64 (by omega) (by omega))) kr ?_
  refine s_val (some 6) (.int .i64 (((16 * (List.length x) : Nat) : Int) - 1)) (fun w => kr) kr ?_
  refine s_nil ?_
  refine g_block 0 kr ?_
  have hv0 : vl [0] = vl x / 2 ^ (16 * List.length x) % vl y := by rw [Nat.div_eq_of_lt (by have := vl_lt hx; rw [show (65536 : Nat) = 2 ^ 16 from rfl, ← Nat.pow_mul] at this; exact this), Nat.zero_mod]; rfl
  refine g_loop kr (fun mz ρ ww => ∃ (b : Nat) (cap : Nat) (n : Nat) (cur : Array Value) (l : List Nat) (j : Nat), j = mz ∧ (n = List.length l) ∧ (Rw 1 cur cap n (cellsD l)) ∧ (Ok l) ∧ (vl l = vl x / 2 ^ j % vl y) ∧ (1 ≤ n) ∧ (n ≤ List.length y) ∧ (j ≤ 16 * List.length x) ∧ St w.heap.size w ww [(b, Od cur 3)] ∧ Is [(0, .slice (some ⟨ba, 0, none⟩) (List.length x) ca), (1, .slice (some ⟨bb, 0, none⟩) (List.length y) cb), (4, .slice none 0 0), (5, .slice (some ⟨b, 0, none⟩) n cap), (6, .int .i64 (((j : Nat) : Int) - 1))] ρ) (16 * List.length x) ⟨b1, 1, 1, #[.int .i64 0], [0], (16 * List.length x), rfl, rfl, (Rw.lit #[.int .i64 0] 1 rfl (by unfold maxLen; omega)), (by intro d hd; simp at hd; omega), hv0, (by omega), hy1, (by omega), H1, (Is.of ⟨kr, kr, kr, kr, kr, trivial⟩)⟩ ?_
  clear H1
  rintro _ _ w2 ⟨b, cap, n, cur, l, j, rfl, hn, hr, ho, hv, h1, h2, hj, H2, _, rfl⟩
  refine g_seq kr ?_
  refine g_sreg [0, 1] kr kr ?_
  refine s_val (some 12) (.int .i64 (((j : Nat) : Int) - 1)) (fun w => kr) kr ?_
  by_cases hc1 : (((j : Nat) : Int) - 1 : Int) ≥ 0
  · skip
    refine s_valE (some 13) (.bool (decide (0 ≤ ((j : Nat) : Int) - 1))) (.bool true) (fun w => kr) (bool_eq (decide_eq_true (by omega))) kr ?_
    refine s_nil ?_
    refine g_cond_t kr kr ?_
    refine g_skip kr ?_
    show WP _ _ _ _ _ _
    refine g_seq kr ?_
    refine g_block 1 kr ?_
    refine g_sreg [0, 1, 2, 3] kr kr ?_
    rw [show (((j : Nat) : Int) - 1) = ((j - 1 : Nat) : Int) from by omega]
    have h01 : List.length [1] = 1 := rfl; have hv01 : vl [1] = 1 := rfl
    have hbit := bit_digit hx (j - 1)
    have hst := left_step (N := vl x) (M := vl y) (v := vl l) (j := j - 1) hM (by rw [show j - 1 + 1 = j by omega]; exact hv)
    have hdx := ok_getD hx ((j - 1) / 16); have hdv : List.getD x ((j - 1) / 16) 0 / 2 ^ ((j - 1) % 16) ≤ List.getD x ((j - 1) / 16) 0 := Nat.div_le_self _ _
    refine s_val (some 16) (.slice (some ⟨b, 0, none⟩) n cap) (fun w => kr) kr ?_
    refine s_val (some 17) (.slice (some ⟨b, 0, none⟩) n cap) (fun w => kr) kr ?_
    refine s_callS H2 (some 18) 67 #[.slice (some ⟨b, 0, none⟩) n cap, .slice (some ⟨b, 0, none⟩) n cap] (fun w => w.heap[b]? = some (.cells cur 3 (0, 0)) ∧ w.heap[b]? = some (.cells cur 3 (0, 0))) 3 1 (fun curZ capZ nZ lZ => (nZ = List.length lZ ∧ Rw 1 curZ capZ nZ (cellsD lZ) ∧ Ok lZ ∧ (vl lZ = vl l + vl l ∧ List.length lZ ≤ max (List.length l) (List.length l) + 1 ∧ max (List.length l) (List.length l) ≤ List.length lZ))) (sum_fn l l b n cap b n cap cur cur hn hn hr hr ho ho (by omega) (by omega)) (⟨(H2.get 0 kr), (H2.get 0 kr)⟩) kr kr ?_
    intro b_1 cap_2 n_3 cur_4 l_5 w3 H3 hs_6; clear H2
    obtain ⟨hs_6n, hs_6r, hs_6o, hs_6s⟩ := hs_6
    refine s_val (some 5) (.slice (some ⟨b_1, 0, none⟩) n_3 cap_2) (fun w => kr) kr ?_
    refine s_nil ?_
    refine g_seq kr ?_
    refine g_sreg [0, 1, 2, 3, 4, 5, 6, 7, 8, 9, 10] kr kr ?_
    refine s_val (some 19) (.slice (some ⟨ba, 0, none⟩) (List.length x) ca) (fun w => kr) kr ?_
    refine s_val (some 20) (.int .i64 ((j - 1 : Nat) : Int)) (fun w => kr) kr ?_
    refine s_valE (some 21) (.int .i64 (IntKind.i64.wrap (((j - 1 : Nat) : Int).tdiv 16))) (.int .i64 (((j - 1) / 16 : Nat) : Int)) (fun w => kr) (int_eq (quoN_i64 (a := j - 1) (b := 16) (by omega))) kr ?_
    refine s_op (some 22) _ (.pointer (some ⟨ba, 0 + ((j - 1) / 16) * 1, none⟩)) kr kr (fun o w ho => idxS_run (kd := .i64) (t := 68) (e := 3) (size := 1) (bytes := 8) kr (x := (.tmp 19)) (y := (.tmp 21)) ba 0 (List.length x) ca ((j - 1) / 16) ho kr kr (by omega) w) ?_
    refine s_load1F H3 (some 23) 3 (.tmp 22) ba (0 + ((j - 1) / 16) * 1) curA 3 (0, 0) (.int .i64 ((List.getD x ((j - 1) / 16) 0 : Nat) : Int)) kr kr kr hpre.1 (lt_of_heap hpre.1) kr (hA.atD (by omega) rfl) ?_
    refine s_val (some 24) (.int .i64 ((j - 1 : Nat) : Int)) (fun w => kr) kr ?_
    refine s_valE (some 25) (.int .i64 (Int.tmod ((j - 1 : Nat) : Int) 16)) (.int .i64 (((j - 1) % 16 : Nat) : Int)) (fun w => kr) (int_eq (remN (j - 1) 16)) kr ?_
    refine s_valE (some 26) (.int .u64 (IntKind.u64.wrap ((((j - 1) % 16 : Nat) : Int)))) (.int .u64 (((j - 1) % 16 : Nat) : Int)) (fun w => kr) (int_eq (wrapN_u64 (a := (j - 1) % 16) (by omega))) kr ?_
    refine s_valE (some 27) (.int .i64 (Int.fdiv ((List.getD x ((j - 1) / 16) 0 : Nat) : Int) (2 ^ (min ((j - 1) % 16) 64)))) (.int .i64 (((List.getD x ((j - 1) / 16) 0) / 2 ^ ((j - 1) % 16) : Nat) : Int)) (fun w => kr) (int_eq (shr_min (List.getD x ((j - 1) / 16) 0) ((j - 1) % 16) 64 (by omega))) kr ?_
    refine s_valE (some 28) (.int .i64 (Int.tmod (((List.getD x ((j - 1) / 16) 0) / 2 ^ ((j - 1) % 16) : Nat) : Int) 2)) (.int .i64 ((((List.getD x ((j - 1) / 16) 0) / 2 ^ ((j - 1) % 16)) % 2 : Nat) : Int)) (fun w => kr) (int_eq (remN ((List.getD x ((j - 1) / 16) 0) / 2 ^ ((j - 1) % 16)) 2)) kr ?_
    by_cases hc2 : (((List.getD x ((j - 1) / 16) 0) / 2 ^ ((j - 1) % 16)) % 2 : Nat) = 1
    · skip
      refine s_valE (some 29) (.bool (((((List.getD x ((j - 1) / 16) 0) / 2 ^ ((j - 1) % 16)) % 2 : Nat) : Int) == 1)) (.bool true) (fun w => kr) (bool_eq (beq_iff_eq.2 (by omega))) kr ?_
      refine s_nil ?_
      refine g_cond_t kr kr ?_
      refine g_reg0 [0, 1, 2, 3] kr ?_
      refine s_val (some 30) (.slice (some ⟨b_1, 0, none⟩) n_3 cap_2) (fun w => kr) kr ?_
      refine s_new H3 (some 31) (fun b => .slice (some ⟨b, 0, none⟩) 1 1) #[.int .i64 1] 3 (fun w => kr) kr ?_
      intro b2 w4 H4; clear H3
      refine s_callS H4 (some 32) 67 #[.slice (some ⟨b_1, 0, none⟩) n_3 cap_2, .slice (some ⟨b2, 0, none⟩) 1 1] (fun w => w.heap[b_1]? = some (.cells cur_4 3 (0, 0)) ∧ w.heap[b2]? = some (.cells #[.int .i64 1] 3 (0, 0))) 3 1 (fun curZ capZ nZ lZ => (nZ = List.length lZ ∧ Rw 1 curZ capZ nZ (cellsD lZ) ∧ Ok lZ ∧ (vl lZ = vl l_5 + vl ([1]) ∧ List.length lZ ≤ max (List.length l_5) (List.length ([1])) + 1 ∧ max (List.length l_5) (List.length ([1])) ≤ List.length lZ))) (sum_fn l_5 ([1]) b_1 n_3 cap_2 b2 1 1 cur_4 #[.int .i64 1] hs_6n rfl hs_6r (Rw.lit #[.int .i64 1] 1 (by rfl) (by unfold maxLen; omega)) hs_6o (by intro d hd; simp at hd; omega) (by omega) (by simp)) (⟨(H4.get 1 kr), (H4.get 0 kr)⟩) kr kr ?_
      intro b_7 cap_8 n_9 cur_10 l_11 w5 H5 hs_12; clear H4
      obtain ⟨hs_12n, hs_12r, hs_12o, hs_12s⟩ := hs_12
      refine s_val (some 5) (.slice (some ⟨b_7, 0, none⟩) n_9 cap_8) (fun w => kr) kr ?_
      refine s_nil ?_
      show WP _ _ _ _ _ _
      refine g_seq kr ?_
      refine g_sreg [0, 1, 2, 3] kr kr ?_
      refine s_val (some 33) (.slice (some ⟨b_7, 0, none⟩) n_9 cap_8) (fun w => kr) kr ?_
      refine s_val (some 34) (.slice (some ⟨bb, 0, none⟩) (List.length y) cb) (fun w => kr) kr ?_
      refine s_callP H5 (some 35) 46 #[.slice (some ⟨b_7, 0, none⟩) n_9 cap_8, .slice (some ⟨bb, 0, none⟩) (List.length y) cb] (fun w => w.heap[b_7]? = some (.cells cur_10 3 (0, 0)) ∧ w.heap[bb]? = some (.cells curB 3 (0, 0))) (.bool (ls l_11 y)) (less_fn l_11 y b_7 n_9 cap_8 bb (List.length y) cb cur_10 curB hs_12n rfl hs_12r hB hs_12o hy (by omega) (by omega)) (⟨(H5.get 0 kr), (H5.old hpre.2 (lt_of_heap hpre.2))⟩) (fun w => kr) kr ?_
      intro w6 H6; clear H5
      cases hls : ls l_11 y
      · skip
        have hls2 := of_decide_eq_false hls
        refine s_val (some 36) (.bool true) (fun w => kr) kr ?_
        refine s_nil ?_
        refine g_cond_t kr kr ?_
        refine g_reg0 [0, 1, 2, 3] kr ?_
        refine s_val (some 37) (.slice (some ⟨b_7, 0, none⟩) n_9 cap_8) (fun w => kr) kr ?_
        refine s_val (some 38) (.slice (some ⟨bb, 0, none⟩) (List.length y) cb) (fun w => kr) kr ?_
        refine s_callS H6 (some 39) 68 #[.slice (some ⟨b_7, 0, none⟩) n_9 cap_8, .slice (some ⟨bb, 0, none⟩) (List.length y) cb] (fun w => w.heap[b_7]? = some (.cells cur_10 3 (0, 0)) ∧ w.heap[bb]? = some (.cells curB 3 (0, 0))) 3 1 (fun curZ capZ nZ lZ => (nZ = List.length lZ ∧ Rw 1 curZ capZ nZ (cellsD lZ) ∧ Ok lZ ∧ (vl lZ = vl l_11 - vl y ∧ List.length lZ = List.length l_11))) (take_fn l_11 y b_7 n_9 cap_8 bb (List.length y) cb cur_10 curB hs_12n rfl hs_12r hB hs_12o hy (by omega) (by omega) (by omega)) (⟨(H6.get 0 kr), (H6.old hpre.2 (lt_of_heap hpre.2))⟩) kr kr ?_
        intro b_13 cap_14 n_15 cur_16 l_17 w7 H7 hs_18; clear H6
        obtain ⟨hs_18n, hs_18r, hs_18o, hs_18s⟩ := hs_18
        refine s_val (some 5) (.slice (some ⟨b_13, 0, none⟩) n_15 cap_14) (fun w => kr) kr ?_
        refine s_nil ?_
        show WP _ _ _ _ _ _
        refine g_block 2 kr ?_
        have HD3 : St w.heap.size w w7 [(b_13, Od cur_16 3)] := H7.sub (List.Sublist.cons_cons _ (List.Sublist.cons _ (List.Sublist.cons _ (List.Sublist.cons _ (List.Sublist.cons _ List.Sublist.slnil)))))
        refine g_loop kr (fun mz ρ ww => ∃ (b2 : Nat) (cap2 : Nat) (n2 : Nat) (cur2 : Array Value) (l2 : List Nat), n2 = mz ∧ (n2 = List.length l2) ∧ (Rw 1 cur2 cap2 n2 (cellsD l2)) ∧ (Ok l2) ∧ (vl l2 = vl x / 2 ^ (j - 1) % vl y) ∧ (1 ≤ n2) ∧ (n2 ≤ 6000) ∧ St w.heap.size w ww [(b2, Od cur2 3)] ∧ Is [(0, .slice (some ⟨ba, 0, none⟩) (List.length x) ca), (1, .slice (some ⟨bb, 0, none⟩) (List.length y) cb), (4, .slice none 0 0), (5, .slice (some ⟨b2, 0, none⟩) n2 cap2), (6, .int .i64 ((j - 1 : Nat) : Int)), (13, .bool true), (29, .bool true), (36, .bool true)] ρ) n_15 ⟨b_13, cap_14, n_15, cur_16, l_17, rfl, hs_18n, hs_18r, hs_18o, (by omega), (by omega), (by omega), HD3, (Is.of ⟨kr, kr, kr, kr, kr, kr, kr, kr, trivial⟩)⟩ ?_
        clear HD3
        rintro _ _ w8 ⟨b2, cap2, n2, cur2, l2, rfl, hn2, hr2, ho2, hV, h12, h22, H8, _, rfl⟩
        refine g_seq kr ?_
        refine g_sreg [0, 1, 2, 3, 4, 5, 6, 7, 8, 9, 10, 11] kr kr ?_
        refine s_val (some 40) (.slice (some ⟨b2, 0, none⟩) n2 cap2) (fun w => kr) kr ?_
        refine s_val (some 41) (.int .i64 ((n2 : Nat) : Int)) (fun w => kr) kr ?_
        by_cases hc4 : (n2 : Nat) > 1
        · skip
          refine s_valE (some 42) (.bool (decide (1 < ((n2 : Nat) : Int)))) (.bool true) (fun w => kr) (bool_eq (decide_eq_true (by omega))) kr ?_
          refine s_val (some 43) (.bool true) (fun w => kr) kr ?_
          refine s_val (some 44) (.slice (some ⟨b2, 0, none⟩) n2 cap2) (fun w => kr) kr ?_
          refine s_val (some 45) (.slice (some ⟨b2, 0, none⟩) n2 cap2) (fun w => kr) kr ?_
          refine s_val (some 46) (.int .i64 ((n2 : Nat) : Int)) (fun w => kr) kr ?_
          refine s_valE (some 47) (.int .i64 (IntKind.i64.wrap (((n2 : Nat) : Int) - 1))) (.int .i64 ((n2 - 1 : Nat) : Int)) (fun w => kr) (int_eq (wrapSub_i64 (a := n2) (b := 1) (by omega))) kr ?_
          refine s_op (some 48) _ (.pointer (some ⟨b2, 0 + (n2 - 1) * 1, none⟩)) kr kr (fun o w ho => idxS_run (kd := .i64) (t := 68) (e := 3) (size := 1) (bytes := 8) kr (x := (.tmp 44)) (y := (.tmp 47)) b2 0 n2 cap2 (n2 - 1) ho kr kr (by omega) w) ?_
          refine s_load1 H8 (some 49) 3 (.tmp 48) 0 b2 (0 + (n2 - 1) * 1) cur2 3 (0, 0) (.int .i64 ((List.getD l2 (n2 - 1) 0 : Nat) : Int)) kr kr kr kr kr (hr2.atD (by omega) hn2) ?_
          by_cases hc5 : (List.getD l2 (n2 - 1) 0 : Nat) = 0
          · skip
            refine s_valE (some 50) (.bool (((List.getD l2 (n2 - 1) 0 : Nat) : Int) == 0)) (.bool true) (fun w => kr) (bool_eq (beq_iff_eq.2 (by omega))) kr ?_
            refine s_val (some 51) (.bool true) (fun w => kr) kr ?_
            refine s_nil ?_
            refine g_cond_t kr kr ?_
            refine g_skip kr ?_
            show WP _ _ _ _ _ _
            refine g_block 3 kr ?_
            refine g_reg0 [0, 1, 2, 3, 4, 5] kr ?_
            refine s_val (some 52) (.slice (some ⟨b2, 0, none⟩) n2 cap2) (fun w => kr) kr ?_
            refine s_val (some 53) (.slice (some ⟨b2, 0, none⟩) n2 cap2) (fun w => kr) kr ?_
            refine s_val (some 54) (.int .i64 ((n2 : Nat) : Int)) (fun w => kr) kr ?_
            refine s_valE (some 55) (.int .i64 (IntKind.i64.wrap (((n2 : Nat) : Int) - 1))) (.int .i64 ((n2 - 1 : Nat) : Int)) (fun w => kr) (int_eq (wrapSub_i64 (a := n2) (b := 1) (by omega))) kr ?_
            refine s_op (some 56) _ (.slice (some ⟨b2, 0, none⟩) (n2 - 1) cap2) kr kr (fun o w ho => cut_run (kd := .i64) (t := 68) (e := 3) (size := 1) (bytes := 8) kr (x := (.tmp 52)) (y := (.tmp 55)) b2 n2 cap2 (n2 - 1) ho kr kr (Nat.le_trans (by omega) hr2.le) w) ?_
            refine s_val (some 5) (.slice (some ⟨b2, 0, none⟩) (n2 - 1) cap2) (fun w => kr) kr ?_
            refine s_nil ?_
            show ∃ m, _ ∧ _
            exact ⟨_, (by omega), b2, cap2, (n2 - 1), cur2, (List.take (n2 - 1) l2), rfl, (by rw [List.length_take]; omega), (by have h := hr2.cut (n2 - 1) (by omega); rw [Nat.mul_one] at h; unfold cellsD at h ⊢; rw [cellsD_take] at h; exact h), (ok_take ho2 _), (by subst hn2; rw [vl_dropLast (by omega) (by omega)]; exact hV), (by omega), (by omega), H8, (Is.of ⟨kr, kr, kr, kr, kr, kr, kr, kr, trivial⟩)⟩
          · skip
            refine s_valE (some 50) (.bool (((List.getD l2 (n2 - 1) 0 : Nat) : Int) == 0)) (.bool false) (fun w => kr) (bool_eq (beq_eq_false_iff_ne.2 (by omega))) kr ?_
            refine s_val (some 51) (.bool false) (fun w => kr) kr ?_
            refine s_nil ?_
            refine g_cond_f kr kr ?_
            refine g_exit 2 kr ?_
            show WP _ _ _ _ _ _
            refine g_reg0 [0, 1, 2] kr ?_
            have hfin : n2 ≤ List.length y := by
                          rcases Nat.lt_or_ge 1 n2 with h | h
                          · subst hn2; exact vl_len hy h (by omega) (by rw [hV]; exact Nat.mod_lt _ hM)
                          · omega
            refine s_val (some 14) (.int .i64 ((j - 1 : Nat) : Int)) (fun w => kr) kr ?_
            refine s_valE (some 15) (.int .i64 (IntKind.i64.wrap (((j - 1 : Nat) : Int) - 1))) (.int .i64 (((j - 1 : Nat) : Int) - 1)) (fun w => kr) (int_eq (wrap_i64 (by omega) (by omega))) kr ?_
            refine s_val (some 6) (.int .i64 (((j - 1 : Nat) : Int) - 1)) (fun w => kr) kr ?_
            refine s_nil ?_
            show ∃ m, _ ∧ _
            exact ⟨_, (by omega), b2, cap2, n2, cur2, l2, (j - 1), rfl, hn2, hr2, ho2, hV, (by omega), hfin, (by omega), H8, (Is.of ⟨kr, kr, kr, kr, kr, trivial⟩)⟩
        · skip
          refine s_valE (some 42) (.bool (decide (1 < ((n2 : Nat) : Int)))) (.bool false) (fun w => kr) (bool_eq (decide_eq_false (by omega))) kr ?_
          refine s_val (some 43) (.bool false) (fun w => kr) kr ?_
          refine s_not (some 44) kr kr ?_
          refine s_not (some 45) kr kr ?_
          refine s_not (some 46) kr kr ?_
          refine s_not (some 47) kr kr ?_
          refine s_not (some 48) kr kr ?_
          refine s_not (some 49) kr kr ?_
          refine s_not (some 50) kr kr ?_
          refine s_val (some 51) (.bool false) (fun w => kr) kr ?_
          refine s_nil ?_
          refine g_cond_f kr kr ?_
          refine g_exit 2 kr ?_
          show WP _ _ _ _ _ _
          refine g_reg0 [0, 1, 2] kr ?_
          have hfin : n2 ≤ List.length y := by
                      rcases Nat.lt_or_ge 1 n2 with h | h
                      · subst hn2; exact vl_len hy h (by omega) (by rw [hV]; exact Nat.mod_lt _ hM)
                      · omega
          refine s_val (some 14) (.int .i64 ((j - 1 : Nat) : Int)) (fun w => kr) kr ?_
          refine s_valE (some 15) (.int .i64 (IntKind.i64.wrap (((j - 1 : Nat) : Int) - 1))) (.int .i64 (((j - 1 : Nat) : Int) - 1)) (fun w => kr) (int_eq (wrap_i64 (by omega) (by omega))) kr ?_
          refine s_val (some 6) (.int .i64 (((j - 1 : Nat) : Int) - 1)) (fun w => kr) kr ?_
          refine s_nil ?_
          show ∃ m, _ ∧ _
          exact ⟨_, (by omega), b2, cap2, n2, cur2, l2, (j - 1), rfl, hn2, hr2, ho2, hV, (by omega), hfin, (by omega), H8, (Is.of ⟨kr, kr, kr, kr, kr, trivial⟩)⟩
      · skip
        have hls2 := of_decide_eq_true hls
        refine s_val (some 36) (.bool false) (fun w => kr) kr ?_
        refine s_nil ?_
        refine g_cond_f kr kr ?_
        refine g_skip kr ?_
        show WP _ _ _ _ _ _
        refine g_block 2 kr ?_
        have HD6 : St w.heap.size w w6 [(b_7, Od cur_10 3)] := H6.sub (List.Sublist.cons_cons _ (List.Sublist.cons _ (List.Sublist.cons _ (List.Sublist.cons _ List.Sublist.slnil))))
        refine g_loop kr (fun mz ρ ww => ∃ (b2 : Nat) (cap2 : Nat) (n2 : Nat) (cur2 : Array Value) (l2 : List Nat), n2 = mz ∧ (n2 = List.length l2) ∧ (Rw 1 cur2 cap2 n2 (cellsD l2)) ∧ (Ok l2) ∧ (vl l2 = vl x / 2 ^ (j - 1) % vl y) ∧ (1 ≤ n2) ∧ (n2 ≤ 6000) ∧ St w.heap.size w ww [(b2, Od cur2 3)] ∧ Is [(0, .slice (some ⟨ba, 0, none⟩) (List.length x) ca), (1, .slice (some ⟨bb, 0, none⟩) (List.length y) cb), (4, .slice none 0 0), (5, .slice (some ⟨b2, 0, none⟩) n2 cap2), (6, .int .i64 ((j - 1 : Nat) : Int)), (13, .bool true), (29, .bool true), (36, .bool false)] ρ) n_9 ⟨b_7, cap_8, n_9, cur_10, l_11, rfl, hs_12n, hs_12r, hs_12o, (by omega), (by omega), (by omega), HD6, (Is.of ⟨kr, kr, kr, kr, kr, kr, kr, kr, trivial⟩)⟩ ?_
        clear HD6
        rintro _ _ w9 ⟨b2, cap2, n2, cur2, l2, rfl, hn2, hr2, ho2, hV, h12, h22, H9, _, rfl⟩
        refine g_seq kr ?_
        refine g_sreg [0, 1, 2, 3, 4, 5, 6, 7, 8, 9, 10, 11] kr kr ?_
        refine s_val (some 40) (.slice (some ⟨b2, 0, none⟩) n2 cap2) (fun w => kr) kr ?_
        refine s_val (some 41) (.int .i64 ((n2 : Nat) : Int)) (fun w => kr) kr ?_
        by_cases hc7 : (n2 : Nat) > 1
        · skip
          refine s_valE (some 42) (.bool (decide (1 < ((n2 : Nat) : Int)))) (.bool true) (fun w => kr) (bool_eq (decide_eq_true (by omega))) kr ?_
          refine s_val (some 43) (.bool true) (fun w => kr) kr ?_
          refine s_val (some 44) (.slice (some ⟨b2, 0, none⟩) n2 cap2) (fun w => kr) kr ?_
          refine s_val (some 45) (.slice (some ⟨b2, 0, none⟩) n2 cap2) (fun w => kr) kr ?_
          refine s_val (some 46) (.int .i64 ((n2 : Nat) : Int)) (fun w => kr) kr ?_
          refine s_valE (some 47) (.int .i64 (IntKind.i64.wrap (((n2 : Nat) : Int) - 1))) (.int .i64 ((n2 - 1 : Nat) : Int)) (fun w => kr) (int_eq (wrapSub_i64 (a := n2) (b := 1) (by omega))) kr ?_
          refine s_op (some 48) _ (.pointer (some ⟨b2, 0 + (n2 - 1) * 1, none⟩)) kr kr (fun o w ho => idxS_run (kd := .i64) (t := 68) (e := 3) (size := 1) (bytes := 8) kr (x := (.tmp 44)) (y := (.tmp 47)) b2 0 n2 cap2 (n2 - 1) ho kr kr (by omega) w) ?_
          refine s_load1 H9 (some 49) 3 (.tmp 48) 0 b2 (0 + (n2 - 1) * 1) cur2 3 (0, 0) (.int .i64 ((List.getD l2 (n2 - 1) 0 : Nat) : Int)) kr kr kr kr kr (hr2.atD (by omega) hn2) ?_
          by_cases hc8 : (List.getD l2 (n2 - 1) 0 : Nat) = 0
          · skip
            refine s_valE (some 50) (.bool (((List.getD l2 (n2 - 1) 0 : Nat) : Int) == 0)) (.bool true) (fun w => kr) (bool_eq (beq_iff_eq.2 (by omega))) kr ?_
            refine s_val (some 51) (.bool true) (fun w => kr) kr ?_
            refine s_nil ?_
            refine g_cond_t kr kr ?_
            refine g_skip kr ?_
            show WP _ _ _ _ _ _
            refine g_block 3 kr ?_
            refine g_reg0 [0, 1, 2, 3, 4, 5] kr ?_
            refine s_val (some 52) (.slice (some ⟨b2, 0, none⟩) n2 cap2) (fun w => kr) kr ?_
            refine s_val (some 53) (.slice (some ⟨b2, 0, none⟩) n2 cap2) (fun w => kr) kr ?_
            refine s_val (some 54) (.int .i64 ((n2 : Nat) : Int)) (fun w => kr) kr ?_
            refine s_valE (some 55) (.int .i64 (IntKind.i64.wrap (((n2 : Nat) : Int) - 1))) (.int .i64 ((n2 - 1 : Nat) : Int)) (fun w => kr) (int_eq (wrapSub_i64 (a := n2) (b := 1) (by omega))) kr ?_
            refine s_op (some 56) _ (.slice (some ⟨b2, 0, none⟩) (n2 - 1) cap2) kr kr (fun o w ho => cut_run (kd := .i64) (t := 68) (e := 3) (size := 1) (bytes := 8) kr (x := (.tmp 52)) (y := (.tmp 55)) b2 n2 cap2 (n2 - 1) ho kr kr (Nat.le_trans (by omega) hr2.le) w) ?_
            refine s_val (some 5) (.slice (some ⟨b2, 0, none⟩) (n2 - 1) cap2) (fun w => kr) kr ?_
            refine s_nil ?_
            show ∃ m, _ ∧ _
            exact ⟨_, (by omega), b2, cap2, (n2 - 1), cur2, (List.take (n2 - 1) l2), rfl, (by rw [List.length_take]; omega), (by have h := hr2.cut (n2 - 1) (by omega); rw [Nat.mul_one] at h; unfold cellsD at h ⊢; rw [cellsD_take] at h; exact h), (ok_take ho2 _), (by subst hn2; rw [vl_dropLast (by omega) (by omega)]; exact hV), (by omega), (by omega), H9, (Is.of ⟨kr, kr, kr, kr, kr, kr, kr, kr, trivial⟩)⟩
          · skip
            refine s_valE (some 50) (.bool (((List.getD l2 (n2 - 1) 0 : Nat) : Int) == 0)) (.bool false) (fun w => kr) (bool_eq (beq_eq_false_iff_ne.2 (by omega))) kr ?_
            refine s_val (some 51) (.bool false) (fun w => kr) kr ?_
            refine s_nil ?_
            refine g_cond_f kr kr ?_
            refine g_exit 2 kr ?_
            show WP _ _ _ _ _ _
            refine g_reg0 [0, 1, 2] kr ?_
            have hfin : n2 ≤ List.length y := by
                          rcases Nat.lt_or_ge 1 n2 with h | h
                          · subst hn2; exact vl_len hy h (by omega) (by rw [hV]; exact Nat.mod_lt _ hM)
                          · omega
            refine s_val (some 14) (.int .i64 ((j - 1 : Nat) : Int)) (fun w => kr) kr ?_
            refine s_valE (some 15) (.int .i64 (IntKind.i64.wrap (((j - 1 : Nat) : Int) - 1))) (.int .i64 (((j - 1 : Nat) : Int) - 1)) (fun w => kr) (int_eq (wrap_i64 (by omega) (by omega))) kr ?_
            refine s_val (some 6) (.int .i64 (((j - 1 : Nat) : Int) - 1)) (fun w => kr) kr ?_
            refine s_nil ?_
            show ∃ m, _ ∧ _
            exact ⟨_, (by omega), b2, cap2, n2, cur2, l2, (j - 1), rfl, hn2, hr2, ho2, hV, (by omega), hfin, (by omega), H9, (Is.of ⟨kr, kr, kr, kr, kr, trivial⟩)⟩
        · skip
          refine s_valE (some 42) (.bool (decide (1 < ((n2 : Nat) : Int)))) (.bool false) (fun w => kr) (bool_eq (decide_eq_false (by omega))) kr ?_
          refine s_val (some 43) (.bool false) (fun w => kr) kr ?_
          refine s_not (some 44) kr kr ?_
          refine s_not (some 45) kr kr ?_
          refine s_not (some 46) kr kr ?_
          refine s_not (some 47) kr kr ?_
          refine s_not (some 48) kr kr ?_
          refine s_not (some 49) kr kr ?_
          refine s_not (some 50) kr kr ?_
          refine s_val (some 51) (.bool false) (fun w => kr) kr ?_
          refine s_nil ?_
          refine g_cond_f kr kr ?_
          refine g_exit 2 kr ?_
          show WP _ _ _ _ _ _
          refine g_reg0 [0, 1, 2] kr ?_
          have hfin : n2 ≤ List.length y := by
                      rcases Nat.lt_or_ge 1 n2 with h | h
                      · subst hn2; exact vl_len hy h (by omega) (by rw [hV]; exact Nat.mod_lt _ hM)
                      · omega
          refine s_val (some 14) (.int .i64 ((j - 1 : Nat) : Int)) (fun w => kr) kr ?_
          refine s_valE (some 15) (.int .i64 (IntKind.i64.wrap (((j - 1 : Nat) : Int) - 1))) (.int .i64 (((j - 1 : Nat) : Int) - 1)) (fun w => kr) (int_eq (wrap_i64 (by omega) (by omega))) kr ?_
          refine s_val (some 6) (.int .i64 (((j - 1 : Nat) : Int) - 1)) (fun w => kr) kr ?_
          refine s_nil ?_
          show ∃ m, _ ∧ _
          exact ⟨_, (by omega), b2, cap2, n2, cur2, l2, (j - 1), rfl, hn2, hr2, ho2, hV, (by omega), hfin, (by omega), H9, (Is.of ⟨kr, kr, kr, kr, kr, trivial⟩)⟩
    · skip
      refine s_valE (some 29) (.bool (((((List.getD x ((j - 1) / 16) 0) / 2 ^ ((j - 1) % 16)) % 2 : Nat) : Int) == 1)) (.bool false) (fun w => kr) (bool_eq (beq_eq_false_iff_ne.2 (by omega))) kr ?_
      refine s_nil ?_
      refine g_cond_f kr kr ?_
      refine g_skip kr ?_
      show WP _ _ _ _ _ _
      refine g_seq kr ?_
      refine g_sreg [0, 1, 2, 3] kr kr ?_
      refine s_val (some 33) (.slice (some ⟨b_1, 0, none⟩) n_3 cap_2) (fun w => kr) kr ?_
      refine s_val (some 34) (.slice (some ⟨bb, 0, none⟩) (List.length y) cb) (fun w => kr) kr ?_
      refine s_callP H3 (some 35) 46 #[.slice (some ⟨b_1, 0, none⟩) n_3 cap_2, .slice (some ⟨bb, 0, none⟩) (List.length y) cb] (fun w => w.heap[b_1]? = some (.cells cur_4 3 (0, 0)) ∧ w.heap[bb]? = some (.cells curB 3 (0, 0))) (.bool (ls l_5 y)) (less_fn l_5 y b_1 n_3 cap_2 bb (List.length y) cb cur_4 curB hs_6n rfl hs_6r hB hs_6o hy (by omega) (by omega)) (⟨(H3.get 0 kr), (H3.old hpre.2 (lt_of_heap hpre.2))⟩) (fun w => kr) kr ?_
      intro w10 H10; clear H3
      cases hls : ls l_5 y
      · skip
        have hls2 := of_decide_eq_false hls
        refine s_val (some 36) (.bool true) (fun w => kr) kr ?_
        refine s_nil ?_
        refine g_cond_t kr kr ?_
        refine g_reg0 [0, 1, 2, 3] kr ?_
        refine s_val (some 37) (.slice (some ⟨b_1, 0, none⟩) n_3 cap_2) (fun w => kr) kr ?_
        refine s_val (some 38) (.slice (some ⟨bb, 0, none⟩) (List.length y) cb) (fun w => kr) kr ?_
        refine s_callS H10 (some 39) 68 #[.slice (some ⟨b_1, 0, none⟩) n_3 cap_2, .slice (some ⟨bb, 0, none⟩) (List.length y) cb] (fun w => w.heap[b_1]? = some (.cells cur_4 3 (0, 0)) ∧ w.heap[bb]? = some (.cells curB 3 (0, 0))) 3 1 (fun curZ capZ nZ lZ => (nZ = List.length lZ ∧ Rw 1 curZ capZ nZ (cellsD lZ) ∧ Ok lZ ∧ (vl lZ = vl l_5 - vl y ∧ List.length lZ = List.length l_5))) (take_fn l_5 y b_1 n_3 cap_2 bb (List.length y) cb cur_4 curB hs_6n rfl hs_6r hB hs_6o hy (by omega) (by omega) (by omega)) (⟨(H10.get 0 kr), (H10.old hpre.2 (lt_of_heap hpre.2))⟩) kr kr ?_
        intro b_19 cap_20 n_21 cur_22 l_23 w11 H11 hs_24; clear H10
        obtain ⟨hs_24n, hs_24r, hs_24o, hs_24s⟩ := hs_24
        refine s_val (some 5) (.slice (some ⟨b_19, 0, none⟩) n_21 cap_20) (fun w => kr) kr ?_
        refine s_nil ?_
        show WP _ _ _ _ _ _
        refine g_block 2 kr ?_
        have HD9 : St w.heap.size w w11 [(b_19, Od cur_22 3)] := H11.sub (List.Sublist.cons_cons _ (List.Sublist.cons _ (List.Sublist.cons _ List.Sublist.slnil)))
        refine g_loop kr (fun mz ρ ww => ∃ (b2 : Nat) (cap2 : Nat) (n2 : Nat) (cur2 : Array Value) (l2 : List Nat), n2 = mz ∧ (n2 = List.length l2) ∧ (Rw 1 cur2 cap2 n2 (cellsD l2)) ∧ (Ok l2) ∧ (vl l2 = vl x / 2 ^ (j - 1) % vl y) ∧ (1 ≤ n2) ∧ (n2 ≤ 6000) ∧ St w.heap.size w ww [(b2, Od cur2 3)] ∧ Is [(0, .slice (some ⟨ba, 0, none⟩) (List.length x) ca), (1, .slice (some ⟨bb, 0, none⟩) (List.length y) cb), (4, .slice none 0 0), (5, .slice (some ⟨b2, 0, none⟩) n2 cap2), (6, .int .i64 ((j - 1 : Nat) : Int)), (13, .bool true), (29, .bool false), (36, .bool true)] ρ) n_21 ⟨b_19, cap_20, n_21, cur_22, l_23, rfl, hs_24n, hs_24r, hs_24o, (by omega), (by omega), (by omega), HD9, (Is.of ⟨kr, kr, kr, kr, kr, kr, kr, kr, trivial⟩)⟩ ?_
        clear HD9
        rintro _ _ w12 ⟨b2, cap2, n2, cur2, l2, rfl, hn2, hr2, ho2, hV, h12, h22, H12, _, rfl⟩
        refine g_seq kr ?_
        refine g_sreg [0, 1, 2, 3, 4, 5, 6, 7, 8, 9, 10, 11] kr kr ?_
        refine s_val (some 40) (.slice (some ⟨b2, 0, none⟩) n2 cap2) (fun w => kr) kr ?_
        refine s_val (some 41) (.int .i64 ((n2 : Nat) : Int)) (fun w => kr) kr ?_
        by_cases hc10 : (n2 : Nat) > 1
        · skip
          refine s_valE (some 42) (.bool (decide (1 < ((n2 : Nat) : Int)))) (.bool true) (fun w => kr) (bool_eq (decide_eq_true (by omega))) kr ?_
          refine s_val (some 43) (.bool true) (fun w => kr) kr ?_
          refine s_val (some 44) (.slice (some ⟨b2, 0, none⟩) n2 cap2) (fun w => kr) kr ?_
          refine s_val (some 45) (.slice (some ⟨b2, 0, none⟩) n2 cap2) (fun w => kr) kr ?_
          refine s_val (some 46) (.int .i64 ((n2 : Nat) : Int)) (fun w => kr) kr ?_
          refine s_valE (some 47) (.int .i64 (IntKind.i64.wrap (((n2 : Nat) : Int) - 1))) (.int .i64 ((n2 - 1 : Nat) : Int)) (fun w => kr) (int_eq (wrapSub_i64 (a := n2) (b := 1) (by omega))) kr ?_
          refine s_op (some 48) _ (.pointer (some ⟨b2, 0 + (n2 - 1) * 1, none⟩)) kr kr (fun o w ho => idxS_run (kd := .i64) (t := 68) (e := 3) (size := 1) (bytes := 8) kr (x := (.tmp 44)) (y := (.tmp 47)) b2 0 n2 cap2 (n2 - 1) ho kr kr (by omega) w) ?_
          refine s_load1 H12 (some 49) 3 (.tmp 48) 0 b2 (0 + (n2 - 1) * 1) cur2 3 (0, 0) (.int .i64 ((List.getD l2 (n2 - 1) 0 : Nat) : Int)) kr kr kr kr kr (hr2.atD (by omega) hn2) ?_
          by_cases hc11 : (List.getD l2 (n2 - 1) 0 : Nat) = 0
          · skip
            refine s_valE (some 50) (.bool (((List.getD l2 (n2 - 1) 0 : Nat) : Int) == 0)) (.bool true) (fun w => kr) (bool_eq (beq_iff_eq.2 (by omega))) kr ?_
            refine s_val (some 51) (.bool true) (fun w => kr) kr ?_
            refine s_nil ?_
            refine g_cond_t kr kr ?_
            refine g_skip kr ?_
            show WP _ _ _ _ _ _
            refine g_block 3 kr ?_
            refine g_reg0 [0, 1, 2, 3, 4, 5] kr ?_
            refine s_val (some 52) (.slice (some ⟨b2, 0, none⟩) n2 cap2) (fun w => kr) kr ?_
            refine s_val (some 53) (.slice (some ⟨b2, 0, none⟩) n2 cap2) (fun w => kr) kr ?_
            refine s_val (some 54) (.int .i64 ((n2 : Nat) : Int)) (fun w => kr) kr ?_
            refine s_valE (some 55) (.int .i64 (IntKind.i64.wrap (((n2 : Nat) : Int) - 1))) (.int .i64 ((n2 - 1 : Nat) : Int)) (fun w => kr) (int_eq (wrapSub_i64 (a := n2) (b := 1) (by omega))) kr ?_
            refine s_op (some 56) _ (.slice (some ⟨b2, 0, none⟩) (n2 - 1) cap2) kr kr (fun o w ho => cut_run (kd := .i64) (t := 68) (e := 3) (size := 1) (bytes := 8) kr (x := (.tmp 52)) (y := (.tmp 55)) b2 n2 cap2 (n2 - 1) ho kr kr (Nat.le_trans (by omega) hr2.le) w) ?_
            refine s_val (some 5) (.slice (some ⟨b2, 0, none⟩) (n2 - 1) cap2) (fun w => kr) kr ?_
            refine s_nil ?_
            show ∃ m, _ ∧ _
            exact ⟨_, (by omega), b2, cap2, (n2 - 1), cur2, (List.take (n2 - 1) l2), rfl, (by rw [List.length_take]; omega), (by have h := hr2.cut (n2 - 1) (by omega); rw [Nat.mul_one] at h; unfold cellsD at h ⊢; rw [cellsD_take] at h; exact h), (ok_take ho2 _), (by subst hn2; rw [vl_dropLast (by omega) (by omega)]; exact hV), (by omega), (by omega), H12, (Is.of ⟨kr, kr, kr, kr, kr, kr, kr, kr, trivial⟩)⟩
          · skip
            refine s_valE (some 50) (.bool (((List.getD l2 (n2 - 1) 0 : Nat) : Int) == 0)) (.bool false) (fun w => kr) (bool_eq (beq_eq_false_iff_ne.2 (by omega))) kr ?_
            refine s_val (some 51) (.bool false) (fun w => kr) kr ?_
            refine s_nil ?_
            refine g_cond_f kr kr ?_
            refine g_exit 2 kr ?_
            show WP _ _ _ _ _ _
            refine g_reg0 [0, 1, 2] kr ?_
            have hfin : n2 ≤ List.length y := by
                          rcases Nat.lt_or_ge 1 n2 with h | h
                          · subst hn2; exact vl_len hy h (by omega) (by rw [hV]; exact Nat.mod_lt _ hM)
                          · omega
            refine s_val (some 14) (.int .i64 ((j - 1 : Nat) : Int)) (fun w => kr) kr ?_
            refine s_valE (some 15) (.int .i64 (IntKind.i64.wrap (((j - 1 : Nat) : Int) - 1))) (.int .i64 (((j - 1 : Nat) : Int) - 1)) (fun w => kr) (int_eq (wrap_i64 (by omega) (by omega))) kr ?_
            refine s_val (some 6) (.int .i64 (((j - 1 : Nat) : Int) - 1)) (fun w => kr) kr ?_
            refine s_nil ?_
            show ∃ m, _ ∧ _
            exact ⟨_, (by omega), b2, cap2, n2, cur2, l2, (j - 1), rfl, hn2, hr2, ho2, hV, (by omega), hfin, (by omega), H12, (Is.of ⟨kr, kr, kr, kr, kr, trivial⟩)⟩
        · skip
          refine s_valE (some 42) (.bool (decide (1 < ((n2 : Nat) : Int)))) (.bool false) (fun w => kr) (bool_eq (decide_eq_false (by omega))) kr ?_
          refine s_val (some 43) (.bool false) (fun w => kr) kr ?_
          refine s_not (some 44) kr kr ?_
          refine s_not (some 45) kr kr ?_
          refine s_not (some 46) kr kr ?_
          refine s_not (some 47) kr kr ?_
          refine s_not (some 48) kr kr ?_
          refine s_not (some 49) kr kr ?_
          refine s_not (some 50) kr kr ?_
          refine s_val (some 51) (.bool false) (fun w => kr) kr ?_
          refine s_nil ?_
          refine g_cond_f kr kr ?_
          refine g_exit 2 kr ?_
          show WP _ _ _ _ _ _
          refine g_reg0 [0, 1, 2] kr ?_
          have hfin : n2 ≤ List.length y := by
                      rcases Nat.lt_or_ge 1 n2 with h | h
                      · subst hn2; exact vl_len hy h (by omega) (by rw [hV]; exact Nat.mod_lt _ hM)
                      · omega
          refine s_val (some 14) (.int .i64 ((j - 1 : Nat) : Int)) (fun w => kr) kr ?_
          refine s_valE (some 15) (.int .i64 (IntKind.i64.wrap (((j - 1 : Nat) : Int) - 1))) (.int .i64 (((j - 1 : Nat) : Int) - 1)) (fun w => kr) (int_eq (wrap_i64 (by omega) (by omega))) kr ?_
          refine s_val (some 6) (.int .i64 (((j - 1 : Nat) : Int) - 1)) (fun w => kr) kr ?_
          refine s_nil ?_
          show ∃ m, _ ∧ _
          exact ⟨_, (by omega), b2, cap2, n2, cur2, l2, (j - 1), rfl, hn2, hr2, ho2, hV, (by omega), hfin, (by omega), H12, (Is.of ⟨kr, kr, kr, kr, kr, trivial⟩)⟩
      · skip
        have hls2 := of_decide_eq_true hls
        refine s_val (some 36) (.bool false) (fun w => kr) kr ?_
        refine s_nil ?_
        refine g_cond_f kr kr ?_
        refine g_skip kr ?_
        show WP _ _ _ _ _ _
        refine g_block 2 kr ?_
        have HD12 : St w.heap.size w w10 [(b_1, Od cur_4 3)] := H10.sub (List.Sublist.cons_cons _ (List.Sublist.cons _ List.Sublist.slnil))
        refine g_loop kr (fun mz ρ ww => ∃ (b2 : Nat) (cap2 : Nat) (n2 : Nat) (cur2 : Array Value) (l2 : List Nat), n2 = mz ∧ (n2 = List.length l2) ∧ (Rw 1 cur2 cap2 n2 (cellsD l2)) ∧ (Ok l2) ∧ (vl l2 = vl x / 2 ^ (j - 1) % vl y) ∧ (1 ≤ n2) ∧ (n2 ≤ 6000) ∧ St w.heap.size w ww [(b2, Od cur2 3)] ∧ Is [(0, .slice (some ⟨ba, 0, none⟩) (List.length x) ca), (1, .slice (some ⟨bb, 0, none⟩) (List.length y) cb), (4, .slice none 0 0), (5, .slice (some ⟨b2, 0, none⟩) n2 cap2), (6, .int .i64 ((j - 1 : Nat) : Int)), (13, .bool true), (29, .bool false), (36, .bool false)] ρ) n_3 ⟨b_1, cap_2, n_3, cur_4, l_5, rfl, hs_6n, hs_6r, hs_6o, (by omega), (by omega), (by omega), HD12, (Is.of ⟨kr, kr, kr, kr, kr, kr, kr, kr, trivial⟩)⟩ ?_
        clear HD12
        rintro _ _ w13 ⟨b2, cap2, n2, cur2, l2, rfl, hn2, hr2, ho2, hV, h12, h22, H13, _, rfl⟩
        refine g_seq kr ?_
        refine g_sreg [0, 1, 2, 3, 4, 5, 6, 7, 8, 9, 10, 11] kr kr ?_
        refine s_val (some 40) (.slice (some ⟨b2, 0, none⟩) n2 cap2) (fun w => kr) kr ?_
        refine s_val (some 41) (.int .i64 ((n2 : Nat) : Int)) (fun w => kr) kr ?_
        by_cases hc13 : (n2 : Nat) > 1
        · skip
          refine s_valE (some 42) (.bool (decide (1 < ((n2 : Nat) : Int)))) (.bool true) (fun w => kr) (bool_eq (decide_eq_true (by omega))) kr ?_
          refine s_val (some 43) (.bool true) (fun w => kr) kr ?_
          refine s_val (some 44) (.slice (some ⟨b2, 0, none⟩) n2 cap2) (fun w => kr) kr ?_
          refine s_val (some 45) (.slice (some ⟨b2, 0, none⟩) n2 cap2) (fun w => kr) kr ?_
          refine s_val (some 46) (.int .i64 ((n2 : Nat) : Int)) (fun w => kr) kr ?_
          refine s_valE (some 47) (.int .i64 (IntKind.i64.wrap (((n2 : Nat) : Int) - 1))) (.int .i64 ((n2 - 1 : Nat) : Int)) (fun w => kr) (int_eq (wrapSub_i64 (a := n2) (b := 1) (by omega))) kr ?_
          refine s_op (some 48) _ (.pointer (some ⟨b2, 0 + (n2 - 1) * 1, none⟩)) kr kr (fun o w ho => idxS_run (kd := .i64) (t := 68) (e := 3) (size := 1) (bytes := 8) kr (x := (.tmp 44)) (y := (.tmp 47)) b2 0 n2 cap2 (n2 - 1) ho kr kr (by omega) w) ?_
          refine s_load1 H13 (some 49) 3 (.tmp 48) 0 b2 (0 + (n2 - 1) * 1) cur2 3 (0, 0) (.int .i64 ((List.getD l2 (n2 - 1) 0 : Nat) : Int)) kr kr kr kr kr (hr2.atD (by omega) hn2) ?_
          by_cases hc14 : (List.getD l2 (n2 - 1) 0 : Nat) = 0
          · skip
            refine s_valE (some 50) (.bool (((List.getD l2 (n2 - 1) 0 : Nat) : Int) == 0)) (.bool true) (fun w => kr) (bool_eq (beq_iff_eq.2 (by omega))) kr ?_
            refine s_val (some 51) (.bool true) (fun w => kr) kr ?_
            refine s_nil ?_
            refine g_cond_t kr kr ?_
            refine g_skip kr ?_
            show WP _ _ _ _ _ _
            refine g_block 3 kr ?_
            refine g_reg0 [0, 1, 2, 3, 4, 5] kr ?_
            refine s_val (some 52) (.slice (some ⟨b2, 0, none⟩) n2 cap2) (fun w => kr) kr ?_
            refine s_val (some 53) (.slice (some ⟨b2, 0, none⟩) n2 cap2) (fun w => kr) kr ?_
            refine s_val (some 54) (.int .i64 ((n2 : Nat) : Int)) (fun w => kr) kr ?_
            refine s_valE (some 55) (.int .i64 (IntKind.i64.wrap (((n2 : Nat) : Int) - 1))) (.int .i64 ((n2 - 1 : Nat) : Int)) (fun w => kr) (int_eq (wrapSub_i64 (a := n2) (b := 1) (by omega))) kr ?_
            refine s_op (some 56) _ (.slice (some ⟨b2, 0, none⟩) (n2 - 1) cap2) kr kr (fun o w ho => cut_run (kd := .i64) (t := 68) (e := 3) (size := 1) (bytes := 8) kr (x := (.tmp 52)) (y := (.tmp 55)) b2 n2 cap2 (n2 - 1) ho kr kr (Nat.le_trans (by omega) hr2.le) w) ?_
            refine s_val (some 5) (.slice (some ⟨b2, 0, none⟩) (n2 - 1) cap2) (fun w => kr) kr ?_
            refine s_nil ?_
            show ∃ m, _ ∧ _
            exact ⟨_, (by omega), b2, cap2, (n2 - 1), cur2, (List.take (n2 - 1) l2), rfl, (by rw [List.length_take]; omega), (by have h := hr2.cut (n2 - 1) (by omega); rw [Nat.mul_one] at h; unfold cellsD at h ⊢; rw [cellsD_take] at h; exact h), (ok_take ho2 _), (by subst hn2; rw [vl_dropLast (by omega) (by omega)]; exact hV), (by omega), (by omega), H13, (Is.of ⟨kr, kr, kr, kr, kr, kr, kr, kr, trivial⟩)⟩
          · skip
            refine s_valE (some 50) (.bool (((List.getD l2 (n2 - 1) 0 : Nat) : Int) == 0)) (.bool false) (fun w => kr) (bool_eq (beq_eq_false_iff_ne.2 (by omega))) kr ?_
            refine s_val (some 51) (.bool false) (fun w => kr) kr ?_
            refine s_nil ?_
            refine g_cond_f kr kr ?_
            refine g_exit 2 kr ?_
            show WP _ _ _ _ _ _
            refine g_reg0 [0, 1, 2] kr ?_
            have hfin : n2 ≤ List.length y := by
                          rcases Nat.lt_or_ge 1 n2 with h | h
                          · subst hn2; exact vl_len hy h (by omega) (by rw [hV]; exact Nat.mod_lt _ hM)
                          · omega
            refine s_val (some 14) (.int .i64 ((j - 1 : Nat) : Int)) (fun w => kr) kr ?_
            refine s_valE (some 15) (.int .i64 (IntKind.i64.wrap (((j - 1 : Nat) : Int) - 1))) (.int .i64 (((j - 1 : Nat) : Int) - 1)) (fun w => kr) (int_eq (wrap_i64 (by omega) (by omega))) kr ?_
            refine s_val (some 6) (.int .i64 (((j - 1 : Nat) : Int) - 1)) (fun w => kr) kr ?_
            refine s_nil ?_
            show ∃ m, _ ∧ _
            exact ⟨_, (by omega), b2, cap2, n2, cur2, l2, (j - 1), rfl, hn2, hr2, ho2, hV, (by omega), hfin, (by omega), H13, (Is.of ⟨kr, kr, kr, kr, kr, trivial⟩)⟩
        · skip
          refine s_valE (some 42) (.bool (decide (1 < ((n2 : Nat) : Int)))) (.bool false) (fun w => kr) (bool_eq (decide_eq_false (by omega))) kr ?_
          refine s_val (some 43) (.bool false) (fun w => kr) kr ?_
          refine s_not (some 44) kr kr ?_
          refine s_not (some 45) kr kr ?_
          refine s_not (some 46) kr kr ?_
          refine s_not (some 47) kr kr ?_
          refine s_not (some 48) kr kr ?_
          refine s_not (some 49) kr kr ?_
          refine s_not (some 50) kr kr ?_
          refine s_val (some 51) (.bool false) (fun w => kr) kr ?_
          refine s_nil ?_
          refine g_cond_f kr kr ?_
          refine g_exit 2 kr ?_
          show WP _ _ _ _ _ _
          refine g_reg0 [0, 1, 2] kr ?_
          have hfin : n2 ≤ List.length y := by
                      rcases Nat.lt_or_ge 1 n2 with h | h
                      · subst hn2; exact vl_len hy h (by omega) (by rw [hV]; exact Nat.mod_lt _ hM)
                      · omega
          refine s_val (some 14) (.int .i64 ((j - 1 : Nat) : Int)) (fun w => kr) kr ?_
          refine s_valE (some 15) (.int .i64 (IntKind.i64.wrap (((j - 1 : Nat) : Int) - 1))) (.int .i64 (((j - 1 : Nat) : Int) - 1)) (fun w => kr) (int_eq (wrap_i64 (by omega) (by omega))) kr ?_
          refine s_val (some 6) (.int .i64 (((j - 1 : Nat) : Int) - 1)) (fun w => kr) kr ?_
          refine s_nil ?_
          show ∃ m, _ ∧ _
          exact ⟨_, (by omega), b2, cap2, n2, cur2, l2, (j - 1), rfl, hn2, hr2, ho2, hV, (by omega), hfin, (by omega), H13, (Is.of ⟨kr, kr, kr, kr, kr, trivial⟩)⟩
  · skip
    refine s_valE (some 13) (.bool (decide (0 ≤ ((j : Nat) : Int) - 1))) (.bool false) (fun w => kr) (bool_eq (decide_eq_false (by omega))) kr ?_
    refine s_nil ?_
    refine g_cond_f kr kr ?_
    refine g_exit 0 kr ?_
    show WP _ _ _ _ _ _
    refine g_sreg [0, 1] kr kr ?_
    refine s_val (some 57) (.slice (some ⟨b, 0, none⟩) n cap) (fun w => kr) kr ?_
    refine s_val (some 4) (.slice (some ⟨b, 0, none⟩) n cap) (fun w => kr) kr ?_
    refine s_nil ?_
    refine g_ret kr ?_
    show ∃ vs, Res _ _ _ _ vs ∧ _
    refine ⟨[.slice (some ⟨b, 0, none⟩) n cap], (.tmp (.slice (some ⟨b, 0, none⟩) n cap) kr .nil), H2.below, ?_⟩
    exact ⟨b, cap, _, _, l, rfl, H2.ge 0 (o := .cells cur 3 (0, 0)) kr, H2.get 0 kr, hn, hr, ho, by rw [hv, show j = 0 by omega, Nat.pow_zero, Nat.div_one], by omega, by omega⟩
end Go.Proofs.Ytljhbhhpfkmemaa
