/-
  ShaSums.
-/
import Derived.Test.YtjhldipeicpoeaaDoorProg
import Derived.Test.YtjhldipeicpoeaaDoorShaM
import Derived.Test.YtjhldipeicpoeaaDoorShaSR
namespace Go.Proofs.YtjhldipeicpoeaaDoor
open Go Go.RowKit Go.Proofs.Sha
set_option linter.unusedVariables false
set_option maxRecDepth 100000 in
set_option maxHeartbeats 2000000 in
theorem pad_fn (s : ByteArray) (m : BitVec 8) : Fn Tryd.prog 22 #[.string s, .int .u8 ((BitVec.toNat m : Nat) : Int)] (.string (strB (maskB (tl s) m))) := by
  refine Fn.intro (c := codeOf Tryd.f22) [.tmp 4] 28 Tryd.func22 (by kernel_rfl) (by kernel_rfl) (by kernel_rfl) fun w => ?_
  have H0 := St.start w
  refine g_sreg [0] (by kernel_rfl) (by kernel_rfl) ?_
  refine s_val (some 4) (.string (⟨#[]⟩)) (fun w => by kernel_rfl) (by kernel_rfl) ?_
  refine s_nil ?_
  refine g_sreg [0, 1] (by kernel_rfl) (by kernel_rfl) ?_
  refine s_new H0 (some 8) (fun b => .slice (some ⟨b, 0, none⟩) 0 0) #[] 5 (fun w => by kernel_rfl) (by kernel_rfl) ?_
  intro b1 w1 H1; clear H0
  refine s_val (some 5) (.slice (some ⟨b1, 0, none⟩) 0 0) (fun w => by kernel_rfl) (by kernel_rfl) ?_
  refine s_nil ?_
  refine g_seq (by kernel_rfl) ?_
  refine g_sreg [0] (by kernel_rfl) (by kernel_rfl) ?_
  refine s_val (some 6) (.int .i64 0) (fun w => by kernel_rfl) (by kernel_rfl) ?_
  refine s_nil ?_
  refine g_block 0 (by kernel_rfl) ?_
  refine g_loop (by kernel_rfl) (fun mz ρ ww => ∃ (b : Nat) (cap : Nat) (n : Nat) (cur : Array Value) (i : Nat), 64 - i = mz ∧ (n = i) ∧ (Rw 1 cur cap n (cellsB (maskI (tl s) m i))) ∧ (i ≤ 64) ∧ St w.heap.size w ww [(b, Obj.cells cur 5 (0, 0))] ∧ Is [(0, .string s), (1, .int .u8 ((BitVec.toNat m : Nat) : Int)), (4, .string (⟨#[]⟩)), (5, .slice (some ⟨b, 0, none⟩) n cap), (6, .int .i64 ((i : Nat) : Int))] ρ) (64 - 0) ⟨b1, 0, 0, #[], 0, rfl, rfl, (Rw.lit #[] 0 rfl (by unfold maxLen; omega)), (by omega), H1, (Is.of ⟨(by kernel_rfl), (by kernel_rfl), (by kernel_rfl), (by kernel_rfl), (by kernel_rfl), trivial⟩)⟩ ?_
  clear H1
  rintro _ _ w2 ⟨b, cap, n, cur, i, rfl, hn, hr, hi, H2, _, rfl⟩
  refine g_seq (by kernel_rfl) ?_
  refine g_sreg [0, 1] (by kernel_rfl) (by kernel_rfl) ?_
  refine s_val (some 9) (.int .i64 ((i : Nat) : Int)) (fun w => by kernel_rfl) (by kernel_rfl) ?_
  by_cases hc1 : (i : Nat) < 64
  · skip
    refine s_valE (some 10) (.bool (decide (((i : Nat) : Int) < 64))) (.bool true) (fun w => by kernel_rfl) (bool_eq (decide_eq_true (by omega))) (by kernel_rfl) ?_
    refine s_nil ?_
    refine g_cond_t (by kernel_rfl) (by kernel_rfl) ?_
    refine g_skip (by kernel_rfl) ?_
    show WP _ _ _ _ _ _
    refine g_seq (by kernel_rfl) ?_
    refine g_block 1 (by kernel_rfl) ?_
    refine g_sreg [0] (by kernel_rfl) (by kernel_rfl) ?_
    refine s_val (some 7) (.int .u8 0) (fun w => by kernel_rfl) (by kernel_rfl) ?_
    refine s_nil ?_
    refine g_seq (by kernel_rfl) ?_
    refine g_sreg [0, 1, 2, 3] (by kernel_rfl) (by kernel_rfl) ?_
    refine s_val (some 13) (.int .i64 ((i : Nat) : Int)) (fun w => by kernel_rfl) (by kernel_rfl) ?_
    refine s_val (some 14) (.string s) (fun w => by kernel_rfl) (by kernel_rfl) ?_
    refine s_val (some 15) (.int .i64 ((ByteArray.size s : Nat) : Int)) (fun w => by kernel_rfl) (by kernel_rfl) ?_
    by_cases hc2 : (i : Nat) < ByteArray.size s
    · skip
      refine s_valE (some 16) (.bool (decide (((i : Nat) : Int) < ((ByteArray.size s : Nat) : Int)))) (.bool true) (fun w => by kernel_rfl) (bool_eq (decide_eq_true (by omega))) (by kernel_rfl) ?_
      refine s_nil ?_
      refine g_cond_t (by kernel_rfl) (by kernel_rfl) ?_
      refine g_reg0 [0, 1, 2, 3] (by kernel_rfl) ?_
      refine s_val (some 17) (.string s) (fun w => by kernel_rfl) (by kernel_rfl) ?_
      refine s_val (some 18) (.int .i64 ((i : Nat) : Int)) (fun w => by kernel_rfl) (by kernel_rfl) ?_
      refine s_op (some 19) _ (.int .u8 ((BitVec.toNat (UInt8.toBitVec (List.getD (tl s) i 0)) : Nat) : Int)) (by kernel_rfl) (by kernel_rfl) (fun o w ho => sindex_run (t := 9) (kd := .i64) (by kernel_rfl) (x := (.tmp 17)) (y := (.tmp 18)) s i ho (by kernel_rfl) (by kernel_rfl) (by omega) w) ?_
      refine s_val (some 7) (.int .u8 ((BitVec.toNat (UInt8.toBitVec (List.getD (tl s) i 0)) : Nat) : Int)) (fun w => by kernel_rfl) (by kernel_rfl) ?_
      refine s_nil ?_
      show WP _ _ _ _ _ _
      refine g_reg0 [0, 1, 2, 3, 4, 5, 6] (by kernel_rfl) ?_
      refine s_val (some 20) (.slice (some ⟨b, 0, none⟩) n cap) (fun w => by kernel_rfl) (by kernel_rfl) ?_
      refine s_val (some 21) (.int .u8 ((BitVec.toNat (UInt8.toBitVec (List.getD (tl s) i 0)) : Nat) : Int)) (fun w => by kernel_rfl) (by kernel_rfl) ?_
      refine s_val (some 22) (.int .u8 ((BitVec.toNat m : Nat) : Int)) (fun w => by kernel_rfl) (by kernel_rfl) ?_
      refine s_valE (some 23) (.int .u8 (Go.bits .xor .u8 (((BitVec.toNat (UInt8.toBitVec (List.getD (tl s) i 0)) : Nat) : Int)) (((BitVec.toNat m : Nat) : Int)))) (.int .u8 ((BitVec.toNat ((UInt8.toBitVec (List.getD (tl s) i 0)) ^^^ m) : Nat) : Int)) (fun w => by kernel_rfl) (bv_xor_u8 (UInt8.toBitVec (List.getD (tl s) i 0)) m) (by kernel_rfl) ?_
      refine s_new H2 (some 24) (fun b => .slice (some ⟨b, 0, none⟩) 1 1) #[.int .u8 ((BitVec.toNat ((UInt8.toBitVec (List.getD (tl s) i 0)) ^^^ m) : Nat) : Int)] 5 (fun w => by kernel_rfl) (by kernel_rfl) ?_
      intro b2 w3 H3; clear H2
      refine s_append H3 (some 25) 38 5 1 1 (.tmp 20) (.tmp 24) 1 0 b b2 n 1 cap 1 cur #[.int .u8 ((BitVec.toNat ((UInt8.toBitVec (List.getD (tl s) i 0)) ^^^ m) : Nat) : Int)] 5 (0, 0) (cellsB (maskI (tl s) m i)) ([.int .u8 ((BitVec.toNat ((UInt8.toBitVec (List.getD (tl s) i 0)) ^^^ m) : Nat) : Int)]) (fun b_1 cur_3 => [(b2, Obj.cells #[.int .u8 ((BitVec.toNat ((UInt8.toBitVec (List.getD (tl s) i 0)) ^^^ m) : Nat) : Int)] 5 (0, 0)), (b_1, Obj.cells cur_3 5 (0, 0))]) (by kernel_rfl) (by kernel_rfl) (by kernel_rfl) (by kernel_rfl) (by kernel_rfl) hr (by kernel_rfl) (by kernel_rfl) (by rfl) (by rfl) (by intro u hu; simp at hu; first | exact hu.elim | (rcases hu with rfl | rfl | rfl | rfl <;> rfl) | (rcases hu with rfl | rfl <;> rfl) | (subst hu; rfl)) (by omega) (by unfold maxLen; omega) (fun _ _ => by kernel_rfl) ?_
      intro b_1 cap_2 cur_3 w4 H4 hr_4; clear H3
      have hr_4t : Rw 1 cur_3 cap_2 (n + 1) (cellsB (maskI (tl s) m i ++ [UInt8.ofBitVec ((UInt8.toBitVec (List.getD (tl s) i 0)) ^^^ m)])) := by rw [cellsB_append]; exact hr_4
      have hr_4n : n + 1 = List.length (maskI (tl s) m i ++ [UInt8.ofBitVec ((UInt8.toBitVec (List.getD (tl s) i 0)) ^^^ m)]) := by have h0 : n = List.length (maskI (tl s) m i) := (by rw [maskI_len]; exact hn); rw [List.length_append, ← h0]; rfl
      refine s_val (some 5) (.slice (some ⟨b_1, 0, none⟩) (n + 1) cap_2) (fun w => by kernel_rfl) (by kernel_rfl) ?_
      refine s_nil ?_
      show WP _ _ _ _ _ _
      refine g_reg0 [0, 1, 2] (by kernel_rfl) ?_
      refine s_val (some 11) (.int .i64 ((i : Nat) : Int)) (fun w => by kernel_rfl) (by kernel_rfl) ?_
      refine s_valE (some 12) (.int .i64 (IntKind.i64.wrap (((i : Nat) : Int) + 1))) (.int .i64 ((i + 1 : Nat) : Int)) (fun w => by kernel_rfl) (int_eq (wrapAdd_i64 (a := i) (b := 1) (by omega))) (by kernel_rfl) ?_
      refine s_val (some 6) (.int .i64 ((i + 1 : Nat) : Int)) (fun w => by kernel_rfl) (by kernel_rfl) ?_
      refine s_nil ?_
      have hrw : Rw 1 cur_3 cap_2 (n + 1) (cellsB (maskI (tl s) m (i + 1))) := by rw [maskI_succ]; exact hr_4t
      have HD3 : St w.heap.size w w4 [(b_1, Obj.cells cur_3 5 (0, 0))] := H4.sub (List.Sublist.cons _ (List.Sublist.cons_cons _ List.Sublist.slnil))
      show ∃ m, _ ∧ _
      exact ⟨_, (by omega), b_1, cap_2, n + 1, cur_3, (i + 1), rfl, (by omega), hrw, (by omega), HD3, (Is.of ⟨(by kernel_rfl), (by kernel_rfl), (by kernel_rfl), (by kernel_rfl), (by kernel_rfl), trivial⟩)⟩
    · skip
      refine s_valE (some 16) (.bool (decide (((i : Nat) : Int) < ((ByteArray.size s : Nat) : Int)))) (.bool false) (fun w => by kernel_rfl) (bool_eq (decide_eq_false (by omega))) (by kernel_rfl) ?_
      refine s_nil ?_
      refine g_cond_f (by kernel_rfl) (by kernel_rfl) ?_
      refine g_skip (by kernel_rfl) ?_
      show WP _ _ _ _ _ _
      refine g_reg0 [0, 1, 2, 3, 4, 5, 6] (by kernel_rfl) ?_
      refine s_val (some 20) (.slice (some ⟨b, 0, none⟩) n cap) (fun w => by kernel_rfl) (by kernel_rfl) ?_
      refine s_val (some 21) (.int .u8 0) (fun w => by kernel_rfl) (by kernel_rfl) ?_
      refine s_val (some 22) (.int .u8 ((BitVec.toNat m : Nat) : Int)) (fun w => by kernel_rfl) (by kernel_rfl) ?_
      refine s_valE (some 23) (.int .u8 (Go.bits .xor .u8 (0) (((BitVec.toNat m : Nat) : Int)))) (.int .u8 ((BitVec.toNat ((0 : BitVec 8) ^^^ m) : Nat) : Int)) (fun w => by kernel_rfl) (bv_xor_u8 (0 : BitVec 8) m) (by kernel_rfl) ?_
      refine s_new H2 (some 24) (fun b => .slice (some ⟨b, 0, none⟩) 1 1) #[.int .u8 ((BitVec.toNat ((0 : BitVec 8) ^^^ m) : Nat) : Int)] 5 (fun w => by kernel_rfl) (by kernel_rfl) ?_
      intro b3 w5 H5; clear H2
      refine s_append H5 (some 25) 38 5 1 1 (.tmp 20) (.tmp 24) 1 0 b b3 n 1 cap 1 cur #[.int .u8 ((BitVec.toNat ((0 : BitVec 8) ^^^ m) : Nat) : Int)] 5 (0, 0) (cellsB (maskI (tl s) m i)) ([.int .u8 ((BitVec.toNat ((0 : BitVec 8) ^^^ m) : Nat) : Int)]) (fun b_5 cur_7 => [(b3, Obj.cells #[.int .u8 ((BitVec.toNat ((0 : BitVec 8) ^^^ m) : Nat) : Int)] 5 (0, 0)), (b_5, Obj.cells cur_7 5 (0, 0))]) (by kernel_rfl) (by kernel_rfl) (by kernel_rfl) (by kernel_rfl) (by kernel_rfl) hr (by kernel_rfl) (by kernel_rfl) (by rfl) (by rfl) (by intro u hu; simp at hu; first | exact hu.elim | (rcases hu with rfl | rfl | rfl | rfl <;> rfl) | (rcases hu with rfl | rfl <;> rfl) | (subst hu; rfl)) (by omega) (by unfold maxLen; omega) (fun _ _ => by kernel_rfl) ?_
      intro b_5 cap_6 cur_7 w6 H6 hr_8; clear H5
      have hr_8t : Rw 1 cur_7 cap_6 (n + 1) (cellsB (maskI (tl s) m i ++ [UInt8.ofBitVec ((0 : BitVec 8) ^^^ m)])) := by rw [cellsB_append]; exact hr_8
      have hr_8n : n + 1 = List.length (maskI (tl s) m i ++ [UInt8.ofBitVec ((0 : BitVec 8) ^^^ m)]) := by have h0 : n = List.length (maskI (tl s) m i) := (by rw [maskI_len]; exact hn); rw [List.length_append, ← h0]; rfl
      refine s_val (some 5) (.slice (some ⟨b_5, 0, none⟩) (n + 1) cap_6) (fun w => by kernel_rfl) (by kernel_rfl) ?_
      refine s_nil ?_
      show WP _ _ _ _ _ _
      refine g_reg0 [0, 1, 2] (by kernel_rfl) ?_
      refine s_val (some 11) (.int .i64 ((i : Nat) : Int)) (fun w => by kernel_rfl) (by kernel_rfl) ?_
      refine s_valE (some 12) (.int .i64 (IntKind.i64.wrap (((i : Nat) : Int) + 1))) (.int .i64 ((i + 1 : Nat) : Int)) (fun w => by kernel_rfl) (int_eq (wrapAdd_i64 (a := i) (b := 1) (by omega))) (by kernel_rfl) ?_
      refine s_val (some 6) (.int .i64 ((i + 1 : Nat) : Int)) (fun w => by kernel_rfl) (by kernel_rfl) ?_
      refine s_nil ?_
      have hrw : Rw 1 cur_7 cap_6 (n + 1) (cellsB (maskI (tl s) m (i + 1))) := by rw [maskI_succ]; rw [maskI_over (by rw [tl_len]; omega)]; exact hr_8t
      have HD4 : St w.heap.size w w6 [(b_5, Obj.cells cur_7 5 (0, 0))] := H6.sub (List.Sublist.cons _ (List.Sublist.cons_cons _ List.Sublist.slnil))
      show ∃ m, _ ∧ _
      exact ⟨_, (by omega), b_5, cap_6, n + 1, cur_7, (i + 1), rfl, (by omega), hrw, (by omega), HD4, (Is.of ⟨(by kernel_rfl), (by kernel_rfl), (by kernel_rfl), (by kernel_rfl), (by kernel_rfl), trivial⟩)⟩
  · skip
    refine s_valE (some 10) (.bool (decide (((i : Nat) : Int) < 64))) (.bool false) (fun w => by kernel_rfl) (bool_eq (decide_eq_false (by omega))) (by kernel_rfl) ?_
    refine s_nil ?_
    refine g_cond_f (by kernel_rfl) (by kernel_rfl) ?_
    refine g_exit 0 (by kernel_rfl) ?_
    show WP _ _ _ _ _ _
    refine g_sreg [0, 1, 2] (by kernel_rfl) (by kernel_rfl) ?_
    refine s_val (some 26) (.slice (some ⟨b, 0, none⟩) n cap) (fun w => by kernel_rfl) (by kernel_rfl) ?_
    refine s_bytesStrB H2 (some 27) 38 9 5 (.tmp 26) 0 b n cap cur 5 (0, 0) (maskI (tl s) m i) (by kernel_rfl) (by kernel_rfl) (by kernel_rfl) (by kernel_rfl) (by kernel_rfl) (by kernel_rfl) (by kernel_rfl) hr ?_
    refine s_val (some 4) (.string (strB (maskI (tl s) m i))) (fun w => by kernel_rfl) (by kernel_rfl) ?_
    refine s_nil ?_
    refine g_ret (by kernel_rfl) ?_
    show ∃ vs, Res _ _ _ _ vs ∧ _
    refine ⟨[.string (strB (maskI (tl s) m i))], (.tmp (.string (strB (maskI (tl s) m i))) (by kernel_rfl) .nil), ?_, H2.below⟩
    obtain rfl : i = 64 := by omega
    rfl

theorem sum_cat (a b : List UInt8) : sumB (a ++ b) = endB (takeB (takeB beg a) b) := by unfold sumB; rw [takeB_append]

set_option maxRecDepth 100000 in
set_option maxHeartbeats 2000000 in
theorem macR_fn (key s : ByteArray) (hk : ByteArray.size key ≤ 1000) (hs : ByteArray.size s ≤ 1000) (bk nk ck : Nat) (curK : Array Value) (hnk : nk = 64) (hK : Rw 1 curK ck nk (cellsW roots)) : FnP Tryd.prog 12 #[.string key, .string s, .slice (some ⟨bk, 0, none⟩) nk ck] (fun w => w.heap[bk]? = some (.cells curK 30 (0, 0))) (.string (strB (macB (tl key) (tl s)))) := by
  refine FnP.intro (c := codeOf Tryd.f12) [.tmp 6] 24 Tryd.func12 (by kernel_rfl) (by kernel_rfl) (by kernel_rfl) fun w hpre => ?_
  have H0 := St.start w
  refine g_sreg [0] (by kernel_rfl) (by kernel_rfl) ?_
  refine s_val (some 6) (.string (⟨#[]⟩)) (fun w => by kernel_rfl) (by kernel_rfl) ?_
  refine s_nil ?_
  refine g_seq (by kernel_rfl) ?_
  refine g_sreg [0, 1, 2] (by kernel_rfl) (by kernel_rfl) ?_
  refine s_val (some 7) (.string key) (fun w => by kernel_rfl) (by kernel_rfl) ?_
  refine s_val (some 8) (.int .i64 ((ByteArray.size key : Nat) : Int)) (fun w => by kernel_rfl) (by kernel_rfl) ?_
  by_cases hc1 : (ByteArray.size key : Nat) > 64
  · skip
    refine s_valE (some 9) (.bool (decide (64 < ((ByteArray.size key : Nat) : Int)))) (.bool true) (fun w => by kernel_rfl) (bool_eq (decide_eq_true (by omega))) (by kernel_rfl) ?_
    refine s_nil ?_
    refine g_cond_t (by kernel_rfl) (by kernel_rfl) ?_
    refine g_reg0 [0, 1, 2, 3] (by kernel_rfl) ?_
    refine s_val (some 10) (.string key) (fun w => by kernel_rfl) (by kernel_rfl) ?_
    refine s_val (some 11) (.slice (some ⟨bk, 0, none⟩) nk ck) (fun w => by kernel_rfl) (by kernel_rfl) ?_
    refine s_callP H0 (some 12) 10 #[.string key, .slice (some ⟨bk, 0, none⟩) nk ck] (fun w => w.heap[bk]? = some (.cells curK 30 (0, 0))) (.string (strB (sumB (tl key)))) (sumR_fn key (by omega) bk nk ck curK (show nk = List.length roots from hnk) hK) (H0.old hpre (lt_of_heap hpre)) (fun w => by kernel_rfl) (by kernel_rfl) ?_
    intro w1 H1; clear H0
    refine s_val (some 0) (.string (strB (sumB (tl key)))) (fun w => by kernel_rfl) (by kernel_rfl) ?_
    refine s_nil ?_
    show WP _ _ _ _ _ _
    refine g_sreg [0, 1, 2, 3, 4, 5, 6, 7, 8, 9, 10, 11] (by kernel_rfl) (by kernel_rfl) ?_
    refine s_val (some 13) (.string (strB (sumB (tl key)))) (fun w => by kernel_rfl) (by kernel_rfl) ?_
    refine s_call H1 (some 14) 22 #[.string (strB (sumB (tl key))), .int .u8 92] (.string (strB (maskB (sumB (tl key)) 92))) (pad_fn (strB (sumB (tl key))) 92) (fun w => by kernel_rfl) (by kernel_rfl) ?_
    intro w2 H2; clear H1
    refine s_val (some 15) (.string (strB (sumB (tl key)))) (fun w => by kernel_rfl) (by kernel_rfl) ?_
    refine s_call H2 (some 16) 22 #[.string (strB (sumB (tl key))), .int .u8 54] (.string (strB (maskB (sumB (tl key)) 54))) (pad_fn (strB (sumB (tl key))) 54) (fun w => by kernel_rfl) (by kernel_rfl) ?_
    intro w3 H3; clear H2
    refine s_val (some 17) (.string s) (fun w => by kernel_rfl) (by kernel_rfl) ?_
    have hc_1 : ByteArray.size (strB (maskB (sumB (tl key)) 54)) = 64 := by rw [strB_size, maskB_len]
    have he_1 : ByteArray.size ((strB (maskB (sumB (tl key)) 54)) ++ s) = ByteArray.size (strB (maskB (sumB (tl key)) 54)) + ByteArray.size s := by rw [← tl_len, tl_add, List.length_append, tl_len, tl_len]
    refine s_op (some 18) _ (.string ((strB (maskB (sumB (tl key)) 54)) ++ s)) (by kernel_rfl) (by kernel_rfl) (fun o w ho => sadd_run (t := 9) (t' := 9) (x := (.tmp 16)) (y := (.tmp 17)) (strB (maskB (sumB (tl key)) 54)) s w ho (by kernel_rfl) (by kernel_rfl) (by omega)) ?_
    refine s_val (some 19) (.slice (some ⟨bk, 0, none⟩) nk ck) (fun w => by kernel_rfl) (by kernel_rfl) ?_
    refine s_callP H3 (some 20) 10 #[.string ((strB (maskB (sumB (tl key)) 54)) ++ s), .slice (some ⟨bk, 0, none⟩) nk ck] (fun w => w.heap[bk]? = some (.cells curK 30 (0, 0))) (.string (strB (sumB (tl ((strB (maskB (sumB (tl key)) 54)) ++ s))))) (sumR_fn ((strB (maskB (sumB (tl key)) 54)) ++ s) (by omega) bk nk ck curK (show nk = List.length roots from hnk) hK) (H3.old hpre (lt_of_heap hpre)) (fun w => by kernel_rfl) (by kernel_rfl) ?_
    intro w4 H4; clear H3
    have hc_2 : ByteArray.size (strB (maskB (sumB (tl key)) 92)) = 64 := by rw [strB_size, maskB_len]
    have hd_2 : ByteArray.size (strB (sumB (tl ((strB (maskB (sumB (tl key)) 54)) ++ s)))) = 32 := by rw [strB_size, sumB_len]
    have he_2 : ByteArray.size ((strB (maskB (sumB (tl key)) 92)) ++ (strB (sumB (tl ((strB (maskB (sumB (tl key)) 54)) ++ s))))) = ByteArray.size (strB (maskB (sumB (tl key)) 92)) + ByteArray.size (strB (sumB (tl ((strB (maskB (sumB (tl key)) 54)) ++ s)))) := by rw [← tl_len, tl_add, List.length_append, tl_len, tl_len]
    refine s_op (some 21) _ (.string ((strB (maskB (sumB (tl key)) 92)) ++ (strB (sumB (tl ((strB (maskB (sumB (tl key)) 54)) ++ s)))))) (by kernel_rfl) (by kernel_rfl) (fun o w ho => sadd_run (t := 9) (t' := 9) (x := (.tmp 14)) (y := (.tmp 20)) (strB (maskB (sumB (tl key)) 92)) (strB (sumB (tl ((strB (maskB (sumB (tl key)) 54)) ++ s)))) w ho (by kernel_rfl) (by kernel_rfl) (by omega)) ?_
    refine s_val (some 22) (.slice (some ⟨bk, 0, none⟩) nk ck) (fun w => by kernel_rfl) (by kernel_rfl) ?_
    refine s_callP H4 (some 23) 10 #[.string ((strB (maskB (sumB (tl key)) 92)) ++ (strB (sumB (tl ((strB (maskB (sumB (tl key)) 54)) ++ s))))), .slice (some ⟨bk, 0, none⟩) nk ck] (fun w => w.heap[bk]? = some (.cells curK 30 (0, 0))) (.string (strB (sumB (tl ((strB (maskB (sumB (tl key)) 92)) ++ (strB (sumB (tl ((strB (maskB (sumB (tl key)) 54)) ++ s))))))))) (sumR_fn ((strB (maskB (sumB (tl key)) 92)) ++ (strB (sumB (tl ((strB (maskB (sumB (tl key)) 54)) ++ s))))) (by omega) bk nk ck curK (show nk = List.length roots from hnk) hK) (H4.old hpre (lt_of_heap hpre)) (fun w => by kernel_rfl) (by kernel_rfl) ?_
    intro w5 H5; clear H4
    refine s_val (some 6) (.string (strB (sumB (tl ((strB (maskB (sumB (tl key)) 92)) ++ (strB (sumB (tl ((strB (maskB (sumB (tl key)) 54)) ++ s))))))))) (fun w => by kernel_rfl) (by kernel_rfl) ?_
    refine s_nil ?_
    refine g_ret (by kernel_rfl) ?_
    show ∃ vs, Res _ _ _ _ vs ∧ _
    refine ⟨[.string (strB (sumB (tl ((strB (maskB (sumB (tl key)) 92)) ++ (strB (sumB (tl ((strB (maskB (sumB (tl key)) 54)) ++ s))))))))], (.tmp (.string (strB (sumB (tl ((strB (maskB (sumB (tl key)) 92)) ++ (strB (sumB (tl ((strB (maskB (sumB (tl key)) 54)) ++ s))))))))) (by kernel_rfl) .nil), ?_, H5.below⟩
    have hkl : List.length (tl key) = ByteArray.size key := rfl
    refine congrArg (fun x => Value.string (strB x)) (Eq.trans ?_ (mac_big1 (tl key) (tl s) (by rw [hkl]; omega)).symm)
    rw [tl_add, sum_cat, tl_strB, tl_strB, tl_add, sum_cat, tl_strB]
  · skip
    refine s_valE (some 9) (.bool (decide (64 < ((ByteArray.size key : Nat) : Int)))) (.bool false) (fun w => by kernel_rfl) (bool_eq (decide_eq_false (by omega))) (by kernel_rfl) ?_
    refine s_nil ?_
    refine g_cond_f (by kernel_rfl) (by kernel_rfl) ?_
    refine g_skip (by kernel_rfl) ?_
    show WP _ _ _ _ _ _
    refine g_sreg [0, 1, 2, 3, 4, 5, 6, 7, 8, 9, 10, 11] (by kernel_rfl) (by kernel_rfl) ?_
    refine s_val (some 13) (.string key) (fun w => by kernel_rfl) (by kernel_rfl) ?_
    refine s_call H0 (some 14) 22 #[.string key, .int .u8 92] (.string (strB (maskB (tl key) 92))) (pad_fn key 92) (fun w => by kernel_rfl) (by kernel_rfl) ?_
    intro w6 H6; clear H0
    refine s_val (some 15) (.string key) (fun w => by kernel_rfl) (by kernel_rfl) ?_
    refine s_call H6 (some 16) 22 #[.string key, .int .u8 54] (.string (strB (maskB (tl key) 54))) (pad_fn key 54) (fun w => by kernel_rfl) (by kernel_rfl) ?_
    intro w7 H7; clear H6
    refine s_val (some 17) (.string s) (fun w => by kernel_rfl) (by kernel_rfl) ?_
    have hc_3 : ByteArray.size (strB (maskB (tl key) 54)) = 64 := by rw [strB_size, maskB_len]
    have he_3 : ByteArray.size ((strB (maskB (tl key) 54)) ++ s) = ByteArray.size (strB (maskB (tl key) 54)) + ByteArray.size s := by rw [← tl_len, tl_add, List.length_append, tl_len, tl_len]
    refine s_op (some 18) _ (.string ((strB (maskB (tl key) 54)) ++ s)) (by kernel_rfl) (by kernel_rfl) (fun o w ho => sadd_run (t := 9) (t' := 9) (x := (.tmp 16)) (y := (.tmp 17)) (strB (maskB (tl key) 54)) s w ho (by kernel_rfl) (by kernel_rfl) (by omega)) ?_
    refine s_val (some 19) (.slice (some ⟨bk, 0, none⟩) nk ck) (fun w => by kernel_rfl) (by kernel_rfl) ?_
    refine s_callP H7 (some 20) 10 #[.string ((strB (maskB (tl key) 54)) ++ s), .slice (some ⟨bk, 0, none⟩) nk ck] (fun w => w.heap[bk]? = some (.cells curK 30 (0, 0))) (.string (strB (sumB (tl ((strB (maskB (tl key) 54)) ++ s))))) (sumR_fn ((strB (maskB (tl key) 54)) ++ s) (by omega) bk nk ck curK (show nk = List.length roots from hnk) hK) (H7.old hpre (lt_of_heap hpre)) (fun w => by kernel_rfl) (by kernel_rfl) ?_
    intro w8 H8; clear H7
    have hc_4 : ByteArray.size (strB (maskB (tl key) 92)) = 64 := by rw [strB_size, maskB_len]
    have hd_4 : ByteArray.size (strB (sumB (tl ((strB (maskB (tl key) 54)) ++ s)))) = 32 := by rw [strB_size, sumB_len]
    have he_4 : ByteArray.size ((strB (maskB (tl key) 92)) ++ (strB (sumB (tl ((strB (maskB (tl key) 54)) ++ s))))) = ByteArray.size (strB (maskB (tl key) 92)) + ByteArray.size (strB (sumB (tl ((strB (maskB (tl key) 54)) ++ s)))) := by rw [← tl_len, tl_add, List.length_append, tl_len, tl_len]
    refine s_op (some 21) _ (.string ((strB (maskB (tl key) 92)) ++ (strB (sumB (tl ((strB (maskB (tl key) 54)) ++ s)))))) (by kernel_rfl) (by kernel_rfl) (fun o w ho => sadd_run (t := 9) (t' := 9) (x := (.tmp 14)) (y := (.tmp 20)) (strB (maskB (tl key) 92)) (strB (sumB (tl ((strB (maskB (tl key) 54)) ++ s)))) w ho (by kernel_rfl) (by kernel_rfl) (by omega)) ?_
    refine s_val (some 22) (.slice (some ⟨bk, 0, none⟩) nk ck) (fun w => by kernel_rfl) (by kernel_rfl) ?_
    refine s_callP H8 (some 23) 10 #[.string ((strB (maskB (tl key) 92)) ++ (strB (sumB (tl ((strB (maskB (tl key) 54)) ++ s))))), .slice (some ⟨bk, 0, none⟩) nk ck] (fun w => w.heap[bk]? = some (.cells curK 30 (0, 0))) (.string (strB (sumB (tl ((strB (maskB (tl key) 92)) ++ (strB (sumB (tl ((strB (maskB (tl key) 54)) ++ s))))))))) (sumR_fn ((strB (maskB (tl key) 92)) ++ (strB (sumB (tl ((strB (maskB (tl key) 54)) ++ s))))) (by omega) bk nk ck curK (show nk = List.length roots from hnk) hK) (H8.old hpre (lt_of_heap hpre)) (fun w => by kernel_rfl) (by kernel_rfl) ?_
    intro w9 H9; clear H8
    refine s_val (some 6) (.string (strB (sumB (tl ((strB (maskB (tl key) 92)) ++ (strB (sumB (tl ((strB (maskB (tl key) 54)) ++ s))))))))) (fun w => by kernel_rfl) (by kernel_rfl) ?_
    refine s_nil ?_
    refine g_ret (by kernel_rfl) ?_
    show ∃ vs, Res _ _ _ _ vs ∧ _
    refine ⟨[.string (strB (sumB (tl ((strB (maskB (tl key) 92)) ++ (strB (sumB (tl ((strB (maskB (tl key) 54)) ++ s))))))))], (.tmp (.string (strB (sumB (tl ((strB (maskB (tl key) 92)) ++ (strB (sumB (tl ((strB (maskB (tl key) 54)) ++ s))))))))) (by kernel_rfl) .nil), ?_, H9.below⟩
    have hkl : List.length (tl key) = ByteArray.size key := rfl
    refine congrArg (fun x => Value.string (strB x)) (Eq.trans ?_ (mac_small1 (tl key) (tl s) (by rw [hkl]; omega)).symm)
    rw [tl_add, sum_cat, tl_strB, tl_strB, tl_add, sum_cat, tl_strB]

set_option maxRecDepth 100000 in
set_option maxHeartbeats 2000000 in
theorem shaSums_fn (key s : ByteArray) : FnP Tryd.prog 3 #[.string key, .string s] (Roots) (.bool true) := by
  refine FnP.intro (c := codeOf Tryd.f3) [.tmp 4] 37 Tryd.func3 (by kernel_rfl) (by kernel_rfl) (by kernel_rfl) fun w hpre => ?_
  have H0 := St.start w
  refine g_sreg [0] (by kernel_rfl) (by kernel_rfl) ?_
  refine s_val (some 4) (.bool false) (fun w => by kernel_rfl) (by kernel_rfl) ?_
  refine s_nil ?_
  refine D2.g_sdraw [0, 1, 2, 3, 4, 5, 6, 7, 8, 9, 10, 11] [((some 6), fun _ => .string key), ((some 7), fun _ => .string key), ((some 8), fun _ => .int .i64 ((ByteArray.size key : Nat) : Int)), ((some 9), fun _ => .int .i64 ((min (ByteArray.size key) 200 : Nat) : Int)), ((some 10), fun _ => .string (ByteArray.extract key 0 (min (ByteArray.size key) 200))), ((some 11), fun _ => .string s), ((some 12), fun _ => .string s), ((some 13), fun _ => .int .i64 ((ByteArray.size s : Nat) : Int)), ((some 14), fun _ => .int .i64 ((min (ByteArray.size s) 500 : Nat) : Int)), ((some 15), fun _ => .string (ByteArray.extract s 0 (min (ByteArray.size s) 500))), ((some 0), fun _ => .string (ByteArray.extract key 0 (min (ByteArray.size key) 200))), ((some 1), fun _ => .string (ByteArray.extract s 0 (min (ByteArray.size s) 500)))] (D2.Pre w.heap.size w (fun L g => []) (fun L g => True)) (by kernel_rfl) (by kernel_rfl) (by kernel_rfl) (by kernel_rfl) ⟨D2.StE.of H0.drew _ (by kernel_rfl), trivial⟩ ⟨?_, ?_, ?_, ?_, ?_, ?_, ?_, ?_, ?_, ?_, ?_, ?_, trivial⟩ ?_
  · exact D2.gv_val (fun _ _ _ h => h) (fun g w => by kernel_rfl)
  · exact D2.gv_val (fun _ _ _ h => h) (fun g w => by kernel_rfl)
  · exact D2.gv_val (fun _ _ _ h => h) (fun g w => by kernel_rfl)
  · exact D2.gv_valE (fun _ _ _ h => h) (V' := .int .i64 (if (200 : Int) < (((ByteArray.size key : Nat) : Int) : Int) then (200 : Int) else (((ByteArray.size key : Nat) : Int) : Int))) (fun g w => by kernel_rfl) (int_eq (minN (ByteArray.size key) 200))
  · exact D2.gv_op (fun _ _ _ h => h) _ (fun g => by kernel_rfl) (fun g => (fun o w ho => scut_run (t := 9) (kd := .i64) (by kernel_rfl) (x := (.tmp 6)) (y := (.tmp 9)) key (min (ByteArray.size key) 200) ho (by kernel_rfl) (by kernel_rfl) (by omega) w))
  · exact D2.gv_val (fun _ _ _ h => h) (fun g w => by kernel_rfl)
  · exact D2.gv_val (fun _ _ _ h => h) (fun g w => by kernel_rfl)
  · exact D2.gv_val (fun _ _ _ h => h) (fun g w => by kernel_rfl)
  · exact D2.gv_valE (fun _ _ _ h => h) (V' := .int .i64 (if (500 : Int) < (((ByteArray.size s : Nat) : Int) : Int) then (500 : Int) else (((ByteArray.size s : Nat) : Int) : Int))) (fun g w => by kernel_rfl) (int_eq (minN (ByteArray.size s) 500))
  · exact D2.gv_op (fun _ _ _ h => h) _ (fun g => by kernel_rfl) (fun g => (fun o w ho => scut_run (t := 9) (kd := .i64) (by kernel_rfl) (x := (.tmp 11)) (y := (.tmp 14)) s (min (ByteArray.size s) 500) ho (by kernel_rfl) (by kernel_rfl) (by omega) w))
  · exact D2.gv_val (fun _ _ _ h => h) (fun g w => by kernel_rfl)
  · exact D2.gv_val (fun _ _ _ h => h) (fun g w => by kernel_rfl)
  intro L0 G1 w1 hall HL; clear H0
  have H1 : St w.heap.size w w1 [] := D2.StE.st HL.1
  clear HL hall
  refine g_sreg [0, 1] (by kernel_rfl) (by kernel_rfl) ?_
  have hS : ByteArray.size (ByteArray.extract s 0 (min (ByteArray.size s) 500)) ≤ 500 := by rw [ext_size _ _ _ (Nat.min_le_left _ _)]; omega
  have hK : ByteArray.size (ByteArray.extract key 0 (min (ByteArray.size key) 200)) ≤ 200 := by rw [ext_size _ _ _ (Nat.min_le_left _ _)]; omega
  refine s_callS H1 (some 16) 7 #[] (fun _ => True) 30 1 (fun curZ capZ nZ lZ => (nZ = 64 ∧ Rw 1 curZ capZ nZ (cellsW Sha.roots))) K_fn trivial (by kernel_rfl) (by kernel_rfl) ?_
  intro b_1 cap_2 n_3 cur_4 l_5 w2 H2 hs_6; clear H1
  obtain ⟨hs_6n, hs_6r⟩ := hs_6
  refine s_val (some 5) (.slice (some ⟨b_1, 0, none⟩) n_3 cap_2) (fun w => by kernel_rfl) (by kernel_rfl) ?_
  refine s_nil ?_
  refine g_sreg [0, 1, 2, 3, 4, 5, 6, 7, 8, 9, 10, 11, 12, 13, 14, 15, 16, 17, 18, 19, 20] (by kernel_rfl) (by kernel_rfl) ?_
  refine s_callP H2 (some 17) 8 #[] (Roots) (.bool true) alive_fn (Roots.old H2 rfl hpre) (fun w => by kernel_rfl) (by kernel_rfl) ?_
  intro w3 H3; clear H2
  refine s_val (some 18) (.bool true) (fun w => by kernel_rfl) (by kernel_rfl) ?_
  refine s_val (some 19) (.string (ByteArray.extract s 0 (min (ByteArray.size s) 500))) (fun w => by kernel_rfl) (by kernel_rfl) ?_
  refine s_callP H3 (some 20) 9 #[.string (ByteArray.extract s 0 (min (ByteArray.size s) 500))] (Roots) (.string (strB (sumB (tl (ByteArray.extract s 0 (min (ByteArray.size s) 500)))))) (sum_fn (ByteArray.extract s 0 (min (ByteArray.size s) 500)) (by first | assumption | omega)) (Roots.old H3 rfl hpre) (fun w => by kernel_rfl) (by kernel_rfl) ?_
  intro w4 H4; clear H3
  refine s_val (some 21) (.string (ByteArray.extract s 0 (min (ByteArray.size s) 500))) (fun w => by kernel_rfl) (by kernel_rfl) ?_
  refine s_val (some 22) (.slice (some ⟨b_1, 0, none⟩) n_3 cap_2) (fun w => by kernel_rfl) (by kernel_rfl) ?_
  refine s_callP H4 (some 23) 10 #[.string (ByteArray.extract s 0 (min (ByteArray.size s) 500)), .slice (some ⟨b_1, 0, none⟩) n_3 cap_2] (fun w => w.heap[b_1]? = some (.cells cur_4 30 (0, 0))) (.string (strB (sumB (tl (ByteArray.extract s 0 (min (ByteArray.size s) 500)))))) (sumR_fn (ByteArray.extract s 0 (min (ByteArray.size s) 500)) (by omega) b_1 n_3 cap_2 cur_4 hs_6n hs_6r) (H4.get 0 (by kernel_rfl)) (fun w => by kernel_rfl) (by kernel_rfl) ?_
  intro w5 H5; clear H4
  refine s_valE (some 24) (.bool (ByteArray.toList (strB (sumB (tl (ByteArray.extract s 0 (min (ByteArray.size s) 500))))) == ByteArray.toList (strB (sumB (tl (ByteArray.extract s 0 (min (ByteArray.size s) 500))))))) (.bool true) (fun w => by kernel_rfl) (bool_eq (str_self (strB (sumB (tl (ByteArray.extract s 0 (min (ByteArray.size s) 500))))))) (by kernel_rfl) ?_
  refine s_val (some 25) (.bool true) (fun w => by kernel_rfl) (by kernel_rfl) ?_
  refine s_val (some 26) (.bool true) (fun w => by kernel_rfl) (by kernel_rfl) ?_
  refine s_val (some 27) (.string (ByteArray.extract key 0 (min (ByteArray.size key) 200))) (fun w => by kernel_rfl) (by kernel_rfl) ?_
  refine s_val (some 28) (.string (ByteArray.extract s 0 (min (ByteArray.size s) 500))) (fun w => by kernel_rfl) (by kernel_rfl) ?_
  refine s_new H5 (some 29) (fun b => .slice (some ⟨b, 0, none⟩) 1 1) #[.string (ByteArray.extract s 0 (min (ByteArray.size s) 500))] 9 (fun w => by kernel_rfl) (by kernel_rfl) ?_
  intro b1 w6 H6; clear H5
  refine s_callP H6 (some 30) 11 #[.string (ByteArray.extract key 0 (min (ByteArray.size key) 200)), .slice (some ⟨b1, 0, none⟩) 1 1] (fun w => Roots w ∧ w.heap[b1]? = some (.cells #[.string (ByteArray.extract s 0 (min (ByteArray.size s) 500))] 9 (0, 0))) (.string (strB (macB (tl (ByteArray.extract key 0 (min (ByteArray.size key) 200))) (tl (ByteArray.extract s 0 (min (ByteArray.size s) 500)))))) (mac_fn1 (ByteArray.extract key 0 (min (ByteArray.size key) 200)) (by first | assumption | omega) b1 (ByteArray.extract s 0 (min (ByteArray.size s) 500)) (by first | assumption | omega)) (⟨(Roots.old H6 rfl hpre), (H6.get 0 (by kernel_rfl))⟩) (fun w => by kernel_rfl) (by kernel_rfl) ?_
  intro w7 H7; clear H6
  refine s_val (some 31) (.string (ByteArray.extract key 0 (min (ByteArray.size key) 200))) (fun w => by kernel_rfl) (by kernel_rfl) ?_
  refine s_val (some 32) (.string (ByteArray.extract s 0 (min (ByteArray.size s) 500))) (fun w => by kernel_rfl) (by kernel_rfl) ?_
  refine s_val (some 33) (.slice (some ⟨b_1, 0, none⟩) n_3 cap_2) (fun w => by kernel_rfl) (by kernel_rfl) ?_
  refine s_callP H7 (some 34) 12 #[.string (ByteArray.extract key 0 (min (ByteArray.size key) 200)), .string (ByteArray.extract s 0 (min (ByteArray.size s) 500)), .slice (some ⟨b_1, 0, none⟩) n_3 cap_2] (fun w => w.heap[b_1]? = some (.cells cur_4 30 (0, 0))) (.string (strB (macB (tl (ByteArray.extract key 0 (min (ByteArray.size key) 200))) (tl (ByteArray.extract s 0 (min (ByteArray.size s) 500)))))) (macR_fn (ByteArray.extract key 0 (min (ByteArray.size key) 200)) (ByteArray.extract s 0 (min (ByteArray.size s) 500)) (by omega) (by omega) b_1 n_3 cap_2 cur_4 hs_6n hs_6r) (H7.get 1 (by kernel_rfl)) (fun w => by kernel_rfl) (by kernel_rfl) ?_
  intro w8 H8; clear H7
  refine s_valE (some 35) (.bool (ByteArray.toList (strB (macB (tl (ByteArray.extract key 0 (min (ByteArray.size key) 200))) (tl (ByteArray.extract s 0 (min (ByteArray.size s) 500))))) == ByteArray.toList (strB (macB (tl (ByteArray.extract key 0 (min (ByteArray.size key) 200))) (tl (ByteArray.extract s 0 (min (ByteArray.size s) 500))))))) (.bool true) (fun w => by kernel_rfl) (bool_eq (str_self (strB (macB (tl (ByteArray.extract key 0 (min (ByteArray.size key) 200))) (tl (ByteArray.extract s 0 (min (ByteArray.size s) 500))))))) (by kernel_rfl) ?_
  refine s_val (some 36) (.bool true) (fun w => by kernel_rfl) (by kernel_rfl) ?_
  refine s_val (some 4) (.bool true) (fun w => by kernel_rfl) (by kernel_rfl) ?_
  refine s_nil ?_
  refine g_ret (by kernel_rfl) ?_
  show ∃ vs, Res _ _ _ _ vs ∧ _
  refine ⟨[.bool true], (.tmp (.bool true) (by kernel_rfl) .nil), ?_, H8.below⟩
  rfl
end Go.Proofs.YtjhldipeicpoeaaDoor
