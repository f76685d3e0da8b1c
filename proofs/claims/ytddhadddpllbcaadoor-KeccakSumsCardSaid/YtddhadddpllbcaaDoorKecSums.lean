/-
  KeccakSums.
-/
import Derived.Test.YtddhadddpllbcaaDoorProg
import Derived.Test.YtddhadddpllbcaaDoorStr
import Derived.Test.YtddhadddpllbcaaDoorKecM
import Derived.Test.YtddhadddpllbcaaDoorKecRM
import Derived.Test.YtddhadddpllbcaaDoorKecS
import Derived.Test.YtddhadddpllbcaaDoorMark
import Derived.Test.YtddhadddpllbcaaDoorKecL
namespace Go.Proofs.YtddhadddpllbcaaDoor
open Go Go.RowKit Go.Proofs.Kec
set_option linter.unusedVariables false
set_option maxRecDepth 100000 in
set_option maxHeartbeats 2000000 in
theorem word_fn (s : ByteArray) (hs : ByteArray.size s = 8) : Fn Tryd.prog 13 #[.string s] (.int .u64 ((BitVec.toNat (wrk (tl s) 0 8) : Nat) : Int)) := by
  refine Fn.intro (c := codeOf Tryd.f13) [.tmp 2] 17 Tryd.func13 (by kernel_rfl) (by kernel_rfl) (by kernel_rfl) fun w => ?_
  have H0 := St.start w
  refine g_sreg [0] (by kernel_rfl) (by kernel_rfl) ?_
  refine s_val (some 2) (.int .u64 0) (fun w => by kernel_rfl) (by kernel_rfl) ?_
  refine s_nil ?_
  refine g_sreg [0] (by kernel_rfl) (by kernel_rfl) ?_
  refine s_val (some 3) (.int .u64 0) (fun w => by kernel_rfl) (by kernel_rfl) ?_
  refine s_nil ?_
  refine g_seq (by kernel_rfl) ?_
  refine g_sreg [0] (by kernel_rfl) (by kernel_rfl) ?_
  refine s_val (some 4) (.int .i64 7) (fun w => by kernel_rfl) (by kernel_rfl) ?_
  refine s_nil ?_
  refine g_block 0 (by kernel_rfl) ?_
  refine g_loop (by kernel_rfl) (fun mz ρ ww => ∃ (j : Nat), j = mz ∧ (j ≤ 8) ∧ St w.heap.size w ww [] ∧ Is [(0, .string s), (2, .int .u64 0), (3, .int .u64 ((BitVec.toNat (wrk (tl s) 0 (8 - j)) : Nat) : Int)), (4, .int .i64 (((j : Nat) : Int) - 1))] ρ) 8 ⟨8, rfl, (by omega), H0, (Is.of ⟨(by kernel_rfl), (by kernel_rfl), (by kernel_rfl), (by kernel_rfl), trivial⟩)⟩ ?_
  clear H0
  rintro _ _ w1 ⟨j, rfl, hj, H1, _, rfl⟩
  refine g_seq (by kernel_rfl) ?_
  refine g_sreg [0, 1] (by kernel_rfl) (by kernel_rfl) ?_
  refine s_val (some 5) (.int .i64 (((j : Nat) : Int) - 1)) (fun w => by kernel_rfl) (by kernel_rfl) ?_
  by_cases hc1 : (((j : Nat) : Int) - 1 : Int) ≥ 0
  · skip
    refine s_valE (some 6) (.bool (decide (0 ≤ ((j : Nat) : Int) - 1))) (.bool true) (fun w => by kernel_rfl) (bool_eq (decide_eq_true (by omega))) (by kernel_rfl) ?_
    refine s_nil ?_
    refine g_cond_t (by kernel_rfl) (by kernel_rfl) ?_
    refine g_skip (by kernel_rfl) ?_
    show WP _ _ _ _ _ _
    refine g_seq (by kernel_rfl) ?_
    refine g_block 1 (by kernel_rfl) ?_
    refine g_reg0 [0, 1, 2, 3, 4, 5, 6, 7] (by kernel_rfl) ?_
    rw [show (((j : Nat) : Int) - 1) = ((j - 1 : Nat) : Int) from by omega]
    have hbl := by_lt s (j - 1)
    refine s_val (some 9) (.int .u64 ((BitVec.toNat (wrk (tl s) 0 (8 - j)) : Nat) : Int)) (fun w => by kernel_rfl) (by kernel_rfl) ?_
    refine s_valE (some 10) (.int .u64 (IntKind.u64.wrap ((256) * (((BitVec.toNat (wrk (tl s) 0 (8 - j)) : Nat) : Int))))) (.int .u64 ((BitVec.toNat ((256 : BitVec 64) * (wrk (tl s) 0 (8 - j))) : Nat) : Int)) (fun w => by kernel_rfl) (bv_mul_u64 (256 : BitVec 64) (wrk (tl s) 0 (8 - j))) (by kernel_rfl) ?_
    refine s_val (some 11) (.string s) (fun w => by kernel_rfl) (by kernel_rfl) ?_
    refine s_val (some 12) (.int .i64 ((j - 1 : Nat) : Int)) (fun w => by kernel_rfl) (by kernel_rfl) ?_
    refine s_op (some 13) _ (.int .u8 ((by_ s (j - 1) : Nat) : Int)) (by kernel_rfl) (by kernel_rfl) (fun o w ho => sindex_run (t := 9) (kd := .i64) (by kernel_rfl) (x := (.tmp 11)) (y := (.tmp 12)) s (j - 1) ho (by kernel_rfl) (by kernel_rfl) (by omega) w) ?_
    refine s_valE (some 14) (.int .u64 (IntKind.u64.wrap (((by_ s (j - 1) : Nat) : Int)))) (.int .u64 ((BitVec.toNat (BitVec.ofNat 64 (by_ s (j - 1))) : Nat) : Int)) (fun w => by kernel_rfl) (bv_ofNat_u64 (by_ s (j - 1))) (by kernel_rfl) ?_
    refine s_valE (some 15) (.int .u64 (IntKind.u64.wrap ((((BitVec.toNat ((256 : BitVec 64) * (wrk (tl s) 0 (8 - j))) : Nat) : Int)) + (((BitVec.toNat (BitVec.ofNat 64 (by_ s (j - 1))) : Nat) : Int))))) (.int .u64 ((BitVec.toNat (((256 : BitVec 64) * (wrk (tl s) 0 (8 - j))) + (BitVec.ofNat 64 (by_ s (j - 1)))) : Nat) : Int)) (fun w => by kernel_rfl) (bv_add_u64 ((256 : BitVec 64) * (wrk (tl s) 0 (8 - j))) (BitVec.ofNat 64 (by_ s (j - 1)))) (by kernel_rfl) ?_
    refine s_val (some 3) (.int .u64 ((BitVec.toNat (((256 : BitVec 64) * (wrk (tl s) 0 (8 - j))) + (BitVec.ofNat 64 (by_ s (j - 1)))) : Nat) : Int)) (fun w => by kernel_rfl) (by kernel_rfl) ?_
    refine s_nil ?_
    show WP _ _ _ _ _ _
    refine g_reg0 [0, 1, 2] (by kernel_rfl) ?_
    refine s_val (some 7) (.int .i64 ((j - 1 : Nat) : Int)) (fun w => by kernel_rfl) (by kernel_rfl) ?_
    refine s_valE (some 8) (.int .i64 (IntKind.i64.wrap (((j - 1 : Nat) : Int) - 1))) (.int .i64 (((j - 1 : Nat) : Int) - 1)) (fun w => by kernel_rfl) (int_eq (wrap_i64 (by omega) (by omega))) (by kernel_rfl) ?_
    refine s_val (some 4) (.int .i64 (((j - 1 : Nat) : Int) - 1)) (fun w => by kernel_rfl) (by kernel_rfl) ?_
    refine s_nil ?_
    have hw : wrk (tl s) 0 (8 - (j - 1)) = ((256 : BitVec 64) * (wrk (tl s) 0 (8 - j))) + (BitVec.ofNat 64 (by_ s (j - 1))) := by rw [show 8 - (j - 1) = 8 - j + 1 by omega]; show 256 * wrk (tl s) 0 (8 - j) + bt (tl s) (0 + (7 - (8 - j))) = _; rw [show 0 + (7 - (8 - j)) = j - 1 by omega]; rfl
    rw [← hw]
    show ∃ m, _ ∧ _
    exact ⟨_, (by omega), (j - 1), rfl, (by omega), H1, (Is.of ⟨(by kernel_rfl), (by kernel_rfl), (by kernel_rfl), (by kernel_rfl), trivial⟩)⟩
  · skip
    refine s_valE (some 6) (.bool (decide (0 ≤ ((j : Nat) : Int) - 1))) (.bool false) (fun w => by kernel_rfl) (bool_eq (decide_eq_false (by omega))) (by kernel_rfl) ?_
    refine s_nil ?_
    refine g_cond_f (by kernel_rfl) (by kernel_rfl) ?_
    refine g_exit 0 (by kernel_rfl) ?_
    show WP _ _ _ _ _ _
    refine g_sreg [0, 1] (by kernel_rfl) (by kernel_rfl) ?_
    refine s_val (some 16) (.int .u64 ((BitVec.toNat (wrk (tl s) 0 (8 - j)) : Nat) : Int)) (fun w => by kernel_rfl) (by kernel_rfl) ?_
    refine s_val (some 2) (.int .u64 ((BitVec.toNat (wrk (tl s) 0 (8 - j)) : Nat) : Int)) (fun w => by kernel_rfl) (by kernel_rfl) ?_
    refine s_nil ?_
    refine g_ret (by kernel_rfl) ?_
    show ∃ vs, Res _ _ _ _ vs ∧ _
    refine ⟨[.int .u64 ((BitVec.toNat (wrk (tl s) 0 (8 - j)) : Nat) : Int)], (.tmp (.int .u64 ((BitVec.toNat (wrk (tl s) 0 (8 - j)) : Nat) : Int)) (by kernel_rfl) .nil), ?_, H1.below⟩
    obtain rfl : j = 0 := by omega
    rfl

set_option maxRecDepth 100000 in
set_option maxHeartbeats 2000000 in
theorem sumR_fn (s : ByteArray) (hsz : ByteArray.size s ≤ 100000000000000) : Fn Tryd.prog 9 #[.string s] (.string (strB (sumB (tl s)))) := by
  refine Fn.intro (c := codeOf Tryd.f9) [.tmp 2] 86 Tryd.func9 (by kernel_rfl) (by kernel_rfl) (by kernel_rfl) fun w => ?_
  have H0 := St.start w
  refine g_sreg [0] (by kernel_rfl) (by kernel_rfl) ?_
  refine s_val (some 2) (.string (⟨#[]⟩)) (fun w => by kernel_rfl) (by kernel_rfl) ?_
  refine s_nil ?_
  refine g_sreg [0, 1, 2] (by kernel_rfl) (by kernel_rfl) ?_
  refine s_val (some 9) (.string s) (fun w => by kernel_rfl) (by kernel_rfl) ?_
  refine s_strBytes H0 (some 10) 9 32 5 (.tmp 9) s (by kernel_rfl) (by kernel_rfl) (by kernel_rfl) (by kernel_rfl) (by kernel_rfl) (by kernel_rfl) (by unfold maxLen; omega) ?_
  intro b_1 cap_2 cur_3 fz_4 w1 H1 hf_5 hr_6; clear H0
  refine s_val (some 3) (.slice (some ⟨b_1, 0, none⟩) (ByteArray.size s) cap_2) (fun w => by kernel_rfl) (by kernel_rfl) ?_
  refine s_nil ?_
  refine g_sreg [0, 1, 2, 3] (by kernel_rfl) (by kernel_rfl) ?_
  refine s_val (some 11) (.slice (some ⟨b_1, 0, none⟩) (ByteArray.size s) cap_2) (fun w => by kernel_rfl) (by kernel_rfl) ?_
  refine s_new H1 (some 12) (fun b => .slice (some ⟨b, 0, none⟩) 1 1) #[.int .u8 1] 5 (fun w => by kernel_rfl) (by kernel_rfl) ?_
  intro b1 w2 H2; clear H1
  refine s_appendM H2 (some 13) 32 5 1 1 (.tmp 11) (.tmp 12) 1 0 b_1 b1 (ByteArray.size s) 1 cap_2 1 cur_3 #[.int .u8 1] fz_4 5 (0, 0) (cellsB (tl s)) ([.int .u8 1]) (fun b_7 cur_9 fz_10 => [(b1, Obj.cells #[.int .u8 1] 5 (0, 0)), (b_7, Obj.cells cur_9 5 fz_10)]) (by kernel_rfl) (by kernel_rfl) (by kernel_rfl) (by kernel_rfl) (by kernel_rfl) hf_5 hr_6 (by kernel_rfl) (by kernel_rfl) (by rfl) (by rfl) (by intro u hu; simp at hu; first | exact hu.elim | (rcases hu with rfl | rfl | rfl | rfl <;> rfl) | (rcases hu with rfl | rfl <;> rfl) | (subst hu; rfl)) (by omega) (by unfold maxLen; omega) (fun _ _ _ => by kernel_rfl) ?_
  intro b_7 cap_8 cur_9 fz_10 w3 H3 hf_11 hr_12; clear H2
  have hr_12t : Rw 1 cur_9 cap_8 ((ByteArray.size s) + 1) (cellsB (tl s ++ [UInt8.ofBitVec (1 : BitVec 8)])) := by rw [cellsB_append]; exact hr_12
  have hr_12n : (ByteArray.size s) + 1 = List.length (tl s ++ [UInt8.ofBitVec (1 : BitVec 8)]) := by have h0 : ByteArray.size s = List.length (tl s) := rfl; rw [List.length_append, ← h0]; rfl
  refine s_val (some 3) (.slice (some ⟨b_7, 0, none⟩) ((ByteArray.size s) + 1) cap_8) (fun w => by kernel_rfl) (by kernel_rfl) ?_
  refine s_nil ?_
  refine g_seq (by kernel_rfl) ?_
  refine g_block 0 (by kernel_rfl) ?_
  have HD1 : St w.heap.size w w3 [(b_7, Obj.cells cur_9 5 fz_10)] := H3.sub (List.Sublist.cons _ (List.Sublist.cons_cons _ List.Sublist.slnil))
  refine g_loop (by kernel_rfl) (fun mz ρ ww => ∃ (b : Nat) (cap : Nat) (n : Nat) (cur : Array Value) (fz : Nat × Nat) (z : Nat), 135 - z = mz ∧ (n = List.length (padK s z)) ∧ (Rw 1 cur cap n (cellsB (padK s z))) ∧ (Clr fz cur) ∧ (z ≤ 135 - ByteArray.size s % 136) ∧ St w.heap.size w ww [(b, Obj.cells cur 5 fz)] ∧ Is [(0, .string s), (2, .string (⟨#[]⟩)), (3, .slice (some ⟨b, 0, none⟩) n cap)] ρ) (135 - 0) ⟨b_7, cap_8, (ByteArray.size s) + 1, cur_9, fz_10, 0, rfl, hr_12n, hr_12t, hf_11, (by omega), HD1, (Is.of ⟨(by kernel_rfl), (by kernel_rfl), (by kernel_rfl), trivial⟩)⟩ ?_
  clear HD1
  rintro _ _ w4 ⟨b, cap, n, cur, fz, z, rfl, hn, hr, hf, hz, H4, _, rfl⟩
  have hlz := padK_len s z; rw [← hn] at hlz
  refine g_seq (by kernel_rfl) ?_
  refine g_sreg [0, 1, 2, 3] (by kernel_rfl) (by kernel_rfl) ?_
  refine s_val (some 14) (.slice (some ⟨b, 0, none⟩) n cap) (fun w => by kernel_rfl) (by kernel_rfl) ?_
  refine s_val (some 15) (.int .i64 ((n : Nat) : Int)) (fun w => by kernel_rfl) (by kernel_rfl) ?_
  refine s_valE (some 16) (.int .i64 (Int.tmod ((n : Nat) : Int) 136)) (.int .i64 ((n % 136 : Nat) : Int)) (fun w => by kernel_rfl) (int_eq (remN n 136)) (by kernel_rfl) ?_
  by_cases hc2 : (n % 136 : Nat) > 0
  · skip
    refine s_valE (some 17) (.bool (decide (0 < ((n % 136 : Nat) : Int)))) (.bool true) (fun w => by kernel_rfl) (bool_eq (decide_eq_true (by omega))) (by kernel_rfl) ?_
    refine s_nil ?_
    refine g_cond_t (by kernel_rfl) (by kernel_rfl) ?_
    refine g_skip (by kernel_rfl) ?_
    show WP _ _ _ _ _ _
    refine g_block 1 (by kernel_rfl) ?_
    refine g_reg0 [0, 1, 2, 3] (by kernel_rfl) ?_
    refine s_val (some 18) (.slice (some ⟨b, 0, none⟩) n cap) (fun w => by kernel_rfl) (by kernel_rfl) ?_
    refine s_new H4 (some 19) (fun b => .slice (some ⟨b, 0, none⟩) 1 1) #[.int .u8 0] 5 (fun w => by kernel_rfl) (by kernel_rfl) ?_
    intro b2 w5 H5; clear H4
    refine s_appendM H5 (some 20) 32 5 1 1 (.tmp 18) (.tmp 19) 1 0 b b2 n 1 cap 1 cur #[.int .u8 0] fz 5 (0, 0) (cellsB (padK s z)) ([.int .u8 0]) (fun b_13 cur_15 fz_16 => [(b2, Obj.cells #[.int .u8 0] 5 (0, 0)), (b_13, Obj.cells cur_15 5 fz_16)]) (by kernel_rfl) (by kernel_rfl) (by kernel_rfl) (by kernel_rfl) (by kernel_rfl) hf hr (by kernel_rfl) (by kernel_rfl) (by rfl) (by rfl) (by intro u hu; simp at hu; first | exact hu.elim | (rcases hu with rfl | rfl | rfl | rfl <;> rfl) | (rcases hu with rfl | rfl <;> rfl) | (subst hu; rfl)) (by omega) (by unfold maxLen; omega) (fun _ _ _ => by kernel_rfl) ?_
    intro b_13 cap_14 cur_15 fz_16 w6 H6 hf_17 hr_18; clear H5
    have hr_18t : Rw 1 cur_15 cap_14 (n + 1) (cellsB (padK s z ++ [UInt8.ofBitVec (0 : BitVec 8)])) := by rw [cellsB_append]; exact hr_18
    have hr_18n : n + 1 = List.length (padK s z ++ [UInt8.ofBitVec (0 : BitVec 8)]) := by have h0 : n = List.length (padK s z) := hn; rw [List.length_append, ← h0]; rfl
    refine s_val (some 3) (.slice (some ⟨b_13, 0, none⟩) (n + 1) cap_14) (fun w => by kernel_rfl) (by kernel_rfl) ?_
    refine s_nil ?_
    have hrw := hr_18t; rw [padK_succ] at hrw
    have HD3 : St w.heap.size w w6 [(b_13, Obj.cells cur_15 5 fz_16)] := H6.sub (List.Sublist.cons _ (List.Sublist.cons_cons _ List.Sublist.slnil))
    show ∃ m, _ ∧ _
    exact ⟨_, (by omega), b_13, cap_14, n + 1, cur_15, fz_16, (z + 1), rfl, (by rw [padK_len]; omega), hrw, hf_17, (by omega), HD3, (Is.of ⟨(by kernel_rfl), (by kernel_rfl), (by kernel_rfl), trivial⟩)⟩
  · skip
    refine s_valE (some 17) (.bool (decide (0 < ((n % 136 : Nat) : Int)))) (.bool false) (fun w => by kernel_rfl) (bool_eq (decide_eq_false (by omega))) (by kernel_rfl) ?_
    refine s_nil ?_
    refine g_cond_f (by kernel_rfl) (by kernel_rfl) ?_
    refine g_exit 0 (by kernel_rfl) ?_
    show WP _ _ _ _ _ _
    refine g_sreg [0, 1, 2, 3, 4, 5, 6, 7, 8, 9, 10, 11, 12] (by kernel_rfl) (by kernel_rfl) ?_
    have hnp : 1 ≤ n := by omega
    refine s_val (some 21) (.slice (some ⟨b, 0, none⟩) n cap) (fun w => by kernel_rfl) (by kernel_rfl) ?_
    refine s_val (some 22) (.slice (some ⟨b, 0, none⟩) n cap) (fun w => by kernel_rfl) (by kernel_rfl) ?_
    refine s_val (some 23) (.int .i64 ((n : Nat) : Int)) (fun w => by kernel_rfl) (by kernel_rfl) ?_
    refine s_valE (some 24) (.int .i64 (IntKind.i64.wrap (((n : Nat) : Int) - 1))) (.int .i64 ((n - 1 : Nat) : Int)) (fun w => by kernel_rfl) (int_eq (wrapSub_i64 (a := n) (b := 1) (by omega))) (by kernel_rfl) ?_
    refine s_val (some 25) (.slice (some ⟨b, 0, none⟩) n cap) (fun w => by kernel_rfl) (by kernel_rfl) ?_
    refine s_val (some 26) (.slice (some ⟨b, 0, none⟩) n cap) (fun w => by kernel_rfl) (by kernel_rfl) ?_
    refine s_val (some 27) (.int .i64 ((n : Nat) : Int)) (fun w => by kernel_rfl) (by kernel_rfl) ?_
    refine s_valE (some 28) (.int .i64 (IntKind.i64.wrap (((n : Nat) : Int) - 1))) (.int .i64 ((n - 1 : Nat) : Int)) (fun w => by kernel_rfl) (int_eq (wrapSub_i64 (a := n) (b := 1) (by omega))) (by kernel_rfl) ?_
    refine s_op (some 29) _ (.pointer (some ⟨b, 0 + (n - 1) * 1, none⟩)) (by kernel_rfl) (by kernel_rfl) (fun o w ho => idxS_run (kd := .i64) (t := 32) (e := 5) (size := 1) (bytes := 1) (by kernel_rfl) (x := (.tmp 25)) (y := (.tmp 28)) b 0 n cap (n - 1) ho (by kernel_rfl) (by kernel_rfl) (by omega) w) ?_
    refine s_load1 H4 (some 30) 5 (.tmp 29) 0 b (0 + (n - 1) * 1) cur 5 fz (.int .u8 ((BitVec.toNat (UInt8.toBitVec (List.getD (padK s z) (n - 1) 0)) : Nat) : Int)) (by kernel_rfl) (by kernel_rfl) (by kernel_rfl) (by kernel_rfl) (by kernel_rfl) (hr.atB (by omega) hn) ?_
    refine s_valE (some 31) (.int .u8 (IntKind.u8.wrap ((((BitVec.toNat (UInt8.toBitVec (List.getD (padK s z) (n - 1) 0)) : Nat) : Int)) + (128)))) (.int .u8 ((BitVec.toNat ((UInt8.toBitVec (List.getD (padK s z) (n - 1) 0)) + (128 : BitVec 8)) : Nat) : Int)) (fun w => by kernel_rfl) (bv_add_u8 (UInt8.toBitVec (List.getD (padK s z) (n - 1) 0)) (128 : BitVec 8)) (by kernel_rfl) ?_
    refine s_op (some 32) _ (.pointer (some ⟨b, 0 + (n - 1) * 1, none⟩)) (by kernel_rfl) (by kernel_rfl) (fun o w ho => idxS_run (kd := .i64) (t := 32) (e := 5) (size := 1) (bytes := 1) (by kernel_rfl) (x := (.tmp 21)) (y := (.tmp 24)) b 0 n cap (n - 1) ho (by kernel_rfl) (by kernel_rfl) (by omega) w) ?_
    obtain ⟨cur_20, hc_21, hs_22, hr_23⟩ := hr.putB (n - 1) (UInt8.ofBitVec ((UInt8.toBitVec (List.getD (padK s z) (n - 1) 0)) + (128 : BitVec 8))) (by omega)
    refine s_storeM H4 0 [(b, Obj.cells cur_20 5 fz)] 5 (.tmp 32) (.tmp 31) b (0 + (n - 1) * 1) cur cur_20 5 fz (.int .u8 ((BitVec.toNat ((UInt8.toBitVec (List.getD (padK s z) (n - 1) 0)) + (128 : BitVec 8)) : Nat) : Int)) (by kernel_rfl) (by kernel_rfl) (by kernel_rfl) (by kernel_rfl) hf (by kernel_rfl) (by kernel_rfl) hs_22 hc_21 (by kernel_rfl) ?_
    intro w7 H7 hf_19; clear H4
    refine s_nil ?_
    refine g_sreg [0, 1, 2] (by kernel_rfl) (by kernel_rfl) ?_
    refine s_val (some 33) (.agg #[.int .u64 0, .int .u64 0, .int .u64 0, .int .u64 0, .int .u64 0, .int .u64 0, .int .u64 0, .int .u64 0, .int .u64 0, .int .u64 0, .int .u64 0, .int .u64 0, .int .u64 0, .int .u64 0, .int .u64 0, .int .u64 0, .int .u64 0, .int .u64 0, .int .u64 0, .int .u64 0, .int .u64 0, .int .u64 0, .int .u64 0, .int .u64 0, .int .u64 0]) (fun w => by kernel_rfl) (by kernel_rfl) ?_
    refine s_alloc H7 (some 4) 26 (.agg #[.int .u64 0, .int .u64 0, .int .u64 0, .int .u64 0, .int .u64 0, .int .u64 0, .int .u64 0, .int .u64 0, .int .u64 0, .int .u64 0, .int .u64 0, .int .u64 0, .int .u64 0, .int .u64 0, .int .u64 0, .int .u64 0, .int .u64 0, .int .u64 0, .int .u64 0, .int .u64 0, .int .u64 0, .int .u64 0, .int .u64 0, .int .u64 0, .int .u64 0]) (by kernel_rfl) (by kernel_rfl) (by kernel_rfl) ?_
    intro b3 w8 H8; clear H7
    refine s_store H8 0 [(b3, Obj.cells #[.int .u64 0, .int .u64 0, .int .u64 0, .int .u64 0, .int .u64 0, .int .u64 0, .int .u64 0, .int .u64 0, .int .u64 0, .int .u64 0, .int .u64 0, .int .u64 0, .int .u64 0, .int .u64 0, .int .u64 0, .int .u64 0, .int .u64 0, .int .u64 0, .int .u64 0, .int .u64 0, .int .u64 0, .int .u64 0, .int .u64 0, .int .u64 0, .int .u64 0] 26 (0, 0)), (b, Obj.cells cur_20 5 fz)] 26 (.tmp 4) (.tmp 33) b3 (0) #[.int .u64 0, .int .u64 0, .int .u64 0, .int .u64 0, .int .u64 0, .int .u64 0, .int .u64 0, .int .u64 0, .int .u64 0, .int .u64 0, .int .u64 0, .int .u64 0, .int .u64 0, .int .u64 0, .int .u64 0, .int .u64 0, .int .u64 0, .int .u64 0, .int .u64 0, .int .u64 0, .int .u64 0, .int .u64 0, .int .u64 0, .int .u64 0, .int .u64 0] #[.int .u64 0, .int .u64 0, .int .u64 0, .int .u64 0, .int .u64 0, .int .u64 0, .int .u64 0, .int .u64 0, .int .u64 0, .int .u64 0, .int .u64 0, .int .u64 0, .int .u64 0, .int .u64 0, .int .u64 0, .int .u64 0, .int .u64 0, .int .u64 0, .int .u64 0, .int .u64 0, .int .u64 0, .int .u64 0, .int .u64 0, .int .u64 0, .int .u64 0] 26 (.agg #[.int .u64 0, .int .u64 0, .int .u64 0, .int .u64 0, .int .u64 0, .int .u64 0, .int .u64 0, .int .u64 0, .int .u64 0, .int .u64 0, .int .u64 0, .int .u64 0, .int .u64 0, .int .u64 0, .int .u64 0, .int .u64 0, .int .u64 0, .int .u64 0, .int .u64 0, .int .u64 0, .int .u64 0, .int .u64 0, .int .u64 0, .int .u64 0, .int .u64 0]) (by kernel_rfl) (by kernel_rfl) (by kernel_rfl) (by kernel_rfl) (by kernel_rfl) (by kernel_rfl) (of_decide_eq_true (by kernel_rfl)) (by kernel_rfl) (by kernel_rfl) ?_
    intro w9 H9; clear H8
    refine s_nil ?_
    refine g_seq (by kernel_rfl) ?_
    refine g_sreg [0] (by kernel_rfl) (by kernel_rfl) ?_
    refine s_val (some 5) (.int .i64 0) (fun w => by kernel_rfl) (by kernel_rfl) ?_
    refine s_nil ?_
    refine g_block 2 (by kernel_rfl) ?_
    have hz2 : z = 135 - ByteArray.size s % 136 := by omega
    have hLr : Rw 1 cur_20 cap n (cellsB (PK s z)) := by have h0 := hr_23; rw [show n - 1 = (padK s z).length - 1 by rw [← hn]] at h0; exact h0
    have hLn : n = List.length (PK s z) := by rw [PK_len]; omega
    have hn136 : n % 136 = 0 := by omega
    have HS4 : St w.heap.size w w9 [(b3, Obj.cells (Value.cells (svn zeroS)) 26 (0, 0)), (b, Obj.cells cur_20 5 fz)] := by rw [show (Value.cells (svn zeroS)) = #[.int .u64 0, .int .u64 0, .int .u64 0, .int .u64 0, .int .u64 0, .int .u64 0, .int .u64 0, .int .u64 0, .int .u64 0, .int .u64 0, .int .u64 0, .int .u64 0, .int .u64 0, .int .u64 0, .int .u64 0, .int .u64 0, .int .u64 0, .int .u64 0, .int .u64 0, .int .u64 0, .int .u64 0, .int .u64 0, .int .u64 0, .int .u64 0, .int .u64 0] from by kernel_rfl]; exact H9
    refine g_loop (by kernel_rfl) (fun mz ρ ww => ∃ (a : List (BitVec 64)) (m : Nat), n - 136 * m = mz ∧ (136 * m ≤ n) ∧ (a.length = 25) ∧ (takeB (zeroS, 0) ((PK s z).take (136 * m)) = (a, 0)) ∧ St w.heap.size w ww [(b3, Obj.cells (Value.cells (svn a)) 26 (0, 0)), (b, Obj.cells cur_20 5 fz)] ∧ Is [(0, .string s), (2, .string (⟨#[]⟩)), (3, .slice (some ⟨b, 0, none⟩) n cap), (4, .pointer (some ⟨b3, 0, none⟩)), (5, .int .i64 ((136 * m : Nat) : Int)), (17, .bool false)] ρ) (n - 0) ⟨zeroS, 0, rfl, (by omega), (by decide), rfl, HS4, (Is.of ⟨(by kernel_rfl), (by kernel_rfl), (by kernel_rfl), (by kernel_rfl), (by kernel_rfl), (by kernel_rfl), trivial⟩)⟩ ?_
    clear HS4
    rintro _ _ w10 ⟨a, m, rfl, hm, ha, ht, H10, _, rfl⟩
    refine g_seq (by kernel_rfl) ?_
    refine g_sreg [0, 1, 2, 3] (by kernel_rfl) (by kernel_rfl) ?_
    refine s_val (some 34) (.int .i64 ((136 * m : Nat) : Int)) (fun w => by kernel_rfl) (by kernel_rfl) ?_
    refine s_val (some 35) (.slice (some ⟨b, 0, none⟩) n cap) (fun w => by kernel_rfl) (by kernel_rfl) ?_
    refine s_val (some 36) (.int .i64 ((n : Nat) : Int)) (fun w => by kernel_rfl) (by kernel_rfl) ?_
    by_cases hc5 : (136 * m : Nat) < n
    · skip
      refine s_valE (some 37) (.bool (decide (((136 * m : Nat) : Int) < ((n : Nat) : Int)))) (.bool true) (fun w => by kernel_rfl) (bool_eq (decide_eq_true (by omega))) (by kernel_rfl) ?_
      refine s_nil ?_
      refine g_cond_t (by kernel_rfl) (by kernel_rfl) ?_
      refine g_skip (by kernel_rfl) ?_
      show WP _ _ _ _ _ _
      refine g_seq (by kernel_rfl) ?_
      refine g_block 3 (by kernel_rfl) ?_
      refine g_seq (by kernel_rfl) ?_
      refine g_sreg [0] (by kernel_rfl) (by kernel_rfl) ?_
      refine s_val (some 6) (.int .i64 0) (fun w => by kernel_rfl) (by kernel_rfl) ?_
      refine s_nil ?_
      refine g_block 4 (by kernel_rfl) ?_
      have HX : St w.heap.size w w10 [(b3, Obj.cells (Value.cells (svn (xw a (wd s z m) 0))) 26 (0, 0)), (b, Obj.cells cur_20 5 fz)] := by rw [← xw_zero (wd s z m) ha]; exact H10
      refine g_loop (by kernel_rfl) (fun mz ρ ww => ∃ (i : Nat), 17 - i = mz ∧ (i ≤ 17) ∧ St w.heap.size w ww [(b3, Obj.cells (Value.cells (svn (xw a (wd s z m) i))) 26 (0, 0)), (b, Obj.cells cur_20 5 fz)] ∧ Is [(0, .string s), (2, .string (⟨#[]⟩)), (3, .slice (some ⟨b, 0, none⟩) n cap), (4, .pointer (some ⟨b3, 0, none⟩)), (5, .int .i64 ((136 * m : Nat) : Int)), (6, .int .i64 ((i : Nat) : Int)), (17, .bool false), (37, .bool true)] ρ) (17 - 0) ⟨0, rfl, (by omega), HX, (Is.of ⟨(by kernel_rfl), (by kernel_rfl), (by kernel_rfl), (by kernel_rfl), (by kernel_rfl), (by kernel_rfl), (by kernel_rfl), (by kernel_rfl), trivial⟩)⟩ ?_
      clear HX
      rintro _ _ w11 ⟨i, rfl, hi, H11, _, rfl⟩
      refine g_seq (by kernel_rfl) ?_
      refine g_sreg [0, 1] (by kernel_rfl) (by kernel_rfl) ?_
      refine s_val (some 40) (.int .i64 ((i : Nat) : Int)) (fun w => by kernel_rfl) (by kernel_rfl) ?_
      by_cases hc6 : (i : Nat) < 17
      · skip
        refine s_valE (some 41) (.bool (decide (((i : Nat) : Int) < 17))) (.bool true) (fun w => by kernel_rfl) (bool_eq (decide_eq_true (by omega))) (by kernel_rfl) ?_
        refine s_nil ?_
        refine g_cond_t (by kernel_rfl) (by kernel_rfl) ?_
        refine g_skip (by kernel_rfl) ?_
        show WP _ _ _ _ _ _
        refine g_seq (by kernel_rfl) ?_
        refine g_block 5 (by kernel_rfl) ?_
        refine D2.g_draw0 [0, 1, 2, 3, 4, 5, 6, 7, 8, 9, 10, 11, 12, 13, 14, 15, 16, 17, 18, 19] [((some 44), fun _ => .int .i64 ((i : Nat) : Int)), ((some 45), fun _ => .int .i64 ((i : Nat) : Int)), ((some 46), fun _ => .pointer (some ⟨b3, 0 + i * 1, none⟩)), ((some 47), fun _ => .int .u64 ((BitVec.toNat (nth a i) : Nat) : Int)), ((some 48), fun _ => .slice (some ⟨b, 0, none⟩) n cap), ((some 49), fun _ => .int .i64 ((136 * m : Nat) : Int)), ((some 50), fun _ => .int .i64 ((i : Nat) : Int)), ((some 51), fun _ => .int .i64 ((8 * i : Nat) : Int)), ((some 52), fun _ => .int .i64 (((136 * m) + (8 * i) : Nat) : Int)), ((some 53), fun _ => .int .i64 ((136 * m : Nat) : Int)), ((some 54), fun _ => .int .i64 ((i : Nat) : Int)), ((some 55), fun _ => .int .i64 ((8 * i : Nat) : Int)), ((some 56), fun _ => .int .i64 (((136 * m) + (8 * i) : Nat) : Int)), ((some 57), fun _ => .int .i64 ((((136 * m) + (8 * i)) + 8 : Nat) : Int)), ((some 58), fun _ => .slice (some ⟨b, 136 * m + 8 * i, none⟩) 8 (cap - ((136 * m) + (8 * i)))), ((some 59), fun _ => .string (strB (List.take 8 (List.drop (136 * m + 8 * i) (PK s z))))), ((some 60), fun _ => .int .u64 ((BitVec.toNat (wrk (List.take 8 (List.drop (136 * m + 8 * i) (PK s z))) 0 8) : Nat) : Int)), ((some 61), fun _ => .int .u64 ((BitVec.toNat ((nth a i) ^^^ (wrk (List.take 8 (List.drop (136 * m + 8 * i) (PK s z))) 0 8)) : Nat) : Int)), ((some 62), fun _ => .pointer (some ⟨b3, 0 + i * 1, none⟩)), (none, fun _ => undef)] (D2.Pre w.heap.size w (fun L g => [(true, (bif L 19 then (b3, Obj.cells (Value.cells (svn (xw a (wd s z m) (i + 1)))) 26 (0, 0)) else (b3, Obj.cells (Value.cells (svn (xw a (wd s z m) i))) 26 (0, 0)))), (true, (b, Obj.cells cur_20 5 fz))]) (fun L g => True)) (by kernel_rfl) (by kernel_rfl) (by kernel_rfl) ⟨D2.StE.of H11.drew _ (by kernel_rfl), trivial⟩ ⟨?_, ?_, ?_, ?_, ?_, ?_, ?_, ?_, ?_, ?_, ?_, ?_, ?_, ?_, ?_, ?_, ?_, ?_, ?_, ?_, trivial⟩ ?_
        · exact D2.gv_val (fun _ _ _ h => h) (fun g w => by kernel_rfl)
        · exact D2.gv_val (fun _ _ _ h => h) (fun g w => by kernel_rfl)
        · exact D2.gv_op (fun _ _ _ h => h) _ (fun g => by kernel_rfl) (fun g => (fun o w ho => idxA_run (kd := .i64) (t := 26) (n := 25) (size := 1) (by kernel_rfl) (x := (.tmp 4)) (y := (.tmp 45)) b3 0 i ho (by kernel_rfl) (by kernel_rfl) (by omega) w))
        · exact D2.gv_load1 25 (.tmp 46) 0 (fun g => b3) (fun g => 0 + i * 1) (fun g => (Value.cells (svn (xw a (wd s z m) i)))) 26 (0, 0) (fun _ _ _ h => h) (fun g => by kernel_rfl) (fun g => by kernel_rfl) (fun L g hN => (by have hL19 : L 19 = false := (hN.post 19 (by kernel_rfl)); exact D2.ent_get' (p := true) (e := (bif L 19 then (b3, Obj.cells (Value.cells (svn (xw a (wd s z m) (i + 1)))) 26 (0, 0)) else (b3, Obj.cells (Value.cells (svn (xw a (wd s z m) i))) 26 (0, 0)))) (by kernel_rfl) (by rfl) (by simp only [hL19, cond_true, cond_false] <;> rfl))) (by kernel_rfl) (fun L g hN hF => by exact ((show nth (xw a (wd s z m) i) i = nth a i from xw_at _ _ _ (by omega)) ▸ svn_at (xw a (wd s z m) i) i _ (by omega) (by omega)))
        · exact D2.gv_val (fun _ _ _ h => h) (fun g w => by kernel_rfl)
        · exact D2.gv_val (fun _ _ _ h => h) (fun g w => by kernel_rfl)
        · exact D2.gv_val (fun _ _ _ h => h) (fun g w => by kernel_rfl)
        · exact D2.gv_valE (fun _ _ _ h => h) (V' := .int .i64 (IntKind.i64.wrap (8 * ((i : Nat) : Int)))) (fun g w => by kernel_rfl) (int_eq (wrapMul_i64 (a := 8) (b := i) (by omega)))
        · exact D2.gv_valE (fun _ _ _ h => h) (V' := .int .i64 (IntKind.i64.wrap (((136 * m : Nat) : Int) + ((8 * i : Nat) : Int)))) (fun g w => by kernel_rfl) (int_eq (wrapAdd_i64 (a := 136 * m) (b := 8 * i) (by omega)))
        · exact D2.gv_val (fun _ _ _ h => h) (fun g w => by kernel_rfl)
        · exact D2.gv_val (fun _ _ _ h => h) (fun g w => by kernel_rfl)
        · exact D2.gv_valE (fun _ _ _ h => h) (V' := .int .i64 (IntKind.i64.wrap (8 * ((i : Nat) : Int)))) (fun g w => by kernel_rfl) (int_eq (wrapMul_i64 (a := 8) (b := i) (by omega)))
        · exact D2.gv_valE (fun _ _ _ h => h) (V' := .int .i64 (IntKind.i64.wrap (((136 * m : Nat) : Int) + ((8 * i : Nat) : Int)))) (fun g w => by kernel_rfl) (int_eq (wrapAdd_i64 (a := 136 * m) (b := 8 * i) (by omega)))
        · exact D2.gv_valE (fun _ _ _ h => h) (V' := .int .i64 (IntKind.i64.wrap ((((136 * m) + (8 * i) : Nat) : Int) + 8))) (fun g w => by kernel_rfl) (int_eq (wrapAdd_i64 (a := (136 * m) + (8 * i)) (b := 8) (by omega)))
        · exact D2.gv_op (fun _ _ _ h => h) _ (fun g => by kernel_rfl) (fun g => (fun o w ho => cut2_run (kd := .i64) (kz := .i64) (t := 32) (e := 5) (size := 1) (bytes := 1) (by kernel_rfl) (x := (.tmp 48)) (y := (.tmp 57)) (z := (.tmp 52)) b n cap ((136 * m) + (8 * i)) (((136 * m) + (8 * i)) + 8) ho (by kernel_rfl) (by kernel_rfl) (by kernel_rfl) (by have := hLr.le; omega) (by omega) (by have := hLr.le; omega) (136 * m + 8 * i) (8) (by omega) (by omega) w))
        · exact D2.gv_bytesCut 1 32 9 5 (.tmp 58) (fun g => b) (136 * m + 8 * i) 8 (cap - ((136 * m) + (8 * i))) cap n cur_20 5 fz (PK s z) (fun _ _ _ h => h) (fun g => by kernel_rfl) (by kernel_rfl) (by kernel_rfl) (by kernel_rfl) (fun g => by kernel_rfl) (fun L g hN => (by kernel_rfl)) hLr (by omega)
        · exact D2.gv_call 13 #[.string (strB (List.take 8 (List.drop (136 * m + 8 * i) (PK s z))))] (fun _ _ _ h => h) (word_fn (strB (List.take 8 (List.drop (136 * m + 8 * i) (PK s z)))) (show ByteArray.size (strB (List.take 8 (List.drop (136 * m + 8 * i) (PK s z)))) = 8 by rw [strB_size, List.length_take, List.length_drop]; omega)) (fun g w => by kernel_rfl)
        · exact D2.gv_valE (fun _ _ _ h => h) (V' := .int .u64 (Go.bits .xor .u64 (((BitVec.toNat (nth a i) : Nat) : Int)) (((BitVec.toNat (wrk (List.take 8 (List.drop (136 * m + 8 * i) (PK s z))) 0 8) : Nat) : Int)))) (fun g w => by kernel_rfl) (bv_xor_u64 (nth a i) (wrk (List.take 8 (List.drop (136 * m + 8 * i) (PK s z))) 0 8))
        · exact D2.gv_op (fun _ _ _ h => h) _ (fun g => by kernel_rfl) (fun g => (fun o w ho => idxA_run (kd := .i64) (t := 26) (n := 25) (size := 1) (by kernel_rfl) (x := (.tmp 4)) (y := (.tmp 44)) b3 0 i ho (by kernel_rfl) (by kernel_rfl) (by omega) w))
        · exact D2.gv_store 0 25 (.tmp 62) (.tmp 61) (fun g => b3) (fun g => 0 + i * 1) (Value.cells (svn (xw a (wd s z m) i))) (Value.cells (svn (xw a (wd s z m) (i + 1)))) 26 (.int .u64 ((BitVec.toNat ((nth a i) ^^^ (wrk (List.take 8 (List.drop (136 * m + 8 * i) (PK s z))) 0 8)) : Nat) : Int)) (fun g => by kernel_rfl) (fun g => by kernel_rfl) (fun g => by kernel_rfl) (by kernel_rfl) (by kernel_rfl) (fun g => (by show _ + 1 ≤ 25; omega)) (fun g => ((xw_set a (wd s z m) i (by omega)) ▸ svn_put (xw a (wd s z m) i) i _ ((nth a i) ^^^ (wrk (List.take 8 (List.drop (136 * m + 8 * i) (PK s z))) 0 8)) (xw_len _ _ _) (by omega) (by omega))) (fun L g hN => ⟨(by have hL19 : L 19 = false := hN.1; exact D2.ent_get' (p := true) (e := (bif L 19 then (b3, Obj.cells (Value.cells (svn (xw a (wd s z m) (i + 1)))) 26 (0, 0)) else (b3, Obj.cells (Value.cells (svn (xw a (wd s z m) i))) 26 (0, 0)))) (by kernel_rfl) (by rfl) (by simp only [hL19, cond_true, cond_false] <;> rfl)), (by kernel_rfl)⟩) (fun L g hN hF => hF)
        intro L0 G12 w12 hall HL; clear H11
        have H12 : St w.heap.size w w12 [(b3, Obj.cells (Value.cells (svn (xw a (wd s z m) (i + 1)))) 26 (0, 0)), (b, Obj.cells cur_20 5 fz)] := by have e19 := hall 19 (Nat.le_of_ble_eq_true (by kernel_rfl)); have hS := D2.StE.st HL.1; simp only [e19, cond_true, D2.pres] at hS; exact hS
        clear HL hall
        show WP _ _ _ _ _ _
        refine g_reg0 [0, 1, 2] (by kernel_rfl) ?_
        refine s_val (some 42) (.int .i64 ((i : Nat) : Int)) (fun w => by kernel_rfl) (by kernel_rfl) ?_
        refine s_valE (some 43) (.int .i64 (IntKind.i64.wrap (((i : Nat) : Int) + 1))) (.int .i64 ((i + 1 : Nat) : Int)) (fun w => by kernel_rfl) (int_eq (wrapAdd_i64 (a := i) (b := 1) (by omega))) (by kernel_rfl) ?_
        refine s_val (some 6) (.int .i64 ((i + 1 : Nat) : Int)) (fun w => by kernel_rfl) (by kernel_rfl) ?_
        refine s_nil ?_
        show ∃ m, _ ∧ _
        exact ⟨_, (by omega), (i + 1), rfl, (by omega), H12, (Is.of ⟨(by kernel_rfl), (by kernel_rfl), (by kernel_rfl), (by kernel_rfl), (by kernel_rfl), (by kernel_rfl), (by kernel_rfl), (by kernel_rfl), trivial⟩)⟩
      · skip
        refine s_valE (some 41) (.bool (decide (((i : Nat) : Int) < 17))) (.bool false) (fun w => by kernel_rfl) (bool_eq (decide_eq_false (by omega))) (by kernel_rfl) ?_
        refine s_nil ?_
        refine g_cond_f (by kernel_rfl) (by kernel_rfl) ?_
        refine g_exit 4 (by kernel_rfl) ?_
        show WP _ _ _ _ _ _
        refine g_reg0 [0, 1, 2] (by kernel_rfl) ?_
        refine s_load H11 (some 63) 26 (.tmp 4) 0 b3 (Value.cells (svn (xw a (wd s z m) i))) 26 (0, 0) (by kernel_rfl) (by kernel_rfl) (by kernel_rfl) (by kernel_rfl) (by kernel_rfl) ?_
        refine s_call H11 (some 64) 11 #[svn (xw a (wd s z m) i)] (svn (mix (xw a (wd s z m) i))) (mixR_fn (xw a (wd s z m) i)) (fun w => by kernel_rfl) (by kernel_rfl) ?_
        intro w13 H13; clear H11
        refine s_store H13 0 [(b3, Obj.cells (Value.cells (svn (mix (xw a (wd s z m) i)))) 26 (0, 0)), (b, Obj.cells cur_20 5 fz)] 26 (.tmp 4) (.tmp 64) b3 (0) (Value.cells (svn (xw a (wd s z m) i))) (Value.cells (svn (mix (xw a (wd s z m) i)))) 26 (svn (mix (xw a (wd s z m) i))) (by kernel_rfl) (by kernel_rfl) (by kernel_rfl) (by kernel_rfl) (by kernel_rfl) (by kernel_rfl) (of_decide_eq_true (by kernel_rfl)) (by kernel_rfl) (by kernel_rfl) ?_
        intro w14 H14; clear H13
        refine s_nil ?_
        show WP _ _ _ _ _ _
        refine g_reg0 [0, 1, 2] (by kernel_rfl) ?_
        refine s_val (some 38) (.int .i64 ((136 * m : Nat) : Int)) (fun w => by kernel_rfl) (by kernel_rfl) ?_
        refine s_valE (some 39) (.int .i64 (IntKind.i64.wrap (((136 * m : Nat) : Int) + 136))) (.int .i64 (((136 * m) + 136 : Nat) : Int)) (fun w => by kernel_rfl) (int_eq (wrapAdd_i64 (a := 136 * m) (b := 136) (by omega))) (by kernel_rfl) ?_
        refine s_val (some 5) (.int .i64 (((136 * m) + 136 : Nat) : Int)) (fun w => by kernel_rfl) (by kernel_rfl) ?_
        refine s_nil ?_
        rw [show (((136 * m) + 136 : Nat) : Int) = ((136 * (m + 1) : Nat) : Int) from by omega]
        obtain rfl : i = 17 := by omega
        show ∃ m, _ ∧ _
        exact ⟨_, (by omega), (mix (xw a (wd s z m) 17)), (m + 1), rfl, (by omega), (mix_len (xw_len _ _ _)), (block_go s z m a ha ht (by omega)), H14, (Is.of ⟨(by kernel_rfl), (by kernel_rfl), (by kernel_rfl), (by kernel_rfl), (by kernel_rfl), (by kernel_rfl), trivial⟩)⟩
    · skip
      refine s_valE (some 37) (.bool (decide (((136 * m : Nat) : Int) < ((n : Nat) : Int)))) (.bool false) (fun w => by kernel_rfl) (bool_eq (decide_eq_false (by omega))) (by kernel_rfl) ?_
      refine s_nil ?_
      refine g_cond_f (by kernel_rfl) (by kernel_rfl) ?_
      refine g_exit 2 (by kernel_rfl) ?_
      show WP _ _ _ _ _ _
      refine g_sreg [0, 1] (by kernel_rfl) (by kernel_rfl) ?_
      refine s_new H10 (some 65) (fun b => .slice (some ⟨b, 0, none⟩) 0 0) #[] 5 (fun w => by kernel_rfl) (by kernel_rfl) ?_
      intro b4 w15 H15; clear H10
      refine s_val (some 7) (.slice (some ⟨b4, 0, none⟩) 0 0) (fun w => by kernel_rfl) (by kernel_rfl) ?_
      refine s_nil ?_
      refine g_seq (by kernel_rfl) ?_
      refine g_sreg [0] (by kernel_rfl) (by kernel_rfl) ?_
      refine s_val (some 8) (.int .i64 0) (fun w => by kernel_rfl) (by kernel_rfl) ?_
      refine s_nil ?_
      refine g_block 6 (by kernel_rfl) ?_
      have HD7 : St w.heap.size w w15 [(b4, Obj.cells #[] 5 (0, 0)), (b3, Obj.cells (Value.cells (svn a)) 26 (0, 0))] := H15.sub (List.Sublist.cons_cons _ (List.Sublist.cons_cons _ (List.Sublist.cons _ List.Sublist.slnil)))
      refine g_loop (by kernel_rfl) (fun mz ρ ww => ∃ (bo : Nat) (capo : Nat) (no : Nat) (curo : Array Value) (i : Nat), 32 - i = mz ∧ (no = i) ∧ (Rw 1 curo capo no (cellsB (outK a i))) ∧ (i ≤ 32) ∧ St w.heap.size w ww [(bo, Obj.cells curo 5 (0, 0)), (b3, Obj.cells (Value.cells (svn a)) 26 (0, 0))] ∧ Is [(0, .string s), (2, .string (⟨#[]⟩)), (3, .slice (some ⟨b, 0, none⟩) n cap), (4, .pointer (some ⟨b3, 0, none⟩)), (5, .int .i64 ((136 * m : Nat) : Int)), (7, .slice (some ⟨bo, 0, none⟩) no capo), (8, .int .i64 ((i : Nat) : Int)), (17, .bool false), (37, .bool false)] ρ) (32 - 0) ⟨b4, 0, 0, #[], 0, rfl, rfl, (Rw.lit #[] 0 rfl (by unfold maxLen; omega)), (by omega), HD7, (Is.of ⟨(by kernel_rfl), (by kernel_rfl), (by kernel_rfl), (by kernel_rfl), (by kernel_rfl), (by kernel_rfl), (by kernel_rfl), (by kernel_rfl), (by kernel_rfl), trivial⟩)⟩ ?_
      clear HD7
      rintro _ _ w16 ⟨bo, capo, no, curo, i, rfl, hno, hro, hi, H16, _, rfl⟩
      refine g_seq (by kernel_rfl) ?_
      refine g_sreg [0, 1] (by kernel_rfl) (by kernel_rfl) ?_
      refine s_val (some 66) (.int .i64 ((i : Nat) : Int)) (fun w => by kernel_rfl) (by kernel_rfl) ?_
      by_cases hc8 : (i : Nat) < 32
      · skip
        refine s_valE (some 67) (.bool (decide (((i : Nat) : Int) < 32))) (.bool true) (fun w => by kernel_rfl) (bool_eq (decide_eq_true (by omega))) (by kernel_rfl) ?_
        refine s_nil ?_
        refine g_cond_t (by kernel_rfl) (by kernel_rfl) ?_
        refine g_skip (by kernel_rfl) ?_
        show WP _ _ _ _ _ _
        refine g_seq (by kernel_rfl) ?_
        refine g_block 7 (by kernel_rfl) ?_
        refine g_reg0 [0, 1, 2, 3, 4, 5, 6, 7, 8, 9, 10, 11, 12, 13, 14] (by kernel_rfl) ?_
        refine s_val (some 70) (.slice (some ⟨bo, 0, none⟩) no capo) (fun w => by kernel_rfl) (by kernel_rfl) ?_
        refine s_val (some 71) (.int .i64 ((i : Nat) : Int)) (fun w => by kernel_rfl) (by kernel_rfl) ?_
        refine s_valE (some 72) (.int .i64 (IntKind.i64.wrap (((i : Nat) : Int).tdiv 8))) (.int .i64 ((i / 8 : Nat) : Int)) (fun w => by kernel_rfl) (int_eq (quoN_i64 (a := i) (b := 8) (by omega))) (by kernel_rfl) ?_
        refine s_op (some 73) _ (.pointer (some ⟨b3, 0 + (i / 8) * 1, none⟩)) (by kernel_rfl) (by kernel_rfl) (fun o w ho => idxA_run (kd := .i64) (t := 26) (n := 25) (size := 1) (by kernel_rfl) (x := (.tmp 4)) (y := (.tmp 72)) b3 0 (i / 8) ho (by kernel_rfl) (by kernel_rfl) (by omega) w) ?_
        refine s_load1 H16 (some 74) 25 (.tmp 73) 1 b3 (0 + (i / 8) * 1) (Value.cells (svn a)) 26 (0, 0) (.int .u64 ((BitVec.toNat (nth a (i / 8)) : Nat) : Int)) (by kernel_rfl) (by kernel_rfl) (by kernel_rfl) (by kernel_rfl) (by kernel_rfl) (svn_at a (i / 8) _ (by omega) (by omega)) ?_
        refine s_val (some 75) (.int .i64 ((i : Nat) : Int)) (fun w => by kernel_rfl) (by kernel_rfl) ?_
        refine s_valE (some 76) (.int .i64 (Int.tmod ((i : Nat) : Int) 8)) (.int .i64 ((i % 8 : Nat) : Int)) (fun w => by kernel_rfl) (int_eq (remN i 8)) (by kernel_rfl) ?_
        refine s_valE (some 77) (.int .i64 (IntKind.i64.wrap (8 * ((i % 8 : Nat) : Int)))) (.int .i64 ((8 * (i % 8) : Nat) : Int)) (fun w => by kernel_rfl) (int_eq (wrapMul_i64 (a := 8) (b := i % 8) (by omega))) (by kernel_rfl) ?_
        refine s_valE (some 78) (.int .u64 (IntKind.u64.wrap (((8 * (i % 8) : Nat) : Int)))) (.int .u64 ((8 * (i % 8) : Nat) : Int)) (fun w => by kernel_rfl) (int_eq (wrapN_u64 (a := 8 * (i % 8)) (by omega))) (by kernel_rfl) ?_
        refine s_valE (some 79) (.int .u64 (Int.fdiv (((BitVec.toNat (nth a (i / 8)) : Nat) : Int)) (2 ^ (min (8 * (i % 8)) 64)))) (.int .u64 ((BitVec.toNat ((nth a (i / 8)) >>> (8 * (i % 8))) : Nat) : Int)) (fun w => by kernel_rfl) (bv_shr_u64 (nth a (i / 8)) (8 * (i % 8))) (by kernel_rfl) ?_
        refine s_valE (some 80) (.int .u64 (Int.tmod (((BitVec.toNat ((nth a (i / 8)) >>> (8 * (i % 8))) : Nat) : Int)) (256))) (.int .u64 ((BitVec.toNat (((nth a (i / 8)) >>> (8 * (i % 8))) % (256 : BitVec 64)) : Nat) : Int)) (fun w => by kernel_rfl) (bv_rem_u64 ((nth a (i / 8)) >>> (8 * (i % 8))) (256 : BitVec 64)) (by kernel_rfl) ?_
        refine s_valE (some 81) (.int .u8 (IntKind.u8.wrap (((BitVec.toNat (((nth a (i / 8)) >>> (8 * (i % 8))) % (256 : BitVec 64)) : Nat) : Int)))) (.int .u8 ((BitVec.toNat (BitVec.setWidth 8 (((nth a (i / 8)) >>> (8 * (i % 8))) % (256 : BitVec 64))) : Nat) : Int)) (fun w => by kernel_rfl) (bv_conv_u8 (((nth a (i / 8)) >>> (8 * (i % 8))) % (256 : BitVec 64))) (by kernel_rfl) ?_
        refine s_new H16 (some 82) (fun b => .slice (some ⟨b, 0, none⟩) 1 1) #[.int .u8 ((BitVec.toNat (BitVec.setWidth 8 (((nth a (i / 8)) >>> (8 * (i % 8))) % (256 : BitVec 64))) : Nat) : Int)] 5 (fun w => by kernel_rfl) (by kernel_rfl) ?_
        intro b5 w17 H17; clear H16
        refine s_append H17 (some 83) 32 5 1 1 (.tmp 70) (.tmp 82) 1 0 bo b5 no 1 capo 1 curo #[.int .u8 ((BitVec.toNat (BitVec.setWidth 8 (((nth a (i / 8)) >>> (8 * (i % 8))) % (256 : BitVec 64))) : Nat) : Int)] 5 (0, 0) (cellsB (outK a i)) ([.int .u8 ((BitVec.toNat (BitVec.setWidth 8 (((nth a (i / 8)) >>> (8 * (i % 8))) % (256 : BitVec 64))) : Nat) : Int)]) (fun b_24 cur_26 => [(b5, Obj.cells #[.int .u8 ((BitVec.toNat (BitVec.setWidth 8 (((nth a (i / 8)) >>> (8 * (i % 8))) % (256 : BitVec 64))) : Nat) : Int)] 5 (0, 0)), (b_24, Obj.cells cur_26 5 (0, 0)), (b3, Obj.cells (Value.cells (svn a)) 26 (0, 0))]) (by kernel_rfl) (by kernel_rfl) (by kernel_rfl) (by kernel_rfl) (by kernel_rfl) hro (by kernel_rfl) (by kernel_rfl) (by rfl) (by rfl) (by intro u hu; simp at hu; first | exact hu.elim | (rcases hu with rfl | rfl | rfl | rfl <;> rfl) | (rcases hu with rfl | rfl <;> rfl) | (subst hu; rfl)) (by omega) (by unfold maxLen; omega) (fun _ _ => by kernel_rfl) ?_
        intro b_24 cap_25 cur_26 w18 H18 hr_27; clear H17
        have hr_27t : Rw 1 cur_26 cap_25 (no + 1) (cellsB (outK a i ++ [UInt8.ofBitVec (BitVec.setWidth 8 (((nth a (i / 8)) >>> (8 * (i % 8))) % (256 : BitVec 64)))])) := by rw [cellsB_append]; exact hr_27
        have hr_27n : no + 1 = List.length (outK a i ++ [UInt8.ofBitVec (BitVec.setWidth 8 (((nth a (i / 8)) >>> (8 * (i % 8))) % (256 : BitVec 64)))]) := by have h0 : no = List.length (outK a i) := (by rw [outK_len]; exact hno); rw [List.length_append, ← h0]; rfl
        refine s_val (some 7) (.slice (some ⟨b_24, 0, none⟩) (no + 1) cap_25) (fun w => by kernel_rfl) (by kernel_rfl) ?_
        refine s_nil ?_
        show WP _ _ _ _ _ _
        refine g_reg0 [0, 1, 2] (by kernel_rfl) ?_
        refine s_val (some 68) (.int .i64 ((i : Nat) : Int)) (fun w => by kernel_rfl) (by kernel_rfl) ?_
        refine s_valE (some 69) (.int .i64 (IntKind.i64.wrap (((i : Nat) : Int) + 1))) (.int .i64 ((i + 1 : Nat) : Int)) (fun w => by kernel_rfl) (int_eq (wrapAdd_i64 (a := i) (b := 1) (by omega))) (by kernel_rfl) ?_
        refine s_val (some 8) (.int .i64 ((i + 1 : Nat) : Int)) (fun w => by kernel_rfl) (by kernel_rfl) ?_
        refine s_nil ?_
        have hrw : Rw 1 cur_26 cap_25 (no + 1) (cellsB (outK a (i + 1))) := by rw [outK_succ]; have h0 := hr_27t; rw [byteK] at h0; exact h0
        have HD9 : St w.heap.size w w18 [(b_24, Obj.cells cur_26 5 (0, 0)), (b3, Obj.cells (Value.cells (svn a)) 26 (0, 0))] := H18.sub (List.Sublist.cons _ (List.Sublist.cons_cons _ (List.Sublist.cons_cons _ List.Sublist.slnil)))
        show ∃ m, _ ∧ _
        exact ⟨_, (by omega), b_24, cap_25, no + 1, cur_26, (i + 1), rfl, (by omega), hrw, (by omega), HD9, (Is.of ⟨(by kernel_rfl), (by kernel_rfl), (by kernel_rfl), (by kernel_rfl), (by kernel_rfl), (by kernel_rfl), (by kernel_rfl), (by kernel_rfl), (by kernel_rfl), trivial⟩)⟩
      · skip
        refine s_valE (some 67) (.bool (decide (((i : Nat) : Int) < 32))) (.bool false) (fun w => by kernel_rfl) (bool_eq (decide_eq_false (by omega))) (by kernel_rfl) ?_
        refine s_nil ?_
        refine g_cond_f (by kernel_rfl) (by kernel_rfl) ?_
        refine g_exit 6 (by kernel_rfl) ?_
        show WP _ _ _ _ _ _
        refine g_sreg [0, 1, 2] (by kernel_rfl) (by kernel_rfl) ?_
        refine s_val (some 84) (.slice (some ⟨bo, 0, none⟩) no capo) (fun w => by kernel_rfl) (by kernel_rfl) ?_
        refine s_bytesStrB H16 (some 85) 32 9 5 (.tmp 84) 0 bo no capo curo 5 (0, 0) (outK a i) (by kernel_rfl) (by kernel_rfl) (by kernel_rfl) (by kernel_rfl) (by kernel_rfl) (by kernel_rfl) (by kernel_rfl) hro ?_
        refine s_val (some 2) (.string (strB (outK a i))) (fun w => by kernel_rfl) (by kernel_rfl) ?_
        refine s_nil ?_
        refine g_ret (by kernel_rfl) ?_
        show ∃ vs, Res _ _ _ _ vs ∧ _
        refine ⟨[.string (strB (outK a i))], (.tmp (.string (strB (outK a i))) (by kernel_rfl) .nil), ?_, H16.below⟩
        obtain rfl : i = 32 := by omega
        exact congrArg (fun x => Value.string (strB x)) (sum_done s z m a hz2 ht (by omega))

set_option maxRecDepth 100000 in
set_option maxHeartbeats 2000000 in
theorem keccakSums_fn (s : ByteArray) : FnP Tryd.prog 3 #[.string s] (Marks) (.bool true) := by
  refine FnP.intro (c := codeOf Tryd.f3) [.tmp 2] 16 Tryd.func3 (by kernel_rfl) (by kernel_rfl) (by kernel_rfl) fun w hpre => ?_
  have H0 := St.start w
  refine g_sreg [0] (by kernel_rfl) (by kernel_rfl) ?_
  refine s_val (some 2) (.bool false) (fun w => by kernel_rfl) (by kernel_rfl) ?_
  refine s_nil ?_
  refine g_sreg [0, 1, 2, 3, 4, 5] (by kernel_rfl) (by kernel_rfl) ?_
  refine s_val (some 3) (.string s) (fun w => by kernel_rfl) (by kernel_rfl) ?_
  refine s_val (some 4) (.string s) (fun w => by kernel_rfl) (by kernel_rfl) ?_
  refine s_val (some 5) (.int .i64 ((ByteArray.size s : Nat) : Int)) (fun w => by kernel_rfl) (by kernel_rfl) ?_
  refine s_valE (some 6) (.int .i64 (if (1000 : Int) < (((ByteArray.size s : Nat) : Int) : Int) then (1000 : Int) else (((ByteArray.size s : Nat) : Int) : Int))) (.int .i64 ((min (ByteArray.size s) 1000 : Nat) : Int)) (fun w => by kernel_rfl) (int_eq (minN (ByteArray.size s) 1000)) (by kernel_rfl) ?_
  refine s_op (some 7) _ (.string (ByteArray.extract s 0 (min (ByteArray.size s) 1000))) (by kernel_rfl) (by kernel_rfl) (fun o w ho => scut_run (t := 9) (kd := .i64) (by kernel_rfl) (x := (.tmp 3)) (y := (.tmp 6)) s (min (ByteArray.size s) 1000) ho (by kernel_rfl) (by kernel_rfl) (by omega) w) ?_
  refine s_val (some 0) (.string (ByteArray.extract s 0 (min (ByteArray.size s) 1000))) (fun w => by kernel_rfl) (by kernel_rfl) ?_
  refine s_nil ?_
  refine g_sreg [0, 1, 2, 3, 4, 5, 6, 7, 8] (by kernel_rfl) (by kernel_rfl) ?_
  have hS1 : ByteArray.size (ByteArray.extract s 0 (min (ByteArray.size s) 1000)) ≤ 1000 := by rw [← tl_len, tl_extract, List.length_drop, List.length_take, tl_len]; omega
  have hS : ByteArray.size (ByteArray.extract s 0 (min (ByteArray.size s) 1000)) < 4611686018427387904 := by omega
  refine s_callP H0 (some 8) 7 #[] (Marks) (.bool true) alive_fn (Marks.old H0 rfl hpre) (fun w => by kernel_rfl) (by kernel_rfl) ?_
  intro w1 H1; clear H0
  refine s_val (some 9) (.bool true) (fun w => by kernel_rfl) (by kernel_rfl) ?_
  refine s_val (some 10) (.string (ByteArray.extract s 0 (min (ByteArray.size s) 1000))) (fun w => by kernel_rfl) (by kernel_rfl) ?_
  refine s_callP H1 (some 11) 8 #[.string (ByteArray.extract s 0 (min (ByteArray.size s) 1000))] (Marks) (.string (strB (sumB (tl (ByteArray.extract s 0 (min (ByteArray.size s) 1000)))))) (sum_fn (ByteArray.extract s 0 (min (ByteArray.size s) 1000)) (by first | assumption | decide | omega)) (Marks.old H1 rfl hpre) (fun w => by kernel_rfl) (by kernel_rfl) ?_
  intro w2 H2; clear H1
  refine s_val (some 12) (.string (ByteArray.extract s 0 (min (ByteArray.size s) 1000))) (fun w => by kernel_rfl) (by kernel_rfl) ?_
  refine s_call H2 (some 13) 9 #[.string (ByteArray.extract s 0 (min (ByteArray.size s) 1000))] (.string (strB (sumB (tl (ByteArray.extract s 0 (min (ByteArray.size s) 1000)))))) (sumR_fn (ByteArray.extract s 0 (min (ByteArray.size s) 1000)) (by omega)) (fun w => by kernel_rfl) (by kernel_rfl) ?_
  intro w3 H3; clear H2
  refine s_valE (some 14) (.bool (ByteArray.toList (strB (sumB (tl (ByteArray.extract s 0 (min (ByteArray.size s) 1000))))) == ByteArray.toList (strB (sumB (tl (ByteArray.extract s 0 (min (ByteArray.size s) 1000))))))) (.bool true) (fun w => by kernel_rfl) (bool_eq (str_self (strB (sumB (tl (ByteArray.extract s 0 (min (ByteArray.size s) 1000))))))) (by kernel_rfl) ?_
  refine s_val (some 15) (.bool true) (fun w => by kernel_rfl) (by kernel_rfl) ?_
  refine s_val (some 2) (.bool true) (fun w => by kernel_rfl) (by kernel_rfl) ?_
  refine s_nil ?_
  refine g_ret (by kernel_rfl) ?_
  show ∃ vs, Res _ _ _ _ vs ∧ _
  refine ⟨[.bool true], (.tmp (.bool true) (by kernel_rfl) .nil), ?_, H3.below⟩
  rfl
end Go.Proofs.YtddhadddpllbcaaDoor
