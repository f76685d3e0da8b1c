/-
  The reference: a sum.
-/
import Derived.Test.YtjhldipeicpoeaaDoorProg
import Derived.Test.YtjhldipeicpoeaaDoorShaM
import Derived.Test.YtjhldipeicpoeaaDoorShaSM
namespace Go.Proofs.YtjhldipeicpoeaaDoor
open Go Go.RowKit Go.Proofs.Sha
set_option linter.unusedVariables false
set_option maxRecDepth 100000 in
set_option maxHeartbeats 2000000 in
theorem sumR_fn (s : ByteArray) (hsz : ByteArray.size s ≤ 10000000000000) (bk nk ck : Nat) (curK : Array Value) (hnk : nk = 64) (hK : Rw 1 curK ck nk (cellsW roots)) : FnP Tryd.prog 10 #[.string s, .slice (some ⟨bk, 0, none⟩) nk ck] (fun w => w.heap[bk]? = some (.cells curK 30 (0, 0))) (.string (strB (sumB (tl s)))) := by
  refine FnP.intro (c := codeOf Tryd.f10) [.tmp 4] 80 Tryd.func10 (by kernel_rfl) (by kernel_rfl) (by kernel_rfl) fun w hpre => ?_
  have H0 := St.start w
  refine g_sreg [0] (by kernel_rfl) (by kernel_rfl) ?_
  refine s_val (some 4) (.string (⟨#[]⟩)) (fun w => by kernel_rfl) (by kernel_rfl) ?_
  refine s_nil ?_
  refine g_sreg [0, 1, 2] (by kernel_rfl) (by kernel_rfl) ?_
  refine s_val (some 12) (.string s) (fun w => by kernel_rfl) (by kernel_rfl) ?_
  refine s_strBytes H0 (some 13) 9 38 5 (.tmp 12) s (by kernel_rfl) (by kernel_rfl) (by kernel_rfl) (by kernel_rfl) (by kernel_rfl) (by kernel_rfl) (by unfold maxLen; omega) ?_
  intro b_1 cap_2 cur_3 fz_4 w1 H1 hf_5 hr_6; clear H0
  refine s_val (some 5) (.slice (some ⟨b_1, 0, none⟩) (ByteArray.size s) cap_2) (fun w => by kernel_rfl) (by kernel_rfl) ?_
  refine s_nil ?_
  refine g_sreg [0, 1, 2, 3] (by kernel_rfl) (by kernel_rfl) ?_
  refine s_val (some 14) (.slice (some ⟨b_1, 0, none⟩) (ByteArray.size s) cap_2) (fun w => by kernel_rfl) (by kernel_rfl) ?_
  refine s_new H1 (some 15) (fun b => .slice (some ⟨b, 0, none⟩) 1 1) #[.int .u8 128] 5 (fun w => by kernel_rfl) (by kernel_rfl) ?_
  intro b1 w2 H2; clear H1
  refine s_appendM H2 (some 16) 38 5 1 1 (.tmp 14) (.tmp 15) 1 0 b_1 b1 (ByteArray.size s) 1 cap_2 1 cur_3 #[.int .u8 128] fz_4 5 (0, 0) (cellsB (tl s)) ([.int .u8 128]) (fun b_7 cur_9 fz_10 => [(b1, Obj.cells #[.int .u8 128] 5 (0, 0)), (b_7, Obj.cells cur_9 5 fz_10)]) (by kernel_rfl) (by kernel_rfl) (by kernel_rfl) (by kernel_rfl) (by kernel_rfl) hf_5 hr_6 (by kernel_rfl) (by kernel_rfl) (by rfl) (by rfl) (by intro u hu; simp at hu; first | exact hu.elim | (rcases hu with rfl | rfl | rfl | rfl <;> rfl) | (rcases hu with rfl | rfl <;> rfl) | (subst hu; rfl)) (by omega) (by unfold maxLen; omega) (fun _ _ _ => by kernel_rfl) ?_
  intro b_7 cap_8 cur_9 fz_10 w3 H3 hf_11 hr_12; clear H2
  have hr_12t : Rw 1 cur_9 cap_8 ((ByteArray.size s) + 1) (cellsB (tl s ++ [UInt8.ofBitVec (128 : BitVec 8)])) := by rw [cellsB_append]; exact hr_12
  have hr_12n : (ByteArray.size s) + 1 = List.length (tl s ++ [UInt8.ofBitVec (128 : BitVec 8)]) := by have h0 : ByteArray.size s = List.length (tl s) := rfl; rw [List.length_append, ← h0]; rfl
  refine s_val (some 5) (.slice (some ⟨b_7, 0, none⟩) ((ByteArray.size s) + 1) cap_8) (fun w => by kernel_rfl) (by kernel_rfl) ?_
  refine s_nil ?_
  refine g_seq (by kernel_rfl) ?_
  refine g_block 0 (by kernel_rfl) ?_
  have HD1 : St w.heap.size w w3 [(b_7, Obj.cells cur_9 5 fz_10)] := H3.sub (List.Sublist.cons _ (List.Sublist.cons_cons _ List.Sublist.slnil))
  refine g_loop (by kernel_rfl) (fun mz ρ ww => ∃ (b : Nat) (cap : Nat) (n : Nat) (cur : Array Value) (fz : Nat × Nat) (z : Nat), 63 - z = mz ∧ (n = List.length (padL s z)) ∧ (Rw 1 cur cap n (cellsB (padL s z))) ∧ (Clr fz cur) ∧ (z ≤ 63 - (ByteArray.size s + 8) % 64) ∧ St w.heap.size w ww [(b, Obj.cells cur 5 fz)] ∧ Is [(0, .string s), (1, .slice (some ⟨bk, 0, none⟩) nk ck), (4, .string (⟨#[]⟩)), (5, .slice (some ⟨b, 0, none⟩) n cap)] ρ) (63 - 0) ⟨b_7, cap_8, (ByteArray.size s) + 1, cur_9, fz_10, 0, rfl, hr_12n, hr_12t, hf_11, (by omega), HD1, (Is.of ⟨(by kernel_rfl), (by kernel_rfl), (by kernel_rfl), (by kernel_rfl), trivial⟩)⟩ ?_
  clear HD1
  rintro _ _ w4 ⟨b, cap, n, cur, fz, z, rfl, hn, hr, hf, hz, H4, _, rfl⟩
  have hlz := padL_len s z; rw [← hn] at hlz
  refine g_seq (by kernel_rfl) ?_
  refine g_sreg [0, 1, 2, 3] (by kernel_rfl) (by kernel_rfl) ?_
  refine s_val (some 17) (.slice (some ⟨b, 0, none⟩) n cap) (fun w => by kernel_rfl) (by kernel_rfl) ?_
  refine s_val (some 18) (.int .i64 ((n : Nat) : Int)) (fun w => by kernel_rfl) (by kernel_rfl) ?_
  refine s_valE (some 19) (.int .i64 (Int.tmod ((n : Nat) : Int) 64)) (.int .i64 ((n % 64 : Nat) : Int)) (fun w => by kernel_rfl) (int_eq (remN n 64)) (by kernel_rfl) ?_
  by_cases hc2 : (n % 64 : Nat) ≠ 56
  · skip
    refine s_valE (some 20) (.bool (!(((n % 64 : Nat) : Int) == 56))) (.bool true) (fun w => by kernel_rfl) (bool_eq (by rw [beq_eq_false_iff_ne.2 (by omega)]; rfl)) (by kernel_rfl) ?_
    refine s_nil ?_
    refine g_cond_t (by kernel_rfl) (by kernel_rfl) ?_
    refine g_skip (by kernel_rfl) ?_
    show WP _ _ _ _ _ _
    refine g_block 1 (by kernel_rfl) ?_
    refine g_reg0 [0, 1, 2, 3] (by kernel_rfl) ?_
    refine s_val (some 21) (.slice (some ⟨b, 0, none⟩) n cap) (fun w => by kernel_rfl) (by kernel_rfl) ?_
    refine s_new H4 (some 22) (fun b => .slice (some ⟨b, 0, none⟩) 1 1) #[.int .u8 0] 5 (fun w => by kernel_rfl) (by kernel_rfl) ?_
    intro b2 w5 H5; clear H4
    refine s_appendM H5 (some 23) 38 5 1 1 (.tmp 21) (.tmp 22) 1 0 b b2 n 1 cap 1 cur #[.int .u8 0] fz 5 (0, 0) (cellsB (padL s z)) ([.int .u8 0]) (fun b_13 cur_15 fz_16 => [(b2, Obj.cells #[.int .u8 0] 5 (0, 0)), (b_13, Obj.cells cur_15 5 fz_16)]) (by kernel_rfl) (by kernel_rfl) (by kernel_rfl) (by kernel_rfl) (by kernel_rfl) hf hr (by kernel_rfl) (by kernel_rfl) (by rfl) (by rfl) (by intro u hu; simp at hu; first | exact hu.elim | (rcases hu with rfl | rfl | rfl | rfl <;> rfl) | (rcases hu with rfl | rfl <;> rfl) | (subst hu; rfl)) (by omega) (by unfold maxLen; omega) (fun _ _ _ => by kernel_rfl) ?_
    intro b_13 cap_14 cur_15 fz_16 w6 H6 hf_17 hr_18; clear H5
    have hr_18t : Rw 1 cur_15 cap_14 (n + 1) (cellsB (padL s z ++ [UInt8.ofBitVec (0 : BitVec 8)])) := by rw [cellsB_append]; exact hr_18
    have hr_18n : n + 1 = List.length (padL s z ++ [UInt8.ofBitVec (0 : BitVec 8)]) := by have h0 : n = List.length (padL s z) := hn; rw [List.length_append, ← h0]; rfl
    refine s_val (some 5) (.slice (some ⟨b_13, 0, none⟩) (n + 1) cap_14) (fun w => by kernel_rfl) (by kernel_rfl) ?_
    refine s_nil ?_
    have hrw := hr_18t; rw [padL_succ] at hrw
    have HD3 : St w.heap.size w w6 [(b_13, Obj.cells cur_15 5 fz_16)] := H6.sub (List.Sublist.cons _ (List.Sublist.cons_cons _ List.Sublist.slnil))
    show ∃ m, _ ∧ _
    exact ⟨_, (by omega), b_13, cap_14, n + 1, cur_15, fz_16, (z + 1), rfl, (by rw [padL_len]; omega), hrw, hf_17, (by omega), HD3, (Is.of ⟨(by kernel_rfl), (by kernel_rfl), (by kernel_rfl), (by kernel_rfl), trivial⟩)⟩
  · skip
    refine s_valE (some 20) (.bool (!(((n % 64 : Nat) : Int) == 56))) (.bool false) (fun w => by kernel_rfl) (bool_eq (by rw [beq_iff_eq.2 (by omega)]; rfl)) (by kernel_rfl) ?_
    refine s_nil ?_
    refine g_cond_f (by kernel_rfl) (by kernel_rfl) ?_
    refine g_exit 0 (by kernel_rfl) ?_
    show WP _ _ _ _ _ _
    refine g_sreg [0, 1, 2, 3, 4] (by kernel_rfl) (by kernel_rfl) ?_
    refine s_val (some 24) (.string s) (fun w => by kernel_rfl) (by kernel_rfl) ?_
    refine s_val (some 25) (.int .i64 ((ByteArray.size s : Nat) : Int)) (fun w => by kernel_rfl) (by kernel_rfl) ?_
    refine s_valE (some 26) (.int .u64 (IntKind.u64.wrap (((ByteArray.size s : Nat) : Int)))) (.int .u64 ((ByteArray.size s : Nat) : Int)) (fun w => by kernel_rfl) (int_eq (wrapN_u64 (a := ByteArray.size s) (by omega))) (by kernel_rfl) ?_
    refine s_valE (some 27) (.int .u64 (IntKind.u64.wrap (((ByteArray.size s : Nat) : Int) * 8))) (.int .u64 (((ByteArray.size s) * 8 : Nat) : Int)) (fun w => by kernel_rfl) (int_eq (wrapMul_u64 (a := ByteArray.size s) (b := 8) (by omega))) (by kernel_rfl) ?_
    refine s_val (some 6) (.int .u64 (((ByteArray.size s) * 8 : Nat) : Int)) (fun w => by kernel_rfl) (by kernel_rfl) ?_
    refine s_nil ?_
    refine g_seq (by kernel_rfl) ?_
    refine g_sreg [0] (by kernel_rfl) (by kernel_rfl) ?_
    refine s_val (some 7) (.int .i64 7) (fun w => by kernel_rfl) (by kernel_rfl) ?_
    refine s_nil ?_
    refine g_block 2 (by kernel_rfl) ?_
    have hz2 : z = 63 - (ByteArray.size s + 8) % 64 := by omega
    have hr2 := hr; have hn2 := hn; rw [padL_end s z hz2] at hr2 hn2
    refine g_loop (by kernel_rfl) (fun mz ρ ww => ∃ (b2 : Nat) (cap2 : Nat) (n2 : Nat) (cur2 : Array Value) (fz2 : Nat × Nat) (j : Nat), j = mz ∧ (n2 = List.length (tl s ++ tailI (ByteArray.size s) (8 - j))) ∧ (Rw 1 cur2 cap2 n2 (cellsB (tl s ++ tailI (ByteArray.size s) (8 - j)))) ∧ (Clr fz2 cur2) ∧ (j ≤ 8) ∧ St w.heap.size w ww [(b2, Obj.cells cur2 5 fz2)] ∧ Is [(0, .string s), (1, .slice (some ⟨bk, 0, none⟩) nk ck), (4, .string (⟨#[]⟩)), (5, .slice (some ⟨b2, 0, none⟩) n2 cap2), (6, .int .u64 (((ByteArray.size s) * 8 : Nat) : Int)), (7, .int .i64 (((j : Nat) : Int) - 1)), (20, .bool false)] ρ) 8 ⟨b, cap, n, cur, fz, 8, rfl, hn2, hr2, hf, (by omega), H4, (Is.of ⟨(by kernel_rfl), (by kernel_rfl), (by kernel_rfl), (by kernel_rfl), (by kernel_rfl), (by kernel_rfl), (by kernel_rfl), trivial⟩)⟩ ?_
    clear H4
    rintro _ _ w7 ⟨b2, cap2, n2, cur2, fz2, j, rfl, hn2, hr2, hf2, hj, H7, _, rfl⟩
    refine g_seq (by kernel_rfl) ?_
    refine g_sreg [0, 1] (by kernel_rfl) (by kernel_rfl) ?_
    refine s_val (some 28) (.int .i64 (((j : Nat) : Int) - 1)) (fun w => by kernel_rfl) (by kernel_rfl) ?_
    by_cases hc4 : (((j : Nat) : Int) - 1 : Int) ≥ 0
    · skip
      refine s_valE (some 29) (.bool (decide (0 ≤ ((j : Nat) : Int) - 1))) (.bool true) (fun w => by kernel_rfl) (bool_eq (decide_eq_true (by omega))) (by kernel_rfl) ?_
      refine s_nil ?_
      refine g_cond_t (by kernel_rfl) (by kernel_rfl) ?_
      refine g_skip (by kernel_rfl) ?_
      show WP _ _ _ _ _ _
      refine g_seq (by kernel_rfl) ?_
      refine g_block 3 (by kernel_rfl) ?_
      refine g_reg0 [0, 1, 2, 3, 4, 5, 6, 7, 8, 9, 10] (by kernel_rfl) ?_
      rw [show (((j : Nat) : Int) - 1) = ((j - 1 : Nat) : Int) from by omega]
      have hl2 := hn2; rw [List.length_append, tl_len, tailI_len] at hl2
      refine s_val (some 32) (.slice (some ⟨b2, 0, none⟩) n2 cap2) (fun w => by kernel_rfl) (by kernel_rfl) ?_
      refine s_val (some 33) (.int .u64 (((ByteArray.size s) * 8 : Nat) : Int)) (fun w => by kernel_rfl) (by kernel_rfl) ?_
      refine s_val (some 34) (.int .i64 ((j - 1 : Nat) : Int)) (fun w => by kernel_rfl) (by kernel_rfl) ?_
      refine s_valE (some 35) (.int .i64 (IntKind.i64.wrap (8 * ((j - 1 : Nat) : Int)))) (.int .i64 ((8 * (j - 1) : Nat) : Int)) (fun w => by kernel_rfl) (int_eq (wrapMul_i64 (a := 8) (b := j - 1) (by omega))) (by kernel_rfl) ?_
      refine s_valE (some 36) (.int .u64 (IntKind.u64.wrap (((8 * (j - 1) : Nat) : Int)))) (.int .u64 ((8 * (j - 1) : Nat) : Int)) (fun w => by kernel_rfl) (int_eq (wrapN_u64 (a := 8 * (j - 1)) (by omega))) (by kernel_rfl) ?_
      refine s_valE (some 37) (.int .u64 (Int.fdiv (((ByteArray.size s) * 8 : Nat) : Int) (2 ^ (min (8 * (j - 1)) 64)))) (.int .u64 ((((ByteArray.size s) * 8) / 2 ^ (8 * (j - 1)) : Nat) : Int)) (fun w => by kernel_rfl) (int_eq (shr_min ((ByteArray.size s) * 8) (8 * (j - 1)) 64 (by omega))) (by kernel_rfl) ?_
      refine s_valE (some 38) (.int .u64 (Int.tmod ((((ByteArray.size s) * 8) / 2 ^ (8 * (j - 1)) : Nat) : Int) 256)) (.int .u64 (((((ByteArray.size s) * 8) / 2 ^ (8 * (j - 1))) % 256 : Nat) : Int)) (fun w => by kernel_rfl) (int_eq (remN (((ByteArray.size s) * 8) / 2 ^ (8 * (j - 1))) 256)) (by kernel_rfl) ?_
      refine s_valE (some 39) (.int .u8 (IntKind.u8.wrap ((((((ByteArray.size s) * 8) / 2 ^ (8 * (j - 1))) % 256 : Nat) : Int)))) (.int .u8 ((BitVec.toNat (BitVec.ofNat 8 ((((ByteArray.size s) * 8) / 2 ^ (8 * (j - 1))) % 256)) : Nat) : Int)) (fun w => by kernel_rfl) (bv_ofNat_u8 ((((ByteArray.size s) * 8) / 2 ^ (8 * (j - 1))) % 256)) (by kernel_rfl) ?_
      refine s_new H7 (some 40) (fun b => .slice (some ⟨b, 0, none⟩) 1 1) #[.int .u8 ((BitVec.toNat (BitVec.ofNat 8 ((((ByteArray.size s) * 8) / 2 ^ (8 * (j - 1))) % 256)) : Nat) : Int)] 5 (fun w => by kernel_rfl) (by kernel_rfl) ?_
      intro b3 w8 H8; clear H7
      refine s_appendM H8 (some 41) 38 5 1 1 (.tmp 32) (.tmp 40) 1 0 b2 b3 n2 1 cap2 1 cur2 #[.int .u8 ((BitVec.toNat (BitVec.ofNat 8 ((((ByteArray.size s) * 8) / 2 ^ (8 * (j - 1))) % 256)) : Nat) : Int)] fz2 5 (0, 0) (cellsB (tl s ++ tailI (ByteArray.size s) (8 - j))) ([.int .u8 ((BitVec.toNat (BitVec.ofNat 8 ((((ByteArray.size s) * 8) / 2 ^ (8 * (j - 1))) % 256)) : Nat) : Int)]) (fun b_19 cur_21 fz_22 => [(b3, Obj.cells #[.int .u8 ((BitVec.toNat (BitVec.ofNat 8 ((((ByteArray.size s) * 8) / 2 ^ (8 * (j - 1))) % 256)) : Nat) : Int)] 5 (0, 0)), (b_19, Obj.cells cur_21 5 fz_22)]) (by kernel_rfl) (by kernel_rfl) (by kernel_rfl) (by kernel_rfl) (by kernel_rfl) hf2 hr2 (by kernel_rfl) (by kernel_rfl) (by rfl) (by rfl) (by intro u hu; simp at hu; first | exact hu.elim | (rcases hu with rfl | rfl | rfl | rfl <;> rfl) | (rcases hu with rfl | rfl <;> rfl) | (subst hu; rfl)) (by omega) (by unfold maxLen; omega) (fun _ _ _ => by kernel_rfl) ?_
      intro b_19 cap_20 cur_21 fz_22 w9 H9 hf_23 hr_24; clear H8
      have hr_24t : Rw 1 cur_21 cap_20 (n2 + 1) (cellsB ((tl s ++ tailI (ByteArray.size s) (8 - j)) ++ [UInt8.ofBitVec (BitVec.ofNat 8 ((((ByteArray.size s) * 8) / 2 ^ (8 * (j - 1))) % 256))])) := by rw [cellsB_append]; exact hr_24
      have hr_24n : n2 + 1 = List.length ((tl s ++ tailI (ByteArray.size s) (8 - j)) ++ [UInt8.ofBitVec (BitVec.ofNat 8 ((((ByteArray.size s) * 8) / 2 ^ (8 * (j - 1))) % 256))]) := by have h0 : n2 = List.length (tl s ++ tailI (ByteArray.size s) (8 - j)) := hn2; rw [List.length_append, ← h0]; rfl
      refine s_val (some 5) (.slice (some ⟨b_19, 0, none⟩) (n2 + 1) cap_20) (fun w => by kernel_rfl) (by kernel_rfl) ?_
      refine s_nil ?_
      show WP _ _ _ _ _ _
      refine g_reg0 [0, 1, 2] (by kernel_rfl) ?_
      refine s_val (some 30) (.int .i64 ((j - 1 : Nat) : Int)) (fun w => by kernel_rfl) (by kernel_rfl) ?_
      refine s_valE (some 31) (.int .i64 (IntKind.i64.wrap (((j - 1 : Nat) : Int) - 1))) (.int .i64 (((j - 1 : Nat) : Int) - 1)) (fun w => by kernel_rfl) (int_eq (wrap_i64 (by omega) (by omega))) (by kernel_rfl) ?_
      refine s_val (some 7) (.int .i64 (((j - 1 : Nat) : Int) - 1)) (fun w => by kernel_rfl) (by kernel_rfl) ?_
      refine s_nil ?_
      have hrw := hr_24t; have hnw := hr_24n; rw [tail_go s j (by omega) (by omega)] at hrw hnw
      have HD5 : St w.heap.size w w9 [(b_19, Obj.cells cur_21 5 fz_22)] := H9.sub (List.Sublist.cons _ (List.Sublist.cons_cons _ List.Sublist.slnil))
      show ∃ m, _ ∧ _
      exact ⟨_, (by omega), b_19, cap_20, n2 + 1, cur_21, fz_22, (j - 1), rfl, hnw, hrw, hf_23, (by omega), HD5, (Is.of ⟨(by kernel_rfl), (by kernel_rfl), (by kernel_rfl), (by kernel_rfl), (by kernel_rfl), (by kernel_rfl), (by kernel_rfl), trivial⟩)⟩
    · skip
      refine s_valE (some 29) (.bool (decide (0 ≤ ((j : Nat) : Int) - 1))) (.bool false) (fun w => by kernel_rfl) (bool_eq (decide_eq_false (by omega))) (by kernel_rfl) ?_
      refine s_nil ?_
      refine g_cond_f (by kernel_rfl) (by kernel_rfl) ?_
      refine g_exit 2 (by kernel_rfl) ?_
      show WP _ _ _ _ _ _
      refine g_sreg [0, 1, 2] (by kernel_rfl) (by kernel_rfl) ?_
      refine s_call H7 (some 42) 20 #[] (arr 8 (Pd.s beg)) H_fn (fun w => by kernel_rfl) (by kernel_rfl) ?_
      intro w10 H10; clear H7
      refine s_alloc H10 (some 8) 31 (.agg #[.int .u32 0, .int .u32 0, .int .u32 0, .int .u32 0, .int .u32 0, .int .u32 0, .int .u32 0, .int .u32 0]) (by kernel_rfl) (by kernel_rfl) (by kernel_rfl) ?_
      intro b4 w11 H11; clear H10
      refine s_store H11 0 [(b4, Obj.cells (Value.cells (arr 8 (Pd.s beg))) 31 (0, 0)), (b2, Obj.cells cur2 5 fz2)] 31 (.tmp 8) (.tmp 42) b4 (0) #[.int .u32 0, .int .u32 0, .int .u32 0, .int .u32 0, .int .u32 0, .int .u32 0, .int .u32 0, .int .u32 0] (Value.cells (arr 8 (Pd.s beg))) 31 (arr 8 (Pd.s beg)) (by kernel_rfl) (by kernel_rfl) (by kernel_rfl) (by kernel_rfl) (by kernel_rfl) (by kernel_rfl) (of_decide_eq_true (by kernel_rfl)) (by kernel_rfl) (by kernel_rfl) ?_
      intro w12 H12; clear H11
      refine s_nil ?_
      refine g_seq (by kernel_rfl) ?_
      refine g_sreg [0] (by kernel_rfl) (by kernel_rfl) ?_
      refine s_val (some 9) (.int .i64 0) (fun w => by kernel_rfl) (by kernel_rfl) ?_
      refine s_nil ?_
      refine g_block 4 (by kernel_rfl) ?_
      have hLr := hr2; have hLn := hn2; rw [show tl s ++ tailI (ByteArray.size s) (8 - j) = LL s by rw [show 8 - j = 8 by omega]; rfl] at hLr hLn
      have hLL := LL_len s; rw [← hLn] at hLL
      refine g_loop (by kernel_rfl) (fun mz ρ ww => ∃ (hs : List W) (m : Nat), n2 - 64 * m = mz ∧ (64 * m ≤ n2) ∧ (takeB beg ((LL s).take (64 * m)) = Pd.mk hs [] (64 * m)) ∧ St w.heap.size w ww [(b4, Obj.cells (Value.cells (arr 8 hs)) 31 (0, 0)), (b2, Obj.cells cur2 5 fz2)] ∧ Is [(0, .string s), (1, .slice (some ⟨bk, 0, none⟩) nk ck), (4, .string (⟨#[]⟩)), (5, .slice (some ⟨b2, 0, none⟩) n2 cap2), (6, .int .u64 (((ByteArray.size s) * 8 : Nat) : Int)), (7, .int .i64 (((j : Nat) : Int) - 1)), (8, .pointer (some ⟨b4, 0, none⟩)), (9, .int .i64 ((64 * m : Nat) : Int)), (20, .bool false), (29, .bool false)] ρ) (n2 - 0) ⟨(Pd.s beg), 0, rfl, (by omega), rfl, H12, (Is.of ⟨(by kernel_rfl), (by kernel_rfl), (by kernel_rfl), (by kernel_rfl), (by kernel_rfl), (by kernel_rfl), (by kernel_rfl), (by kernel_rfl), (by kernel_rfl), (by kernel_rfl), trivial⟩)⟩ ?_
      clear H12
      rintro _ _ w13 ⟨hs, m, rfl, hm, ht, H13, _, rfl⟩
      refine g_seq (by kernel_rfl) ?_
      refine g_sreg [0, 1, 2, 3] (by kernel_rfl) (by kernel_rfl) ?_
      refine s_val (some 43) (.int .i64 ((64 * m : Nat) : Int)) (fun w => by kernel_rfl) (by kernel_rfl) ?_
      refine s_val (some 44) (.slice (some ⟨b2, 0, none⟩) n2 cap2) (fun w => by kernel_rfl) (by kernel_rfl) ?_
      refine s_val (some 45) (.int .i64 ((n2 : Nat) : Int)) (fun w => by kernel_rfl) (by kernel_rfl) ?_
      by_cases hc6 : (64 * m : Nat) < n2
      · skip
        refine s_valE (some 46) (.bool (decide (((64 * m : Nat) : Int) < ((n2 : Nat) : Int)))) (.bool true) (fun w => by kernel_rfl) (bool_eq (decide_eq_true (by omega))) (by kernel_rfl) ?_
        refine s_nil ?_
        refine g_cond_t (by kernel_rfl) (by kernel_rfl) ?_
        refine g_skip (by kernel_rfl) ?_
        show WP _ _ _ _ _ _
        refine g_seq (by kernel_rfl) ?_
        refine g_block 5 (by kernel_rfl) ?_
        refine D2.g_draw0 [0, 1, 2, 3, 4, 5, 6, 7, 8, 9] [((some 49), fun _ => arr 8 hs), ((some 50), fun _ => .slice (some ⟨b2, 0, none⟩) n2 cap2), ((some 51), fun _ => .int .i64 ((64 * m : Nat) : Int)), ((some 52), fun _ => .int .i64 ((64 * m : Nat) : Int)), ((some 53), fun _ => .int .i64 (((64 * m) + 64 : Nat) : Int)), ((some 54), fun _ => .slice (some ⟨b2, 64 * m, none⟩) 64 (cap2 - (64 * m))), ((some 55), fun _ => .string (strB (List.take 64 (List.drop (64 * m) (LL s))))), ((some 56), fun _ => .slice (some ⟨bk, 0, none⟩) nk ck), ((some 57), fun _ => arr 8 (become hs (bw (strB (List.take 64 (List.drop (64 * m) (LL s))))))), (none, fun _ => undef)] (D2.Pre w.heap.size w (fun L g => [(true, (bif L 9 then (b4, Obj.cells (Value.cells (arr 8 (become hs (bw (strB (List.take 64 (List.drop (64 * m) (LL s)))))))) 31 (0, 0)) else (b4, Obj.cells (Value.cells (arr 8 hs)) 31 (0, 0)))), (true, (b2, Obj.cells cur2 5 fz2))]) (fun L g => True)) (by kernel_rfl) (by kernel_rfl) (by kernel_rfl) ⟨D2.StE.of H13.drew _ (by kernel_rfl), trivial⟩ ⟨?_, ?_, ?_, ?_, ?_, ?_, ?_, ?_, ?_, ?_, trivial⟩ ?_
        · exact D2.gv_load 31 (.tmp 8) 0 (fun g => b4) (Value.cells (arr 8 hs)) 31 (0, 0) (fun _ _ _ h => h) (fun g => by kernel_rfl) (fun g => by kernel_rfl) (fun L g hN => (by have hL9 : L 9 = false := (hN.post 9 (by kernel_rfl)); exact D2.ent_get' (p := true) (e := (bif L 9 then (b4, Obj.cells (Value.cells (arr 8 (become hs (bw (strB (List.take 64 (List.drop (64 * m) (LL s)))))))) 31 (0, 0)) else (b4, Obj.cells (Value.cells (arr 8 hs)) 31 (0, 0)))) (by kernel_rfl) (by rfl) (by simp only [hL9, cond_true, cond_false] <;> rfl))) (by kernel_rfl)
        · exact D2.gv_val (fun _ _ _ h => h) (fun g w => by kernel_rfl)
        · exact D2.gv_val (fun _ _ _ h => h) (fun g w => by kernel_rfl)
        · exact D2.gv_val (fun _ _ _ h => h) (fun g w => by kernel_rfl)
        · exact D2.gv_valE (fun _ _ _ h => h) (V' := .int .i64 (IntKind.i64.wrap (((64 * m : Nat) : Int) + 64))) (fun g w => by kernel_rfl) (int_eq (wrapAdd_i64 (a := 64 * m) (b := 64) (by omega)))
        · exact D2.gv_op (fun _ _ _ h => h) _ (fun g => by kernel_rfl) (fun g => (fun o w ho => cut2_run (kd := .i64) (kz := .i64) (t := 38) (e := 5) (size := 1) (bytes := 1) (by kernel_rfl) (x := (.tmp 50)) (y := (.tmp 53)) (z := (.tmp 51)) b2 n2 cap2 (64 * m) ((64 * m) + 64) ho (by kernel_rfl) (by kernel_rfl) (by kernel_rfl) (by have := hLr.le; omega) (by omega) (by have := hLr.le; omega) (64 * m) (64) (by omega) (by omega) w))
        · exact D2.gv_bytesCut 1 38 9 5 (.tmp 54) (fun g => b2) (64 * m) 64 (cap2 - (64 * m)) cap2 n2 cur2 5 fz2 (LL s) (fun _ _ _ h => h) (fun g => by kernel_rfl) (by kernel_rfl) (by kernel_rfl) (by kernel_rfl) (fun g => by kernel_rfl) (fun L g hN => (by kernel_rfl)) hLr (by omega)
        · exact D2.gv_val (fun _ _ _ h => h) (fun g w => by kernel_rfl)
        · exact D2.gv_callP 14 (fun g => #[arr 8 hs, .string (strB (List.take 64 (List.drop (64 * m) (LL s)))), .slice (some ⟨bk, 0, none⟩) nk ck]) (fun g => fun w => w.heap[bk]? = some (.cells curK 30 (0, 0))) (fun _ _ _ h => h) (fun L g hN hF => by exact (blockR_fn hs (strB (List.take 64 (List.drop (64 * m) (LL s)))) (blk_size s m (by omega)) bk nk ck curK (show nk = List.length roots from hnk) hK)) (fun L g w hN hE hF => by exact (hE.old hpre (lt_of_heap hpre))) (fun g w => by kernel_rfl)
        · exact D2.gv_store 0 31 (.tmp 8) (.tmp 57) (fun g => b4) (fun g => 0) (Value.cells (arr 8 hs)) (Value.cells (arr 8 (become hs (bw (strB (List.take 64 (List.drop (64 * m) (LL s)))))))) 31 (arr 8 (become hs (bw (strB (List.take 64 (List.drop (64 * m) (LL s))))))) (fun g => by kernel_rfl) (fun g => by kernel_rfl) (fun g => by kernel_rfl) (by kernel_rfl) (by kernel_rfl) (fun g => (of_decide_eq_true (by kernel_rfl))) (fun g => (by kernel_rfl)) (fun L g hN => ⟨(by have hL9 : L 9 = false := hN.1; exact D2.ent_get' (p := true) (e := (bif L 9 then (b4, Obj.cells (Value.cells (arr 8 (become hs (bw (strB (List.take 64 (List.drop (64 * m) (LL s)))))))) 31 (0, 0)) else (b4, Obj.cells (Value.cells (arr 8 hs)) 31 (0, 0)))) (by kernel_rfl) (by rfl) (by simp only [hL9, cond_true, cond_false] <;> rfl)), (by kernel_rfl)⟩) (fun L g hN hF => hF)
        intro L0 G14 w14 hall HL; clear H13
        have H14 : St w.heap.size w w14 [(b4, Obj.cells (Value.cells (arr 8 (become hs (bw (strB (List.take 64 (List.drop (64 * m) (LL s)))))))) 31 (0, 0)), (b2, Obj.cells cur2 5 fz2)] := by have e9 := hall 9 (Nat.le_of_ble_eq_true (by kernel_rfl)); have hS := D2.StE.st HL.1; simp only [e9, cond_true, D2.pres] at hS; exact hS
        clear HL hall
        show WP _ _ _ _ _ _
        refine g_reg0 [0, 1, 2] (by kernel_rfl) ?_
        refine s_val (some 47) (.int .i64 ((64 * m : Nat) : Int)) (fun w => by kernel_rfl) (by kernel_rfl) ?_
        refine s_valE (some 48) (.int .i64 (IntKind.i64.wrap (((64 * m : Nat) : Int) + 64))) (.int .i64 (((64 * m) + 64 : Nat) : Int)) (fun w => by kernel_rfl) (int_eq (wrapAdd_i64 (a := 64 * m) (b := 64) (by omega))) (by kernel_rfl) ?_
        refine s_val (some 9) (.int .i64 (((64 * m) + 64 : Nat) : Int)) (fun w => by kernel_rfl) (by kernel_rfl) ?_
        refine s_nil ?_
        rw [show (((64 * m) + 64 : Nat) : Int) = ((64 * (m + 1) : Nat) : Int) from by omega]
        show ∃ m, _ ∧ _
        exact ⟨_, (by omega), (become hs (bw (strB (List.take 64 (List.drop (64 * m) (LL s)))))), (m + 1), rfl, (by omega), (blk_go s hs m ht (by omega)), H14, (Is.of ⟨(by kernel_rfl), (by kernel_rfl), (by kernel_rfl), (by kernel_rfl), (by kernel_rfl), (by kernel_rfl), (by kernel_rfl), (by kernel_rfl), (by kernel_rfl), (by kernel_rfl), trivial⟩)⟩
      · skip
        refine s_valE (some 46) (.bool (decide (((64 * m : Nat) : Int) < ((n2 : Nat) : Int)))) (.bool false) (fun w => by kernel_rfl) (bool_eq (decide_eq_false (by omega))) (by kernel_rfl) ?_
        refine s_nil ?_
        refine g_cond_f (by kernel_rfl) (by kernel_rfl) ?_
        refine g_exit 4 (by kernel_rfl) ?_
        show WP _ _ _ _ _ _
        refine g_sreg [0, 1] (by kernel_rfl) (by kernel_rfl) ?_
        refine s_new H13 (some 58) (fun b => .slice (some ⟨b, 0, none⟩) 0 0) #[] 5 (fun w => by kernel_rfl) (by kernel_rfl) ?_
        intro b5 w15 H15; clear H13
        refine s_val (some 10) (.slice (some ⟨b5, 0, none⟩) 0 0) (fun w => by kernel_rfl) (by kernel_rfl) ?_
        refine s_nil ?_
        refine g_seq (by kernel_rfl) ?_
        refine g_sreg [0] (by kernel_rfl) (by kernel_rfl) ?_
        refine s_val (some 11) (.int .i64 0) (fun w => by kernel_rfl) (by kernel_rfl) ?_
        refine s_nil ?_
        refine g_block 6 (by kernel_rfl) ?_
        have HD7 : St w.heap.size w w15 [(b5, Obj.cells #[] 5 (0, 0)), (b4, Obj.cells (Value.cells (arr 8 hs)) 31 (0, 0))] := H15.sub (List.Sublist.cons_cons _ (List.Sublist.cons_cons _ (List.Sublist.cons _ List.Sublist.slnil)))
        refine g_loop (by kernel_rfl) (fun mz ρ ww => ∃ (b3 : Nat) (cap3 : Nat) (n3 : Nat) (cur3 : Array Value) (i : Nat), 32 - i = mz ∧ (n3 = i) ∧ (Rw 1 cur3 cap3 n3 (cellsB (outI hs i))) ∧ (i ≤ 32) ∧ St w.heap.size w ww [(b3, Obj.cells cur3 5 (0, 0)), (b4, Obj.cells (Value.cells (arr 8 hs)) 31 (0, 0))] ∧ Is [(0, .string s), (1, .slice (some ⟨bk, 0, none⟩) nk ck), (4, .string (⟨#[]⟩)), (5, .slice (some ⟨b2, 0, none⟩) n2 cap2), (6, .int .u64 (((ByteArray.size s) * 8 : Nat) : Int)), (7, .int .i64 (((j : Nat) : Int) - 1)), (8, .pointer (some ⟨b4, 0, none⟩)), (9, .int .i64 ((64 * m : Nat) : Int)), (10, .slice (some ⟨b3, 0, none⟩) n3 cap3), (11, .int .i64 ((i : Nat) : Int)), (20, .bool false), (29, .bool false), (46, .bool false)] ρ) (32 - 0) ⟨b5, 0, 0, #[], 0, rfl, rfl, (Rw.lit #[] 0 rfl (by unfold maxLen; omega)), (by omega), HD7, (Is.of ⟨(by kernel_rfl), (by kernel_rfl), (by kernel_rfl), (by kernel_rfl), (by kernel_rfl), (by kernel_rfl), (by kernel_rfl), (by kernel_rfl), (by kernel_rfl), (by kernel_rfl), (by kernel_rfl), (by kernel_rfl), (by kernel_rfl), trivial⟩)⟩ ?_
        clear HD7
        rintro _ _ w16 ⟨b3, cap3, n3, cur3, i, rfl, hn3, hr3, hi, H16, _, rfl⟩
        refine g_seq (by kernel_rfl) ?_
        refine g_sreg [0, 1] (by kernel_rfl) (by kernel_rfl) ?_
        refine s_val (some 59) (.int .i64 ((i : Nat) : Int)) (fun w => by kernel_rfl) (by kernel_rfl) ?_
        by_cases hc8 : (i : Nat) < 32
        · skip
          refine s_valE (some 60) (.bool (decide (((i : Nat) : Int) < 32))) (.bool true) (fun w => by kernel_rfl) (bool_eq (decide_eq_true (by omega))) (by kernel_rfl) ?_
          refine s_nil ?_
          refine g_cond_t (by kernel_rfl) (by kernel_rfl) ?_
          refine g_skip (by kernel_rfl) ?_
          show WP _ _ _ _ _ _
          refine g_seq (by kernel_rfl) ?_
          refine g_block 7 (by kernel_rfl) ?_
          refine g_reg0 [0, 1, 2, 3, 4, 5, 6, 7, 8, 9, 10, 11, 12, 13, 14, 15] (by kernel_rfl) ?_
          refine s_val (some 63) (.slice (some ⟨b3, 0, none⟩) n3 cap3) (fun w => by kernel_rfl) (by kernel_rfl) ?_
          refine s_val (some 64) (.int .i64 ((i : Nat) : Int)) (fun w => by kernel_rfl) (by kernel_rfl) ?_
          refine s_valE (some 65) (.int .i64 (IntKind.i64.wrap (((i : Nat) : Int).tdiv 4))) (.int .i64 ((i / 4 : Nat) : Int)) (fun w => by kernel_rfl) (int_eq (quoN_i64 (a := i) (b := 4) (by omega))) (by kernel_rfl) ?_
          refine s_op (some 66) _ (.pointer (some ⟨b4, 0 + (i / 4) * 1, none⟩)) (by kernel_rfl) (by kernel_rfl) (fun o w ho => idxA_run (kd := .i64) (t := 31) (n := 8) (size := 1) (by kernel_rfl) (x := (.tmp 8)) (y := (.tmp 65)) b4 0 (i / 4) ho (by kernel_rfl) (by kernel_rfl) (by omega) w) ?_
          refine s_load1 H16 (some 67) 30 (.tmp 66) 1 b4 (0 + (i / 4) * 1) (Value.cells (arr 8 hs)) 31 (0, 0) (.int .u32 ((BitVec.toNat (nth hs (i / 4)) : Nat) : Int)) (by kernel_rfl) (by kernel_rfl) (by kernel_rfl) (by kernel_rfl) (by kernel_rfl) (arr_at (n := 8) hs (k := (i / 4)) (by omega) (by omega)) ?_
          refine s_val (some 68) (.int .i64 ((i : Nat) : Int)) (fun w => by kernel_rfl) (by kernel_rfl) ?_
          refine s_valE (some 69) (.int .i64 (Int.tmod ((i : Nat) : Int) 4)) (.int .i64 ((i % 4 : Nat) : Int)) (fun w => by kernel_rfl) (int_eq (remN i 4)) (by kernel_rfl) ?_
          refine s_valE (some 70) (.int .i64 (IntKind.i64.wrap (3 - ((i % 4 : Nat) : Int)))) (.int .i64 ((3 - (i % 4) : Nat) : Int)) (fun w => by kernel_rfl) (int_eq (wrapSub_i64 (a := 3) (b := i % 4) (by omega))) (by kernel_rfl) ?_
          refine s_valE (some 71) (.int .i64 (IntKind.i64.wrap (8 * ((3 - (i % 4) : Nat) : Int)))) (.int .i64 ((8 * (3 - (i % 4)) : Nat) : Int)) (fun w => by kernel_rfl) (int_eq (wrapMul_i64 (a := 8) (b := 3 - (i % 4)) (by omega))) (by kernel_rfl) ?_
          refine s_valE (some 72) (.int .u64 (IntKind.u64.wrap (((8 * (3 - (i % 4)) : Nat) : Int)))) (.int .u64 ((8 * (3 - (i % 4)) : Nat) : Int)) (fun w => by kernel_rfl) (int_eq (wrapN_u64 (a := 8 * (3 - (i % 4))) (by omega))) (by kernel_rfl) ?_
          refine s_valE (some 73) (.int .u32 (Int.fdiv (((BitVec.toNat (nth hs (i / 4)) : Nat) : Int)) (2 ^ (min (8 * (3 - (i % 4))) 32)))) (.int .u32 ((BitVec.toNat ((nth hs (i / 4)) >>> (8 * (3 - (i % 4)))) : Nat) : Int)) (fun w => by kernel_rfl) (bv_shr_u32 (nth hs (i / 4)) (8 * (3 - (i % 4)))) (by kernel_rfl) ?_
          refine s_valE (some 74) (.int .u32 (Int.tmod (((BitVec.toNat ((nth hs (i / 4)) >>> (8 * (3 - (i % 4)))) : Nat) : Int)) (256))) (.int .u32 ((BitVec.toNat (((nth hs (i / 4)) >>> (8 * (3 - (i % 4)))) % (256 : BitVec 32)) : Nat) : Int)) (fun w => by kernel_rfl) (bv_rem_u32 ((nth hs (i / 4)) >>> (8 * (3 - (i % 4)))) (256 : BitVec 32)) (by kernel_rfl) ?_
          refine s_valE (some 75) (.int .u8 (IntKind.u8.wrap (((BitVec.toNat (((nth hs (i / 4)) >>> (8 * (3 - (i % 4)))) % (256 : BitVec 32)) : Nat) : Int)))) (.int .u8 ((BitVec.toNat (BitVec.setWidth 8 (((nth hs (i / 4)) >>> (8 * (3 - (i % 4)))) % (256 : BitVec 32))) : Nat) : Int)) (fun w => by kernel_rfl) (bv_conv_u8 (((nth hs (i / 4)) >>> (8 * (3 - (i % 4)))) % (256 : BitVec 32))) (by kernel_rfl) ?_
          refine s_new H16 (some 76) (fun b => .slice (some ⟨b, 0, none⟩) 1 1) #[.int .u8 ((BitVec.toNat (BitVec.setWidth 8 (((nth hs (i / 4)) >>> (8 * (3 - (i % 4)))) % (256 : BitVec 32))) : Nat) : Int)] 5 (fun w => by kernel_rfl) (by kernel_rfl) ?_
          intro b6 w17 H17; clear H16
          refine s_append H17 (some 77) 38 5 1 1 (.tmp 63) (.tmp 76) 1 0 b3 b6 n3 1 cap3 1 cur3 #[.int .u8 ((BitVec.toNat (BitVec.setWidth 8 (((nth hs (i / 4)) >>> (8 * (3 - (i % 4)))) % (256 : BitVec 32))) : Nat) : Int)] 5 (0, 0) (cellsB (outI hs i)) ([.int .u8 ((BitVec.toNat (BitVec.setWidth 8 (((nth hs (i / 4)) >>> (8 * (3 - (i % 4)))) % (256 : BitVec 32))) : Nat) : Int)]) (fun b_25 cur_27 => [(b6, Obj.cells #[.int .u8 ((BitVec.toNat (BitVec.setWidth 8 (((nth hs (i / 4)) >>> (8 * (3 - (i % 4)))) % (256 : BitVec 32))) : Nat) : Int)] 5 (0, 0)), (b_25, Obj.cells cur_27 5 (0, 0)), (b4, Obj.cells (Value.cells (arr 8 hs)) 31 (0, 0))]) (by kernel_rfl) (by kernel_rfl) (by kernel_rfl) (by kernel_rfl) (by kernel_rfl) hr3 (by kernel_rfl) (by kernel_rfl) (by rfl) (by rfl) (by intro u hu; simp at hu; first | exact hu.elim | (rcases hu with rfl | rfl | rfl | rfl <;> rfl) | (rcases hu with rfl | rfl <;> rfl) | (subst hu; rfl)) (by omega) (by unfold maxLen; omega) (fun _ _ => by kernel_rfl) ?_
          intro b_25 cap_26 cur_27 w18 H18 hr_28; clear H17
          have hr_28t : Rw 1 cur_27 cap_26 (n3 + 1) (cellsB (outI hs i ++ [UInt8.ofBitVec (BitVec.setWidth 8 (((nth hs (i / 4)) >>> (8 * (3 - (i % 4)))) % (256 : BitVec 32)))])) := by rw [cellsB_append]; exact hr_28
          have hr_28n : n3 + 1 = List.length (outI hs i ++ [UInt8.ofBitVec (BitVec.setWidth 8 (((nth hs (i / 4)) >>> (8 * (3 - (i % 4)))) % (256 : BitVec 32)))]) := by have h0 : n3 = List.length (outI hs i) := (by rw [outI_len]; exact hn3); rw [List.length_append, ← h0]; rfl
          refine s_val (some 10) (.slice (some ⟨b_25, 0, none⟩) (n3 + 1) cap_26) (fun w => by kernel_rfl) (by kernel_rfl) ?_
          refine s_nil ?_
          show WP _ _ _ _ _ _
          refine g_reg0 [0, 1, 2] (by kernel_rfl) ?_
          refine s_val (some 61) (.int .i64 ((i : Nat) : Int)) (fun w => by kernel_rfl) (by kernel_rfl) ?_
          refine s_valE (some 62) (.int .i64 (IntKind.i64.wrap (((i : Nat) : Int) + 1))) (.int .i64 ((i + 1 : Nat) : Int)) (fun w => by kernel_rfl) (int_eq (wrapAdd_i64 (a := i) (b := 1) (by omega))) (by kernel_rfl) ?_
          refine s_val (some 11) (.int .i64 ((i + 1 : Nat) : Int)) (fun w => by kernel_rfl) (by kernel_rfl) ?_
          refine s_nil ?_
          have hrw : Rw 1 cur_27 cap_26 (n3 + 1) (cellsB (outI hs (i + 1))) := by rw [outI_succ]; have h0 := hr_28t; rw [low8] at h0; exact h0
          have HD9 : St w.heap.size w w18 [(b_25, Obj.cells cur_27 5 (0, 0)), (b4, Obj.cells (Value.cells (arr 8 hs)) 31 (0, 0))] := H18.sub (List.Sublist.cons _ (List.Sublist.cons_cons _ (List.Sublist.cons_cons _ List.Sublist.slnil)))
          show ∃ m, _ ∧ _
          exact ⟨_, (by omega), b_25, cap_26, n3 + 1, cur_27, (i + 1), rfl, (by omega), hrw, (by omega), HD9, (Is.of ⟨(by kernel_rfl), (by kernel_rfl), (by kernel_rfl), (by kernel_rfl), (by kernel_rfl), (by kernel_rfl), (by kernel_rfl), (by kernel_rfl), (by kernel_rfl), (by kernel_rfl), (by kernel_rfl), (by kernel_rfl), (by kernel_rfl), trivial⟩)⟩
        · skip
          refine s_valE (some 60) (.bool (decide (((i : Nat) : Int) < 32))) (.bool false) (fun w => by kernel_rfl) (bool_eq (decide_eq_false (by omega))) (by kernel_rfl) ?_
          refine s_nil ?_
          refine g_cond_f (by kernel_rfl) (by kernel_rfl) ?_
          refine g_exit 6 (by kernel_rfl) ?_
          show WP _ _ _ _ _ _
          refine g_sreg [0, 1, 2] (by kernel_rfl) (by kernel_rfl) ?_
          refine s_val (some 78) (.slice (some ⟨b3, 0, none⟩) n3 cap3) (fun w => by kernel_rfl) (by kernel_rfl) ?_
          refine s_bytesStrB H16 (some 79) 38 9 5 (.tmp 78) 0 b3 n3 cap3 cur3 5 (0, 0) (outI hs i) (by kernel_rfl) (by kernel_rfl) (by kernel_rfl) (by kernel_rfl) (by kernel_rfl) (by kernel_rfl) (by kernel_rfl) hr3 ?_
          refine s_val (some 4) (.string (strB (outI hs i))) (fun w => by kernel_rfl) (by kernel_rfl) ?_
          refine s_nil ?_
          refine g_ret (by kernel_rfl) ?_
          show ∃ vs, Res _ _ _ _ vs ∧ _
          refine ⟨[.string (strB (outI hs i))], (.tmp (.string (strB (outI hs i))) (by kernel_rfl) .nil), ?_, H16.below⟩
          obtain rfl : i = 32 := by omega
          exact congrArg (fun x => Value.string (strB x)) (sum_is s hs m ht (by omega))
end Go.Proofs.YtjhldipeicpoeaaDoor
