/-
  A text's sum; numbers in bytes; a frame.
-/
import Derived.Test.YthipcmpmfjeakaaProg
import Derived.Test.YthipcmpmfjeakaaCrcF
import Derived.Test.YthipcmpmfjeakaaTxt
import Derived.Test.YthipcmpmfjeakaaCrcT
namespace Go.Proofs.Ythipcmpmfjeakaa
open Go Go.RowKit Go.Proofs.Crc
set_option linter.unusedVariables false
theorem ext_size (s : ByteArray) (a b : Nat) (h : b ≤ ByteArray.size s) : ByteArray.size (ByteArray.extract s a b) = b - a := by
  rw [← tl_len, tl_extract, List.length_drop, List.length_take, tl_len, Nat.min_eq_left h]
theorem add_size (a b : ByteArray) : ByteArray.size (a ++ b) = ByteArray.size a + ByteArray.size b := by rw [← tl_len, tl_add, List.length_append, tl_len, tl_len]
theorem le_size (n : W) (c : Nat) : ByteArray.size (strB (le n c)) = c := by rw [strB_size, le_len]
theorem frB_size (l : List UInt8) : ByteArray.size (strB (frB l)) = l.length + 6 := by rw [strB_size, frB_len]

set_option maxRecDepth 100000 in
set_option maxHeartbeats 2000000 in
theorem sum_fn (s : ByteArray) (hs : ByteArray.size s ≤ 1000000000000000000) : Fn Try.prog 20 #[arr 256 tabL, .string s] (.int .u32 ((BitVec.toNat (crc (tl s)) : Nat) : Int)) := by
  refine Fn.intro (c := codeOf Try.f20) [.tmp 4] 26 Try.func20 (by kernel_rfl) (by kernel_rfl) (by kernel_rfl) fun w => ?_
  have H0 := St.start w
  refine g_sreg [0, 1] (by kernel_rfl) (by kernel_rfl) ?_
  refine s_box H0 (some 2) 40 (.tmp 0) (arr 256 tabL) (by kernel_rfl) (by kernel_rfl) (by kernel_rfl) ?_
  intro b1 w1 H1; clear H0
  refine s_val (some 4) (.int .u32 0) (fun w => by kernel_rfl) (by kernel_rfl) ?_
  refine s_nil ?_
  refine g_sreg [0] (by kernel_rfl) (by kernel_rfl) ?_
  refine s_val (some 5) (.int .u32 ((BitVec.toNat (reg rg0 ((tl s).take 0)) : Nat) : Int)) (fun w => by kernel_rfl) (by kernel_rfl) ?_
  refine s_nil ?_
  refine g_seq (by kernel_rfl) ?_
  refine g_sreg [0, 1, 2] (by kernel_rfl) (by kernel_rfl) ?_
  refine s_val (some 7) (.string s) (fun w => by kernel_rfl) (by kernel_rfl) ?_
  refine s_val (some 8) (.int .i64 ((ByteArray.size s : Nat) : Int)) (fun w => by kernel_rfl) (by kernel_rfl) ?_
  refine s_val (some 9) (.int .i64 0) (fun w => by kernel_rfl) (by kernel_rfl) ?_
  refine s_nil ?_
  refine g_block 0 (by kernel_rfl) ?_
  refine g_loop (by kernel_rfl) (fun mz ρ ww => ∃ (k : Nat), ByteArray.size s - k = mz ∧ (k ≤ ByteArray.size s) ∧ St w.heap.size w ww [(b1, Obj.cells (Value.cells (arr 256 tabL)) 40 (0, 0))] ∧ Is [(0, arr 256 tabL), (1, .string s), (2, .pointer (some ⟨b1, 0, none⟩)), (4, .int .u32 0), (5, .int .u32 ((BitVec.toNat (reg rg0 ((tl s).take k)) : Nat) : Int)), (8, .int .i64 ((ByteArray.size s : Nat) : Int)), (9, .int .i64 ((k : Nat) : Int))] ρ) (ByteArray.size s - 0) ⟨0, rfl, (by omega), H1, (Is.of ⟨(by kernel_rfl), (by kernel_rfl), (by kernel_rfl), (by kernel_rfl), (by kernel_rfl), (by kernel_rfl), (by kernel_rfl), trivial⟩)⟩ ?_
  clear H1
  rintro _ _ w2 ⟨k, rfl, hk, H2, _, rfl⟩
  refine g_sreg [0] (by kernel_rfl) (by kernel_rfl) ?_
  by_cases hc1 : (k : Nat) < ByteArray.size s
  · skip
    refine s_valE (some 10) (.bool (decide (((k : Nat) : Int) < ((ByteArray.size s : Nat) : Int)))) (.bool true) (fun w => by kernel_rfl) (bool_eq (decide_eq_true (by omega))) (by kernel_rfl) ?_
    refine s_nil ?_
    refine g_seq (by kernel_rfl) ?_
    refine g_cond_t (by kernel_rfl) (by kernel_rfl) ?_
    refine g_skip (by kernel_rfl) ?_
    show WP _ _ _ _ _ _
    refine g_seq (by kernel_rfl) ?_
    refine g_block 1 (by kernel_rfl) ?_
    refine g_sreg [0, 1] (by kernel_rfl) (by kernel_rfl) ?_
    refine s_val (some 11) (.int .i64 ((k : Nat) : Int)) (fun w => by kernel_rfl) (by kernel_rfl) ?_
    refine s_val (some 6) (.int .i64 ((k : Nat) : Int)) (fun w => by kernel_rfl) (by kernel_rfl) ?_
    refine s_nil ?_
    refine g_reg0 [0, 1, 2, 3, 4, 5, 6, 7, 8, 9, 10, 11] (by kernel_rfl) ?_
    refine s_val (some 12) (.int .u32 ((BitVec.toNat (reg rg0 ((tl s).take k)) : Nat) : Int)) (fun w => by kernel_rfl) (by kernel_rfl) ?_
    refine s_valE (some 13) (.int .u32 (Int.fdiv (((BitVec.toNat (reg rg0 ((tl s).take k)) : Nat) : Int)) (2 ^ (min 8 32)))) (.int .u32 ((BitVec.toNat ((reg rg0 ((tl s).take k)) >>> 8) : Nat) : Int)) (fun w => by kernel_rfl) (bv_shr_u32 (reg rg0 ((tl s).take k)) 8) (by kernel_rfl) ?_
    refine s_val (some 14) (.int .u32 ((BitVec.toNat (reg rg0 ((tl s).take k)) : Nat) : Int)) (fun w => by kernel_rfl) (by kernel_rfl) ?_
    refine s_valE (some 15) (.int .u8 (IntKind.u8.wrap (((BitVec.toNat (reg rg0 ((tl s).take k)) : Nat) : Int)))) (.int .u8 ((BitVec.toNat (BitVec.setWidth 8 (reg rg0 ((tl s).take k))) : Nat) : Int)) (fun w => by kernel_rfl) (bv_conv_u8 (reg rg0 ((tl s).take k))) (by kernel_rfl) ?_
    refine s_val (some 16) (.string s) (fun w => by kernel_rfl) (by kernel_rfl) ?_
    refine s_val (some 17) (.int .i64 ((k : Nat) : Int)) (fun w => by kernel_rfl) (by kernel_rfl) ?_
    refine s_op (some 18) _ (.int .u8 ((BitVec.toNat (UInt8.toBitVec (List.getD (tl s) k 0)) : Nat) : Int)) (by kernel_rfl) (by kernel_rfl) (fun o w ho => sindex_run (t := 9) (kd := .i64) (by kernel_rfl) (x := (.tmp 16)) (y := (.tmp 17)) s k ho (by kernel_rfl) (by kernel_rfl) (by omega) w) ?_
    refine s_valE (some 19) (.int .u8 (Go.bits .xor .u8 (((BitVec.toNat (BitVec.setWidth 8 (reg rg0 ((tl s).take k))) : Nat) : Int)) (((BitVec.toNat (UInt8.toBitVec (List.getD (tl s) k 0)) : Nat) : Int)))) (.int .u8 ((BitVec.toNat ((BitVec.setWidth 8 (reg rg0 ((tl s).take k))) ^^^ (UInt8.toBitVec (List.getD (tl s) k 0))) : Nat) : Int)) (fun w => by kernel_rfl) (bv_xor_u8 (BitVec.setWidth 8 (reg rg0 ((tl s).take k))) (UInt8.toBitVec (List.getD (tl s) k 0))) (by kernel_rfl) ?_
    refine s_op (some 20) _ (.pointer (some ⟨b1, 0 + (BitVec.toNat ((BitVec.setWidth 8 (reg rg0 ((tl s).take k))) ^^^ (UInt8.toBitVec (List.getD (tl s) k 0)))) * 1, none⟩)) (by kernel_rfl) (by kernel_rfl) (fun o w ho => idxA_run (kd := .u8) (t := 40) (n := 256) (size := 1) (by kernel_rfl) (x := (.tmp 2)) (y := (.tmp 19)) b1 0 (BitVec.toNat ((BitVec.setWidth 8 (reg rg0 ((tl s).take k))) ^^^ (UInt8.toBitVec (List.getD (tl s) k 0)))) ho (by kernel_rfl) (by kernel_rfl) (BitVec.isLt _) w) ?_
    refine s_load1 H2 (some 21) 25 (.tmp 20) 0 b1 (0 + (BitVec.toNat ((BitVec.setWidth 8 (reg rg0 ((tl s).take k))) ^^^ (UInt8.toBitVec (List.getD (tl s) k 0)))) * 1) (Value.cells (arr 256 tabL)) 40 (0, 0) (.int .u32 ((BitVec.toNat (nth tabL (BitVec.toNat ((BitVec.setWidth 8 (reg rg0 ((tl s).take k))) ^^^ (UInt8.toBitVec (List.getD (tl s) k 0))))) : Nat) : Int)) (by kernel_rfl) (by kernel_rfl) (by kernel_rfl) (by kernel_rfl) (by kernel_rfl) (arr_at (n := 256) tabL (k := (BitVec.toNat ((BitVec.setWidth 8 (reg rg0 ((tl s).take k))) ^^^ (UInt8.toBitVec (List.getD (tl s) k 0))))) (by omega) (BitVec.isLt _)) ?_
    refine s_valE (some 22) (.int .u32 (Go.bits .xor .u32 (((BitVec.toNat ((reg rg0 ((tl s).take k)) >>> 8) : Nat) : Int)) (((BitVec.toNat (nth tabL (BitVec.toNat ((BitVec.setWidth 8 (reg rg0 ((tl s).take k))) ^^^ (UInt8.toBitVec (List.getD (tl s) k 0))))) : Nat) : Int)))) (.int .u32 ((BitVec.toNat (((reg rg0 ((tl s).take k)) >>> 8) ^^^ (nth tabL (BitVec.toNat ((BitVec.setWidth 8 (reg rg0 ((tl s).take k))) ^^^ (UInt8.toBitVec (List.getD (tl s) k 0)))))) : Nat) : Int)) (fun w => by kernel_rfl) (bv_xor_u32 ((reg rg0 ((tl s).take k)) >>> 8) (nth tabL (BitVec.toNat ((BitVec.setWidth 8 (reg rg0 ((tl s).take k))) ^^^ (UInt8.toBitVec (List.getD (tl s) k 0)))))) (by kernel_rfl) ?_
    refine s_val (some 5) (.int .u32 ((BitVec.toNat (((reg rg0 ((tl s).take k)) >>> 8) ^^^ (nth tabL (BitVec.toNat ((BitVec.setWidth 8 (reg rg0 ((tl s).take k))) ^^^ (UInt8.toBitVec (List.getD (tl s) k 0)))))) : Nat) : Int)) (fun w => by kernel_rfl) (by kernel_rfl) ?_
    refine s_nil ?_
    show WP _ _ _ _ _ _
    refine g_reg0 [0, 1] (by kernel_rfl) ?_
    refine s_valE (some 23) (.int .i64 (IntKind.i64.wrap (((k : Nat) : Int) + 1))) (.int .i64 ((k + 1 : Nat) : Int)) (fun w => by kernel_rfl) (int_eq (wrapAdd_i64 (a := k) (b := 1) (by omega))) (by kernel_rfl) ?_
    refine s_val (some 9) (.int .i64 ((k + 1 : Nat) : Int)) (fun w => by kernel_rfl) (by kernel_rfl) ?_
    refine s_nil ?_
    have hgo : reg rg0 ((tl s).take (k + 1)) = bst (reg rg0 ((tl s).take k)) ((tl s).getD k 0) := reg_take rg0 (tl s) k (by rw [tl_len]; omega)
    rw [show (((reg rg0 ((tl s).take k)) >>> 8) ^^^ (nth tabL (BitVec.toNat ((BitVec.setWidth 8 (reg rg0 ((tl s).take k))) ^^^ (UInt8.toBitVec (List.getD (tl s) k 0)))))) = reg rg0 ((tl s).take (k + 1)) from by rw [hgo]; exact bst_nth _ _]
    show ∃ m, _ ∧ _
    exact ⟨_, (by omega), (k + 1), rfl, (by omega), H2, (Is.of ⟨(by kernel_rfl), (by kernel_rfl), (by kernel_rfl), (by kernel_rfl), (by kernel_rfl), (by kernel_rfl), (by kernel_rfl), trivial⟩)⟩
  · skip
    refine s_valE (some 10) (.bool (decide (((k : Nat) : Int) < ((ByteArray.size s : Nat) : Int)))) (.bool false) (fun w => by kernel_rfl) (bool_eq (decide_eq_false (by omega))) (by kernel_rfl) ?_
    refine s_nil ?_
    refine g_seq (by kernel_rfl) ?_
    refine g_cond_f (by kernel_rfl) (by kernel_rfl) ?_
    refine g_exit 0 (by kernel_rfl) ?_
    show WP _ _ _ _ _ _
    refine g_sreg [0, 1, 2] (by kernel_rfl) (by kernel_rfl) ?_
    refine s_val (some 24) (.int .u32 ((BitVec.toNat (reg rg0 ((tl s).take k)) : Nat) : Int)) (fun w => by kernel_rfl) (by kernel_rfl) ?_
    refine s_valE (some 25) (.int .u32 (Go.bits .xor .u32 4294967295 (((BitVec.toNat (reg rg0 ((tl s).take k)) : Nat) : Int)))) (.int .u32 ((BitVec.toNat (~~~(reg rg0 ((tl s).take k))) : Nat) : Int)) (fun w => by kernel_rfl) (bv_not_u32 (reg rg0 ((tl s).take k))) (by kernel_rfl) ?_
    refine s_val (some 4) (.int .u32 ((BitVec.toNat (~~~(reg rg0 ((tl s).take k))) : Nat) : Int)) (fun w => by kernel_rfl) (by kernel_rfl) ?_
    refine s_nil ?_
    refine g_ret (by kernel_rfl) ?_
    show ∃ vs, Res _ _ _ _ vs ∧ _
    refine ⟨[.int .u32 ((BitVec.toNat (~~~(reg rg0 ((tl s).take k))) : Nat) : Int)], (.tmp (.int .u32 ((BitVec.toNat (~~~(reg rg0 ((tl s).take k))) : Nat) : Int)) (by kernel_rfl) .nil), ?_, H2.below⟩
    rw [List.take_of_length_le (show (tl s).length ≤ k by rw [tl_len]; omega)]; rfl

set_option maxRecDepth 100000 in
set_option maxHeartbeats 2000000 in
theorem of_fn (s : ByteArray) (hs : ByteArray.size s ≤ 1000000000000000000) : Fn Try.prog 9 #[.string s] (.int .u32 ((BitVec.toNat (crc (tl s)) : Nat) : Int)) := by
  refine Fn.intro (c := codeOf Try.f9) [.tmp 2] 6 Try.func9 (by kernel_rfl) (by kernel_rfl) (by kernel_rfl) fun w => ?_
  have H0 := St.start w
  refine g_sreg [0] (by kernel_rfl) (by kernel_rfl) ?_
  refine s_val (some 2) (.int .u32 0) (fun w => by kernel_rfl) (by kernel_rfl) ?_
  refine s_nil ?_
  refine g_sreg [0, 1, 2, 3] (by kernel_rfl) (by kernel_rfl) ?_
  refine s_call H0 (some 3) 21 #[] (arr 256 tabL) table_fn (fun w => by kernel_rfl) (by kernel_rfl) ?_
  intro w1 H1; clear H0
  refine s_val (some 4) (.string s) (fun w => by kernel_rfl) (by kernel_rfl) ?_
  refine s_call H1 (some 5) 20 #[arr 256 tabL, .string s] (.int .u32 ((BitVec.toNat (crc (tl s)) : Nat) : Int)) (sum_fn s (by omega)) (fun w => by kernel_rfl) (by kernel_rfl) ?_
  intro w2 H2; clear H1
  refine s_val (some 2) (.int .u32 ((BitVec.toNat (crc (tl s)) : Nat) : Int)) (fun w => by kernel_rfl) (by kernel_rfl) ?_
  refine s_nil ?_
  refine g_ret (by kernel_rfl) ?_
  show ∃ vs, Res _ _ _ _ vs ∧ _
  refine ⟨[.int .u32 ((BitVec.toNat (crc (tl s)) : Nat) : Int)], (.tmp (.int .u32 ((BitVec.toNat (crc (tl s)) : Nat) : Int)) (by kernel_rfl) .nil), ?_, H2.below⟩
  rfl

theorem le_set (n : W) (c i : Nat) (h : i < c) : (le n i ++ List.replicate (c - i) 0).set i (UInt8.ofBitVec (BitVec.setWidth 8 (n >>> (8 * i)))) = le n (i + 1) ++ List.replicate (c - (i + 1)) 0 := by
  rw [List.set_append_right _ _ (by rw [le_len]; omega), le_len, Nat.sub_self, show c - i = (c - (i + 1)) + 1 by omega, List.replicate_succ, List.set_cons_zero]
  unfold le
  rw [List.range_succ, List.map_append, List.append_assoc]; rfl
theorem le_all (n : W) (c : Nat) : le n c ++ List.replicate (c - c) 0 = le n c := by rw [Nat.sub_self]; simp

set_option maxRecDepth 100000 in
set_option maxHeartbeats 2000000 in
theorem low_fn (x : W) (c : Nat) (hc : c ≤ 8) : Fn Try.prog 19 #[.int .u32 ((BitVec.toNat x : Nat) : Int), .int .i64 ((c : Nat) : Int)] (.string (strB (le x c))) := by
  refine Fn.intro (c := codeOf Try.f19) [.tmp 4] 25 Try.func19 (by kernel_rfl) (by kernel_rfl) (by kernel_rfl) fun w => ?_
  have H0 := St.start w
  refine g_sreg [0] (by kernel_rfl) (by kernel_rfl) ?_
  refine s_val (some 4) (.string (⟨#[]⟩)) (fun w => by kernel_rfl) (by kernel_rfl) ?_
  refine s_nil ?_
  refine g_sreg [0, 1, 2] (by kernel_rfl) (by kernel_rfl) ?_
  refine s_val (some 7) (.int .i64 ((c : Nat) : Int)) (fun w => by kernel_rfl) (by kernel_rfl) ?_
  refine s_make H0 (some 8) 43 5 1 (.int .u8 0) (.tmp 7) (.tmp 7) .i64 .i64 c (by kernel_rfl) (by kernel_rfl) (by kernel_rfl) (by kernel_rfl) rfl (by kernel_rfl) (by kernel_rfl) (by omega) (by unfold maxLen; omega) ?_
  intro b_1 cur_2 w1 H1 hr_3; clear H0
  have hr_3z : Rw 1 cur_2 (c) (c) (cellsB (List.replicate (c) 0)) := by rw [cellsB_zeros']; exact hr_3
  refine s_val (some 5) (.slice (some ⟨b_1, 0, none⟩) c c) (fun w => by kernel_rfl) (by kernel_rfl) ?_
  refine s_nil ?_
  refine g_seq (by kernel_rfl) ?_
  refine g_sreg [0, 1, 2] (by kernel_rfl) (by kernel_rfl) ?_
  refine s_val (some 9) (.slice (some ⟨b_1, 0, none⟩) c c) (fun w => by kernel_rfl) (by kernel_rfl) ?_
  refine s_val (some 10) (.int .i64 ((c : Nat) : Int)) (fun w => by kernel_rfl) (by kernel_rfl) ?_
  refine s_val (some 11) (.int .i64 0) (fun w => by kernel_rfl) (by kernel_rfl) ?_
  refine s_nil ?_
  refine g_block 0 (by kernel_rfl) ?_
  refine g_loop (by kernel_rfl) (fun mz ρ ww => ∃ (b : Nat) (cap : Nat) (n : Nat) (cur : Array Value) (i : Nat), c - i = mz ∧ (n = c) ∧ (Rw 1 cur cap n (cellsB (le x i ++ List.replicate (c - i) 0))) ∧ (i ≤ c) ∧ St w.heap.size w ww [(b, Obj.cells cur 5 (0, 0))] ∧ Is [(0, .int .u32 ((BitVec.toNat x : Nat) : Int)), (1, .int .i64 ((c : Nat) : Int)), (4, .string (⟨#[]⟩)), (5, .slice (some ⟨b, 0, none⟩) n cap), (10, .int .i64 ((n : Nat) : Int)), (11, .int .i64 ((i : Nat) : Int))] ρ) (c - 0) ⟨b_1, c, c, cur_2, 0, rfl, rfl, hr_3z, (by omega), H1, (Is.of ⟨(by kernel_rfl), (by kernel_rfl), (by kernel_rfl), (by kernel_rfl), (by kernel_rfl), (by kernel_rfl), trivial⟩)⟩ ?_
  clear H1
  rintro _ _ w2 ⟨b, cap, n, cur, i, rfl, hn, hr, hi, H2, _, rfl⟩
  refine g_sreg [0] (by kernel_rfl) (by kernel_rfl) ?_
  by_cases hc1 : (i : Nat) < n
  · skip
    refine s_valE (some 12) (.bool (decide (((i : Nat) : Int) < ((n : Nat) : Int)))) (.bool true) (fun w => by kernel_rfl) (bool_eq (decide_eq_true (by omega))) (by kernel_rfl) ?_
    refine s_nil ?_
    refine g_seq (by kernel_rfl) ?_
    refine g_cond_t (by kernel_rfl) (by kernel_rfl) ?_
    refine g_skip (by kernel_rfl) ?_
    show WP _ _ _ _ _ _
    refine g_seq (by kernel_rfl) ?_
    refine g_block 1 (by kernel_rfl) ?_
    refine g_sreg [0, 1] (by kernel_rfl) (by kernel_rfl) ?_
    refine s_val (some 13) (.int .i64 ((i : Nat) : Int)) (fun w => by kernel_rfl) (by kernel_rfl) ?_
    refine s_val (some 6) (.int .i64 ((i : Nat) : Int)) (fun w => by kernel_rfl) (by kernel_rfl) ?_
    refine s_nil ?_
    refine g_reg0 [0, 1, 2, 3, 4, 5, 6, 7, 8] (by kernel_rfl) ?_
    refine s_val (some 14) (.slice (some ⟨b, 0, none⟩) n cap) (fun w => by kernel_rfl) (by kernel_rfl) ?_
    refine s_val (some 15) (.int .i64 ((i : Nat) : Int)) (fun w => by kernel_rfl) (by kernel_rfl) ?_
    refine s_val (some 16) (.int .u32 ((BitVec.toNat x : Nat) : Int)) (fun w => by kernel_rfl) (by kernel_rfl) ?_
    refine s_val (some 17) (.int .i64 ((i : Nat) : Int)) (fun w => by kernel_rfl) (by kernel_rfl) ?_
    refine s_valE (some 18) (.int .i64 (IntKind.i64.wrap (8 * ((i : Nat) : Int)))) (.int .i64 ((8 * i : Nat) : Int)) (fun w => by kernel_rfl) (int_eq (wrapMul_i64 (a := 8) (b := i) (by omega))) (by kernel_rfl) ?_
    refine s_valE (some 19) (.int .u32 (Int.fdiv (((BitVec.toNat x : Nat) : Int)) (2 ^ (min (8 * i) 32)))) (.int .u32 ((BitVec.toNat (x >>> (8 * i)) : Nat) : Int)) (fun w => by kernel_rfl) (bv_shr_u32 x (8 * i)) (by kernel_rfl) ?_
    refine s_valE (some 20) (.int .u8 (IntKind.u8.wrap (((BitVec.toNat (x >>> (8 * i)) : Nat) : Int)))) (.int .u8 ((BitVec.toNat (BitVec.setWidth 8 (x >>> (8 * i))) : Nat) : Int)) (fun w => by kernel_rfl) (bv_conv_u8 (x >>> (8 * i))) (by kernel_rfl) ?_
    refine s_op (some 21) _ (.pointer (some ⟨b, 0 + i * 1, none⟩)) (by kernel_rfl) (by kernel_rfl) (fun o w ho => idxS_run (kd := .i64) (t := 43) (e := 5) (size := 1) (bytes := 1) (by kernel_rfl) (x := (.tmp 14)) (y := (.tmp 15)) b 0 n cap i ho (by kernel_rfl) (by kernel_rfl) (by omega) w) ?_
    obtain ⟨cur_4, hc_5, hs_6, hr_7⟩ := hr.putB i (UInt8.ofBitVec (BitVec.setWidth 8 (x >>> (8 * i)))) (by omega)
    refine s_store H2 0 [(b, Obj.cells cur_4 5 (0, 0))] 5 (.tmp 21) (.tmp 20) b (0 + i * 1) cur cur_4 5 (.int .u8 ((BitVec.toNat (BitVec.setWidth 8 (x >>> (8 * i))) : Nat) : Int)) (by kernel_rfl) (by kernel_rfl) (by kernel_rfl) (by kernel_rfl) (by kernel_rfl) (by kernel_rfl) hs_6 hc_5 (by kernel_rfl) ?_
    intro w3 H3; clear H2
    refine s_nil ?_
    show WP _ _ _ _ _ _
    refine g_reg0 [0, 1] (by kernel_rfl) ?_
    refine s_valE (some 22) (.int .i64 (IntKind.i64.wrap (((i : Nat) : Int) + 1))) (.int .i64 ((i + 1 : Nat) : Int)) (fun w => by kernel_rfl) (int_eq (wrapAdd_i64 (a := i) (b := 1) (by omega))) (by kernel_rfl) ?_
    refine s_val (some 11) (.int .i64 ((i + 1 : Nat) : Int)) (fun w => by kernel_rfl) (by kernel_rfl) ?_
    refine s_nil ?_
    have hrw := hr_7; rw [le_set x c i (by omega)] at hrw
    show ∃ m, _ ∧ _
    exact ⟨_, (by omega), b, cap, n, cur_4, (i + 1), rfl, hn, hrw, (by omega), H3, (Is.of ⟨(by kernel_rfl), (by kernel_rfl), (by kernel_rfl), (by kernel_rfl), (by kernel_rfl), (by kernel_rfl), trivial⟩)⟩
  · skip
    refine s_valE (some 12) (.bool (decide (((i : Nat) : Int) < ((n : Nat) : Int)))) (.bool false) (fun w => by kernel_rfl) (bool_eq (decide_eq_false (by omega))) (by kernel_rfl) ?_
    refine s_nil ?_
    refine g_seq (by kernel_rfl) ?_
    refine g_cond_f (by kernel_rfl) (by kernel_rfl) ?_
    refine g_exit 0 (by kernel_rfl) ?_
    show WP _ _ _ _ _ _
    refine g_sreg [0, 1, 2] (by kernel_rfl) (by kernel_rfl) ?_
    refine s_val (some 23) (.slice (some ⟨b, 0, none⟩) n cap) (fun w => by kernel_rfl) (by kernel_rfl) ?_
    refine s_bytesStrB H2 (some 24) 43 9 5 (.tmp 23) 0 b n cap cur 5 (0, 0) (le x i ++ List.replicate (c - i) 0) (by kernel_rfl) (by kernel_rfl) (by kernel_rfl) (by kernel_rfl) (by kernel_rfl) (by kernel_rfl) (by kernel_rfl) hr ?_
    refine s_val (some 4) (.string (strB (le x i ++ List.replicate (c - i) 0))) (fun w => by kernel_rfl) (by kernel_rfl) ?_
    refine s_nil ?_
    refine g_ret (by kernel_rfl) ?_
    show ∃ vs, Res _ _ _ _ vs ∧ _
    refine ⟨[.string (strB (le x i ++ List.replicate (c - i) 0))], (.tmp (.string (strB (le x i ++ List.replicate (c - i) 0))) (by kernel_rfl) .nil), ?_, H2.below⟩
    obtain rfl : i = c := by omega
    exact congrArg (fun y => Value.string (strB y)) (le_all x i)

set_option maxRecDepth 100000 in
set_option maxHeartbeats 2000000 in
theorem number_fn (s : ByteArray) (hs : ByteArray.size s ≤ 8) : Fn Try.prog 25 #[.string s] (.int .u32 ((BitVec.toNat (numB (tl s)) : Nat) : Int)) := by
  refine Fn.intro (c := codeOf Try.f25) [.tmp 2] 21 Try.func25 (by kernel_rfl) (by kernel_rfl) (by kernel_rfl) fun w => ?_
  have H0 := St.start w
  refine g_sreg [0] (by kernel_rfl) (by kernel_rfl) ?_
  refine s_val (some 2) (.int .u32 0) (fun w => by kernel_rfl) (by kernel_rfl) ?_
  refine s_nil ?_
  refine g_sreg [0] (by kernel_rfl) (by kernel_rfl) ?_
  refine s_val (some 3) (.int .u32 ((BitVec.toNat (num (tl s) 0) : Nat) : Int)) (fun w => by kernel_rfl) (by kernel_rfl) ?_
  refine s_nil ?_
  refine g_seq (by kernel_rfl) ?_
  refine g_sreg [0, 1, 2] (by kernel_rfl) (by kernel_rfl) ?_
  refine s_val (some 5) (.string s) (fun w => by kernel_rfl) (by kernel_rfl) ?_
  refine s_val (some 6) (.int .i64 ((ByteArray.size s : Nat) : Int)) (fun w => by kernel_rfl) (by kernel_rfl) ?_
  refine s_val (some 7) (.int .i64 0) (fun w => by kernel_rfl) (by kernel_rfl) ?_
  refine s_nil ?_
  refine g_block 0 (by kernel_rfl) ?_
  refine g_loop (by kernel_rfl) (fun mz ρ ww => ∃ (k : Nat), ByteArray.size s - k = mz ∧ (k ≤ ByteArray.size s) ∧ St w.heap.size w ww [] ∧ Is [(0, .string s), (2, .int .u32 0), (3, .int .u32 ((BitVec.toNat (num (tl s) k) : Nat) : Int)), (6, .int .i64 ((ByteArray.size s : Nat) : Int)), (7, .int .i64 ((k : Nat) : Int))] ρ) (ByteArray.size s - 0) ⟨0, rfl, (by omega), H0, (Is.of ⟨(by kernel_rfl), (by kernel_rfl), (by kernel_rfl), (by kernel_rfl), (by kernel_rfl), trivial⟩)⟩ ?_
  clear H0
  rintro _ _ w1 ⟨k, rfl, hk, H1, _, rfl⟩
  refine g_sreg [0] (by kernel_rfl) (by kernel_rfl) ?_
  by_cases hc1 : (k : Nat) < ByteArray.size s
  · skip
    refine s_valE (some 8) (.bool (decide (((k : Nat) : Int) < ((ByteArray.size s : Nat) : Int)))) (.bool true) (fun w => by kernel_rfl) (bool_eq (decide_eq_true (by omega))) (by kernel_rfl) ?_
    refine s_nil ?_
    refine g_seq (by kernel_rfl) ?_
    refine g_cond_t (by kernel_rfl) (by kernel_rfl) ?_
    refine g_skip (by kernel_rfl) ?_
    show WP _ _ _ _ _ _
    refine g_seq (by kernel_rfl) ?_
    refine g_block 1 (by kernel_rfl) ?_
    refine g_sreg [0, 1] (by kernel_rfl) (by kernel_rfl) ?_
    refine s_val (some 9) (.int .i64 ((k : Nat) : Int)) (fun w => by kernel_rfl) (by kernel_rfl) ?_
    refine s_val (some 4) (.int .i64 ((k : Nat) : Int)) (fun w => by kernel_rfl) (by kernel_rfl) ?_
    refine s_nil ?_
    refine g_reg0 [0, 1, 2, 3, 4, 5, 6, 7, 8, 9] (by kernel_rfl) ?_
    refine s_val (some 10) (.int .u32 ((BitVec.toNat (num (tl s) k) : Nat) : Int)) (fun w => by kernel_rfl) (by kernel_rfl) ?_
    refine s_val (some 11) (.string s) (fun w => by kernel_rfl) (by kernel_rfl) ?_
    refine s_val (some 12) (.int .i64 ((k : Nat) : Int)) (fun w => by kernel_rfl) (by kernel_rfl) ?_
    refine s_op (some 13) _ (.int .u8 ((by_ s k : Nat) : Int)) (by kernel_rfl) (by kernel_rfl) (fun o w ho => sindex_run (t := 9) (kd := .i64) (by kernel_rfl) (x := (.tmp 11)) (y := (.tmp 12)) s k ho (by kernel_rfl) (by kernel_rfl) (by omega) w) ?_
    refine s_valE (some 14) (.int .u32 (IntKind.u32.wrap (((by_ s k : Nat) : Int)))) (.int .u32 ((BitVec.toNat (BitVec.ofNat 32 (by_ s k)) : Nat) : Int)) (fun w => by kernel_rfl) (bv_ofNat_u32 (by_ s k)) (by kernel_rfl) ?_
    refine s_val (some 15) (.int .i64 ((k : Nat) : Int)) (fun w => by kernel_rfl) (by kernel_rfl) ?_
    refine s_valE (some 16) (.int .i64 (IntKind.i64.wrap (8 * ((k : Nat) : Int)))) (.int .i64 ((8 * k : Nat) : Int)) (fun w => by kernel_rfl) (int_eq (wrapMul_i64 (a := 8) (b := k) (by omega))) (by kernel_rfl) ?_
    refine s_valE (some 17) (.int .u32 (IntKind.u32.wrap ((((BitVec.toNat (BitVec.ofNat 32 (by_ s k)) : Nat) : Int)) * 2 ^ (min (8 * k) 32)))) (.int .u32 ((BitVec.toNat ((BitVec.ofNat 32 (by_ s k)) <<< (8 * k)) : Nat) : Int)) (fun w => by kernel_rfl) (bv_shl_u32 (BitVec.ofNat 32 (by_ s k)) (8 * k)) (by kernel_rfl) ?_
    refine s_valE (some 18) (.int .u32 (Go.bits .or .u32 (((BitVec.toNat (num (tl s) k) : Nat) : Int)) (((BitVec.toNat ((BitVec.ofNat 32 (by_ s k)) <<< (8 * k)) : Nat) : Int)))) (.int .u32 ((BitVec.toNat ((num (tl s) k) ||| ((BitVec.ofNat 32 (by_ s k)) <<< (8 * k))) : Nat) : Int)) (fun w => by kernel_rfl) (bv_or_u32 (num (tl s) k) ((BitVec.ofNat 32 (by_ s k)) <<< (8 * k))) (by kernel_rfl) ?_
    refine s_val (some 3) (.int .u32 ((BitVec.toNat ((num (tl s) k) ||| ((BitVec.ofNat 32 (by_ s k)) <<< (8 * k))) : Nat) : Int)) (fun w => by kernel_rfl) (by kernel_rfl) ?_
    refine s_nil ?_
    show WP _ _ _ _ _ _
    refine g_reg0 [0, 1] (by kernel_rfl) ?_
    refine s_valE (some 19) (.int .i64 (IntKind.i64.wrap (((k : Nat) : Int) + 1))) (.int .i64 ((k + 1 : Nat) : Int)) (fun w => by kernel_rfl) (int_eq (wrapAdd_i64 (a := k) (b := 1) (by omega))) (by kernel_rfl) ?_
    refine s_val (some 7) (.int .i64 ((k + 1 : Nat) : Int)) (fun w => by kernel_rfl) (by kernel_rfl) ?_
    refine s_nil ?_
    show ∃ m, _ ∧ _
    exact ⟨_, (by omega), (k + 1), rfl, (by omega), H1, (Is.of ⟨(by kernel_rfl), (by kernel_rfl), (by kernel_rfl), (by kernel_rfl), (by kernel_rfl), trivial⟩)⟩
  · skip
    refine s_valE (some 8) (.bool (decide (((k : Nat) : Int) < ((ByteArray.size s : Nat) : Int)))) (.bool false) (fun w => by kernel_rfl) (bool_eq (decide_eq_false (by omega))) (by kernel_rfl) ?_
    refine s_nil ?_
    refine g_seq (by kernel_rfl) ?_
    refine g_cond_f (by kernel_rfl) (by kernel_rfl) ?_
    refine g_exit 0 (by kernel_rfl) ?_
    show WP _ _ _ _ _ _
    refine g_sreg [0, 1] (by kernel_rfl) (by kernel_rfl) ?_
    refine s_val (some 20) (.int .u32 ((BitVec.toNat (num (tl s) k) : Nat) : Int)) (fun w => by kernel_rfl) (by kernel_rfl) ?_
    refine s_val (some 2) (.int .u32 ((BitVec.toNat (num (tl s) k) : Nat) : Int)) (fun w => by kernel_rfl) (by kernel_rfl) ?_
    refine s_nil ?_
    refine g_ret (by kernel_rfl) ?_
    show ∃ vs, Res _ _ _ _ vs ∧ _
    refine ⟨[.int .u32 ((BitVec.toNat (num (tl s) k) : Nat) : Int)], (.tmp (.int .u32 ((BitVec.toNat (num (tl s) k) : Nat) : Int)) (by kernel_rfl) .nil), ?_, H1.below⟩
    obtain rfl : k = ByteArray.size s := by omega
    rfl

set_option maxRecDepth 100000 in
set_option maxHeartbeats 2000000 in
theorem may_yes (n : Nat) (h : 1 ≤ n ∧ n ≤ 4000) : Fn Try.prog 18 #[.int .i64 ((n : Nat) : Int)] (.bool true) := by
  refine Fn.intro (c := codeOf Try.f18) [.tmp 2] 9 Try.func18 (by kernel_rfl) (by kernel_rfl) (by kernel_rfl) fun w => ?_
  have H0 := St.start w
  refine g_sreg [0] (by kernel_rfl) (by kernel_rfl) ?_
  refine s_val (some 2) (.bool false) (fun w => by kernel_rfl) (by kernel_rfl) ?_
  refine s_nil ?_
  refine g_sreg [0, 1, 2, 3, 4, 5, 6] (by kernel_rfl) (by kernel_rfl) ?_
  refine s_val (some 3) (.int .i64 ((n : Nat) : Int)) (fun w => by kernel_rfl) (by kernel_rfl) ?_
  refine s_valE (some 4) (.bool (decide (1 ≤ ((n : Nat) : Int)))) (.bool true) (fun w => by kernel_rfl) (bool_eq (decide_eq_true (by omega))) (by kernel_rfl) ?_
  refine s_val (some 5) (.bool true) (fun w => by kernel_rfl) (by kernel_rfl) ?_
  refine s_val (some 6) (.int .i64 ((n : Nat) : Int)) (fun w => by kernel_rfl) (by kernel_rfl) ?_
  refine s_valE (some 7) (.bool (decide (((n : Nat) : Int) ≤ 4000))) (.bool true) (fun w => by kernel_rfl) (bool_eq (decide_eq_true (by omega))) (by kernel_rfl) ?_
  refine s_val (some 8) (.bool true) (fun w => by kernel_rfl) (by kernel_rfl) ?_
  refine s_val (some 2) (.bool true) (fun w => by kernel_rfl) (by kernel_rfl) ?_
  refine s_nil ?_
  refine g_ret (by kernel_rfl) ?_
  show ∃ vs, Res _ _ _ _ vs ∧ _
  refine ⟨[.bool true], (.tmp (.bool true) (by kernel_rfl) .nil), ?_, H0.below⟩
  rfl

set_option maxRecDepth 100000 in
set_option maxHeartbeats 2000000 in
theorem may_no (n : Nat) (h : ¬ (1 ≤ n ∧ n ≤ 4000)) : Fn Try.prog 18 #[.int .i64 ((n : Nat) : Int)] (.bool false) := by
  refine Fn.intro (c := codeOf Try.f18) [.tmp 2] 9 Try.func18 (by kernel_rfl) (by kernel_rfl) (by kernel_rfl) fun w => ?_
  have H0 := St.start w
  refine g_sreg [0] (by kernel_rfl) (by kernel_rfl) ?_
  refine s_val (some 2) (.bool false) (fun w => by kernel_rfl) (by kernel_rfl) ?_
  refine s_nil ?_
  refine g_sreg [0, 1, 2, 3, 4, 5, 6] (by kernel_rfl) (by kernel_rfl) ?_
  refine s_val (some 3) (.int .i64 ((n : Nat) : Int)) (fun w => by kernel_rfl) (by kernel_rfl) ?_
  by_cases hc1 : (n : Nat) ≥ 1
  · skip
    refine s_valE (some 4) (.bool (decide (1 ≤ ((n : Nat) : Int)))) (.bool true) (fun w => by kernel_rfl) (bool_eq (decide_eq_true (by omega))) (by kernel_rfl) ?_
    refine s_val (some 5) (.bool true) (fun w => by kernel_rfl) (by kernel_rfl) ?_
    refine s_val (some 6) (.int .i64 ((n : Nat) : Int)) (fun w => by kernel_rfl) (by kernel_rfl) ?_
    refine s_valE (some 7) (.bool (decide (((n : Nat) : Int) ≤ 4000))) (.bool false) (fun w => by kernel_rfl) (bool_eq (decide_eq_false (by omega))) (by kernel_rfl) ?_
    refine s_val (some 8) (.bool false) (fun w => by kernel_rfl) (by kernel_rfl) ?_
    refine s_val (some 2) (.bool false) (fun w => by kernel_rfl) (by kernel_rfl) ?_
    refine s_nil ?_
    refine g_ret (by kernel_rfl) ?_
    show ∃ vs, Res _ _ _ _ vs ∧ _
    refine ⟨[.bool false], (.tmp (.bool false) (by kernel_rfl) .nil), ?_, H0.below⟩
    rfl
  · skip
    refine s_valE (some 4) (.bool (decide (1 ≤ ((n : Nat) : Int)))) (.bool false) (fun w => by kernel_rfl) (bool_eq (decide_eq_false (by omega))) (by kernel_rfl) ?_
    refine s_val (some 5) (.bool false) (fun w => by kernel_rfl) (by kernel_rfl) ?_
    refine s_not (some 6) (by kernel_rfl) (by kernel_rfl) ?_
    refine s_not (some 7) (by kernel_rfl) (by kernel_rfl) ?_
    refine s_val (some 8) (.bool false) (fun w => by kernel_rfl) (by kernel_rfl) ?_
    refine s_val (some 2) (.bool false) (fun w => by kernel_rfl) (by kernel_rfl) ?_
    refine s_nil ?_
    refine g_ret (by kernel_rfl) ?_
    show ∃ vs, Res _ _ _ _ vs ∧ _
    refine ⟨[.bool false], (.tmp (.bool false) (by kernel_rfl) .nil), ?_, H0.below⟩
    rfl

set_option maxRecDepth 100000 in
set_option maxHeartbeats 2000000 in
theorem frame_fn (s : ByteArray) (h : 1 ≤ ByteArray.size s ∧ ByteArray.size s ≤ 4000) : Fn Try.prog 8 #[.string s] (.tuple #[.string (strB (frB (tl s))), .int .i64 0]) := by
  refine Fn.intro (c := codeOf Try.f8) [.tmp 2, .tmp 3] 20 Try.func8 (by kernel_rfl) (by kernel_rfl) (by kernel_rfl) fun w => ?_
  have H0 := St.start w
  refine g_sreg [0, 1] (by kernel_rfl) (by kernel_rfl) ?_
  refine s_val (some 2) (.string (⟨#[]⟩)) (fun w => by kernel_rfl) (by kernel_rfl) ?_
  refine s_val (some 3) (.int .i64 0) (fun w => by kernel_rfl) (by kernel_rfl) ?_
  refine s_nil ?_
  refine g_seq (by kernel_rfl) ?_
  refine g_sreg [0, 1, 2, 3] (by kernel_rfl) (by kernel_rfl) ?_
  refine s_val (some 5) (.string s) (fun w => by kernel_rfl) (by kernel_rfl) ?_
  refine s_val (some 6) (.int .i64 ((ByteArray.size s : Nat) : Int)) (fun w => by kernel_rfl) (by kernel_rfl) ?_
  refine s_call H0 (some 7) 18 #[.int .i64 ((ByteArray.size s : Nat) : Int)] (.bool true) (may_yes (ByteArray.size s) (by omega)) (fun w => by kernel_rfl) (by kernel_rfl) ?_
  intro w1 H1; clear H0
  refine s_val (some 8) (.bool false) (fun w => by kernel_rfl) (by kernel_rfl) ?_
  refine s_nil ?_
  refine g_cond_f (by kernel_rfl) (by kernel_rfl) ?_
  refine g_skip (by kernel_rfl) ?_
  show WP _ _ _ _ _ _
  refine g_sreg [0, 1, 2, 3, 4, 5, 6] (by kernel_rfl) (by kernel_rfl) ?_
  refine s_val (some 9) (.string s) (fun w => by kernel_rfl) (by kernel_rfl) ?_
  refine s_val (some 10) (.int .i64 ((ByteArray.size s : Nat) : Int)) (fun w => by kernel_rfl) (by kernel_rfl) ?_
  refine s_valE (some 11) (.int .u32 (IntKind.u32.wrap (((ByteArray.size s : Nat) : Int)))) (.int .u32 ((BitVec.toNat (BitVec.ofNat 32 (ByteArray.size s)) : Nat) : Int)) (fun w => by kernel_rfl) (bv_ofNat_u32 (ByteArray.size s)) (by kernel_rfl) ?_
  refine s_call H1 (some 12) 19 #[.int .u32 ((BitVec.toNat (BitVec.ofNat 32 (ByteArray.size s)) : Nat) : Int), .int .i64 2] (.string (strB (le (BitVec.ofNat 32 (ByteArray.size s)) 2))) (low_fn (BitVec.ofNat 32 (ByteArray.size s)) 2 (by omega)) (fun w => by kernel_rfl) (by kernel_rfl) ?_
  intro w2 H2; clear H1
  refine s_val (some 13) (.string s) (fun w => by kernel_rfl) (by kernel_rfl) ?_
  have hz1 : ByteArray.size ((strB (le (BitVec.ofNat 32 (ByteArray.size s)) 2)) ++ s) = ByteArray.size (strB (le (BitVec.ofNat 32 (ByteArray.size s)) 2)) + ByteArray.size s := add_size _ _
  have hz2 : ByteArray.size (strB (le (BitVec.ofNat 32 (ByteArray.size s)) 2)) = 2 := le_size _ _
  refine s_op (some 14) _ (.string ((strB (le (BitVec.ofNat 32 (ByteArray.size s)) 2)) ++ s)) (by kernel_rfl) (by kernel_rfl) (fun o w ho => sadd_run (t := 9) (t' := 9) (x := (.tmp 12)) (y := (.tmp 13)) (strB (le (BitVec.ofNat 32 (ByteArray.size s)) 2)) s w ho (by kernel_rfl) (by kernel_rfl) (by omega)) ?_
  refine s_val (some 4) (.string ((strB (le (BitVec.ofNat 32 (ByteArray.size s)) 2)) ++ s)) (fun w => by kernel_rfl) (by kernel_rfl) ?_
  refine s_nil ?_
  refine g_sreg [0, 1, 2, 3, 4, 5, 6] (by kernel_rfl) (by kernel_rfl) ?_
  refine s_val (some 15) (.string ((strB (le (BitVec.ofNat 32 (ByteArray.size s)) 2)) ++ s)) (fun w => by kernel_rfl) (by kernel_rfl) ?_
  refine s_val (some 16) (.string ((strB (le (BitVec.ofNat 32 (ByteArray.size s)) 2)) ++ s)) (fun w => by kernel_rfl) (by kernel_rfl) ?_
  refine s_call H2 (some 17) 9 #[.string ((strB (le (BitVec.ofNat 32 (ByteArray.size s)) 2)) ++ s)] (.int .u32 ((BitVec.toNat (crc (tl ((strB (le (BitVec.ofNat 32 (ByteArray.size s)) 2)) ++ s))) : Nat) : Int)) (of_fn ((strB (le (BitVec.ofNat 32 (ByteArray.size s)) 2)) ++ s) (by omega)) (fun w => by kernel_rfl) (by kernel_rfl) ?_
  intro w3 H3; clear H2
  refine s_call H3 (some 18) 19 #[.int .u32 ((BitVec.toNat (crc (tl ((strB (le (BitVec.ofNat 32 (ByteArray.size s)) 2)) ++ s))) : Nat) : Int), .int .i64 4] (.string (strB (le (crc (tl ((strB (le (BitVec.ofNat 32 (ByteArray.size s)) 2)) ++ s))) 4))) (low_fn (crc (tl ((strB (le (BitVec.ofNat 32 (ByteArray.size s)) 2)) ++ s))) 4 (by omega)) (fun w => by kernel_rfl) (by kernel_rfl) ?_
  intro w4 H4; clear H3
  have hz3 : ByteArray.size (((strB (le (BitVec.ofNat 32 (ByteArray.size s)) 2)) ++ s) ++ (strB (le (crc (tl ((strB (le (BitVec.ofNat 32 (ByteArray.size s)) 2)) ++ s))) 4))) = ByteArray.size ((strB (le (BitVec.ofNat 32 (ByteArray.size s)) 2)) ++ s) + ByteArray.size (strB (le (crc (tl ((strB (le (BitVec.ofNat 32 (ByteArray.size s)) 2)) ++ s))) 4)) := add_size _ _
  have hz4 : ByteArray.size (strB (le (crc (tl ((strB (le (BitVec.ofNat 32 (ByteArray.size s)) 2)) ++ s))) 4)) = 4 := le_size _ _
  refine s_op (some 19) _ (.string (((strB (le (BitVec.ofNat 32 (ByteArray.size s)) 2)) ++ s) ++ (strB (le (crc (tl ((strB (le (BitVec.ofNat 32 (ByteArray.size s)) 2)) ++ s))) 4)))) (by kernel_rfl) (by kernel_rfl) (fun o w ho => sadd_run (t := 9) (t' := 9) (x := (.tmp 15)) (y := (.tmp 18)) ((strB (le (BitVec.ofNat 32 (ByteArray.size s)) 2)) ++ s) (strB (le (crc (tl ((strB (le (BitVec.ofNat 32 (ByteArray.size s)) 2)) ++ s))) 4)) w ho (by kernel_rfl) (by kernel_rfl) (by omega)) ?_
  refine s_val (some 2) (.string (((strB (le (BitVec.ofNat 32 (ByteArray.size s)) 2)) ++ s) ++ (strB (le (crc (tl ((strB (le (BitVec.ofNat 32 (ByteArray.size s)) 2)) ++ s))) 4)))) (fun w => by kernel_rfl) (by kernel_rfl) ?_
  refine s_val (some 3) (.int .i64 0) (fun w => by kernel_rfl) (by kernel_rfl) ?_
  refine s_nil ?_
  refine g_ret (by kernel_rfl) ?_
  show ∃ vs, Res _ _ _ _ vs ∧ _
  refine ⟨[.string (((strB (le (BitVec.ofNat 32 (ByteArray.size s)) 2)) ++ s) ++ (strB (le (crc (tl ((strB (le (BitVec.ofNat 32 (ByteArray.size s)) 2)) ++ s))) 4))), .int .i64 0], (.tmp (.string (((strB (le (BitVec.ofNat 32 (ByteArray.size s)) 2)) ++ s) ++ (strB (le (crc (tl ((strB (le (BitVec.ofNat 32 (ByteArray.size s)) 2)) ++ s))) 4)))) (by kernel_rfl) (.tmp (.int .i64 0) (by kernel_rfl) .nil)), ?_, H4.below⟩
  rfl

set_option maxRecDepth 100000 in
set_option maxHeartbeats 2000000 in
theorem frameNo_fn (s : ByteArray) (h : ¬ (1 ≤ ByteArray.size s ∧ ByteArray.size s ≤ 4000)) : Fn Try.prog 8 #[.string s] (.tuple #[.string ⟨#[]⟩, .int .i64 1]) := by
  refine Fn.intro (c := codeOf Try.f8) [.tmp 2, .tmp 3] 20 Try.func8 (by kernel_rfl) (by kernel_rfl) (by kernel_rfl) fun w => ?_
  have H0 := St.start w
  refine g_sreg [0, 1] (by kernel_rfl) (by kernel_rfl) ?_
  refine s_val (some 2) (.string (⟨#[]⟩)) (fun w => by kernel_rfl) (by kernel_rfl) ?_
  refine s_val (some 3) (.int .i64 0) (fun w => by kernel_rfl) (by kernel_rfl) ?_
  refine s_nil ?_
  refine g_seq (by kernel_rfl) ?_
  refine g_sreg [0, 1, 2, 3] (by kernel_rfl) (by kernel_rfl) ?_
  refine s_val (some 5) (.string s) (fun w => by kernel_rfl) (by kernel_rfl) ?_
  refine s_val (some 6) (.int .i64 ((ByteArray.size s : Nat) : Int)) (fun w => by kernel_rfl) (by kernel_rfl) ?_
  refine s_call H0 (some 7) 18 #[.int .i64 ((ByteArray.size s : Nat) : Int)] (.bool false) (may_no (ByteArray.size s) (by omega)) (fun w => by kernel_rfl) (by kernel_rfl) ?_
  intro w1 H1; clear H0
  refine s_val (some 8) (.bool true) (fun w => by kernel_rfl) (by kernel_rfl) ?_
  refine s_nil ?_
  refine g_cond_t (by kernel_rfl) (by kernel_rfl) ?_
  refine g_sreg [0, 1] (by kernel_rfl) (by kernel_rfl) ?_
  refine s_val (some 2) (.string (⟨#[]⟩)) (fun w => by kernel_rfl) (by kernel_rfl) ?_
  refine s_val (some 3) (.int .i64 1) (fun w => by kernel_rfl) (by kernel_rfl) ?_
  refine s_nil ?_
  refine g_ret (by kernel_rfl) ?_
  show ∃ vs, Res _ _ _ _ vs ∧ _
  refine ⟨[.string (⟨#[]⟩), .int .i64 1], (.tmp (.string (⟨#[]⟩)) (by kernel_rfl) (.tmp (.int .i64 1) (by kernel_rfl) .nil)), ?_, H1.below⟩
  rfl
end Go.Proofs.Ythipcmpmfjeakaa
