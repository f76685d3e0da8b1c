/-
  The reference: what the last step of a round turns.
-/
import Derived.Test.YtddhadddpllbcaaDoorProg
import Derived.Test.YtddhadddpllbcaaDoorStr
import Derived.Test.YtddhadddpllbcaaDoorKecM
import Derived.Test.YtddhadddpllbcaaDoorKecW
namespace Go.Proofs.YtddhadddpllbcaaDoor
open Go Go.RowKit Go.Proofs.Kec
set_option linter.unusedVariables false
theorem bv_congr {a b : BitVec 64} (h : a = b) : Value.int .u64 ((BitVec.toNat a : Nat) : Int) = .int .u64 ((BitVec.toNat b : Nat) : Int) := by rw [h]
theorem sub_not (x : BitVec 64) : (18446744073709551615 : BitVec 64) - x = ~~~x := by
  apply BitVec.eq_of_toNat_eq
  have := x.isLt
  rw [BitVec.toNat_sub, BitVec.toNat_not]
  show (18446744073709551616 - x.toNat + 18446744073709551615) % 18446744073709551616 = 18446744073709551616 - 1 - x.toNat
  omega
theorem zero_x (x : BitVec 64) : (0 : BitVec 64) ^^^ x = x := BitVec.zero_xor
theorem left0p (s : List (BitVec 64)) : Fn Tryd.prog 22 #[.int .u64 ((BitVec.toNat (th s 0) : Nat) : Int), .int .i64 0] (.int .u64 ((BitVec.toNat (pI s 0) : Nat) : Int)) := by rw [pI0]; exact left0_fn (th s 0)

set_option maxRecDepth 100000 in
set_option maxHeartbeats 2000000 in
theorem last_fn (i : Nat) (hi : i < 24) : Fn Tryd.prog 24 #[.int .i64 ((i : Nat) : Int)] (.int .u64 ((BitVec.toNat (lastB i 7) : Nat) : Int)) := by
  refine Fn.intro (c := codeOf Tryd.f24) [.tmp 2] 28 Tryd.func24 (by kernel_rfl) (by kernel_rfl) (by kernel_rfl) fun w => ?_
  have H0 := St.start w
  refine g_sreg [0] (by kernel_rfl) (by kernel_rfl) ?_
  refine s_val (some 2) (.int .u64 0) (fun w => by kernel_rfl) (by kernel_rfl) ?_
  refine s_nil ?_
  refine g_sreg [0, 1] (by kernel_rfl) (by kernel_rfl) ?_
  refine s_callS H0 (some 7) 27 #[.int .i64 168] (fun _ => True) 3 1 (fun curZ capZ nZ lZ => (nZ = 168 ∧ Rw 1 curZ capZ nZ (cellsD (bitsT 168)))) rowR_fn trivial (by kernel_rfl) (by kernel_rfl) ?_
  intro b_1 cap_2 n_3 cur_4 l_5 w1 H1 hs_6; clear H0
  have hs_6n := hs_6.1
  refine s_val (some 3) (.slice (some ⟨b_1, 0, none⟩) n_3 cap_2) (fun w => by kernel_rfl) (by kernel_rfl) ?_
  refine s_nil ?_
  refine g_sreg [0] (by kernel_rfl) (by kernel_rfl) ?_
  refine s_val (some 4) (.int .u64 0) (fun w => by kernel_rfl) (by kernel_rfl) ?_
  refine s_nil ?_
  refine g_sreg [0] (by kernel_rfl) (by kernel_rfl) ?_
  refine s_val (some 5) (.int .u64 1) (fun w => by kernel_rfl) (by kernel_rfl) ?_
  refine s_nil ?_
  refine g_seq (by kernel_rfl) ?_
  refine g_sreg [0] (by kernel_rfl) (by kernel_rfl) ?_
  refine s_val (some 6) (.int .i64 0) (fun w => by kernel_rfl) (by kernel_rfl) ?_
  refine s_nil ?_
  refine g_block 0 (by kernel_rfl) ?_
  refine g_loop (by kernel_rfl) (fun m ρ ww => ∃ (j : Nat) (pl : Nat) (nn : BitVec 64), 7 - j = m ∧ (j ≤ 7) ∧ (pl = 2 ^ j) ∧ (nn = lastB i j) ∧ St w.heap.size w ww [(b_1, Obj.cells cur_4 3 (0, 0))] ∧ Is [(0, .int .i64 ((i : Nat) : Int)), (2, .int .u64 0), (3, .slice (some ⟨b_1, 0, none⟩) n_3 cap_2), (4, .int .u64 ((BitVec.toNat nn : Nat) : Int)), (5, .int .u64 ((pl : Nat) : Int)), (6, .int .i64 ((j : Nat) : Int))] ρ) (7 - 0) ⟨0, 1, 0, rfl, (by omega), rfl, rfl, H1, (Is.of ⟨(by kernel_rfl), (by kernel_rfl), (by kernel_rfl), (by kernel_rfl), (by kernel_rfl), (by kernel_rfl), trivial⟩)⟩ ?_
  clear H1
  rintro _ _ w2 ⟨j, pl, nn, rfl, hj, hpl, hnn, H2, _, rfl⟩
  have hp1 : 1 ≤ pl := by rw [hpl]; exact Nat.one_le_two_pow
  have hp2 : pl ≤ 128 := by rw [hpl]; exact Nat.pow_le_pow_right (by omega) hj
  refine g_seq (by kernel_rfl) ?_
  refine g_sreg [0, 1] (by kernel_rfl) (by kernel_rfl) ?_
  refine s_val (some 8) (.int .i64 ((j : Nat) : Int)) (fun w => by kernel_rfl) (by kernel_rfl) ?_
  by_cases hc1 : (j : Nat) < 7
  · skip
    refine s_valE (some 9) (.bool (decide (((j : Nat) : Int) < 7))) (.bool true) (fun w => by kernel_rfl) (bool_eq (decide_eq_true (by omega))) (by kernel_rfl) ?_
    refine s_nil ?_
    refine g_cond_t (by kernel_rfl) (by kernel_rfl) ?_
    refine g_skip (by kernel_rfl) ?_
    show WP _ _ _ _ _ _
    refine g_seq (by kernel_rfl) ?_
    refine g_block 1 (by kernel_rfl) ?_
    refine g_seq (by kernel_rfl) ?_
    refine g_sreg [0, 1, 2, 3, 4, 5, 6, 7] (by kernel_rfl) (by kernel_rfl) ?_
    refine s_val (some 12) (.slice (some ⟨b_1, 0, none⟩) n_3 cap_2) (fun w => by kernel_rfl) (by kernel_rfl) ?_
    refine s_val (some 13) (.int .i64 ((j : Nat) : Int)) (fun w => by kernel_rfl) (by kernel_rfl) ?_
    refine s_val (some 14) (.int .i64 ((i : Nat) : Int)) (fun w => by kernel_rfl) (by kernel_rfl) ?_
    refine s_valE (some 15) (.int .i64 (IntKind.i64.wrap (7 * ((i : Nat) : Int)))) (.int .i64 ((7 * i : Nat) : Int)) (fun w => by kernel_rfl) (int_eq (wrapMul_i64 (a := 7) (b := i) (by omega))) (by kernel_rfl) ?_
    refine s_valE (some 16) (.int .i64 (IntKind.i64.wrap (((j : Nat) : Int) + ((7 * i : Nat) : Int)))) (.int .i64 ((j + (7 * i) : Nat) : Int)) (fun w => by kernel_rfl) (int_eq (wrapAdd_i64 (a := j) (b := 7 * i) (by omega))) (by kernel_rfl) ?_
    refine s_op (some 17) _ (.pointer (some ⟨b_1, 0 + (j + (7 * i)) * 1, none⟩)) (by kernel_rfl) (by kernel_rfl) (fun o w ho => idxS_run (kd := .i64) (t := 49) (e := 3) (size := 1) (bytes := 8) (by kernel_rfl) (x := (.tmp 12)) (y := (.tmp 16)) b_1 0 n_3 cap_2 (j + (7 * i)) ho (by kernel_rfl) (by kernel_rfl) (by omega) w) ?_
    refine s_load1 H2 (some 18) 3 (.tmp 17) 0 b_1 (0 + (j + (7 * i)) * 1) cur_4 3 (0, 0) (.int .i64 ((List.getD (bitsT 168) (j + (7 * i)) 0 : Nat) : Int)) (by kernel_rfl) (by kernel_rfl) (by kernel_rfl) (by kernel_rfl) (by kernel_rfl) (hs_6.2.atD (by omega) (by rw [bitsT_len]; exact hs_6.1)) ?_
    by_cases hc2 : (List.getD (bitsT 168) (j + (7 * i)) 0 : Nat) = 1
    · skip
      refine s_valE (some 19) (.bool (((List.getD (bitsT 168) (j + (7 * i)) 0 : Nat) : Int) == 1)) (.bool true) (fun w => by kernel_rfl) (bool_eq (beq_iff_eq.2 (by omega))) (by kernel_rfl) ?_
      refine s_nil ?_
      refine g_cond_t (by kernel_rfl) (by kernel_rfl) ?_
      refine g_reg0 [0, 1, 2, 3, 4, 5] (by kernel_rfl) ?_
      refine s_val (some 20) (.int .u64 ((BitVec.toNat nn : Nat) : Int)) (fun w => by kernel_rfl) (by kernel_rfl) ?_
      refine s_val (some 21) (.int .u64 ((pl : Nat) : Int)) (fun w => by kernel_rfl) (by kernel_rfl) ?_
      refine s_valE (some 22) (.int .u64 (IntKind.u64.wrap (((pl : Nat) : Int) - 1))) (.int .u64 ((pl - 1 : Nat) : Int)) (fun w => by kernel_rfl) (int_eq (wrapSub_u64 (a := pl) (b := 1) (by omega))) (by kernel_rfl) ?_
      refine s_valE (some 23) (.int .u64 (IntKind.u64.wrap ((1) * 2 ^ (min (pl - 1) 64)))) (.int .u64 ((BitVec.toNat ((1 : BitVec 64) <<< (pl - 1)) : Nat) : Int)) (fun w => by kernel_rfl) (bv_shl_u64 (1 : BitVec 64) (pl - 1)) (by kernel_rfl) ?_
      refine s_valE (some 24) (.int .u64 (Go.bits .or .u64 (((BitVec.toNat nn : Nat) : Int)) (((BitVec.toNat ((1 : BitVec 64) <<< (pl - 1)) : Nat) : Int)))) (.int .u64 ((BitVec.toNat (nn ||| ((1 : BitVec 64) <<< (pl - 1))) : Nat) : Int)) (fun w => by kernel_rfl) (bv_or_u64 nn ((1 : BitVec 64) <<< (pl - 1))) (by kernel_rfl) ?_
      refine s_val (some 4) (.int .u64 ((BitVec.toNat (nn ||| ((1 : BitVec 64) <<< (pl - 1))) : Nat) : Int)) (fun w => by kernel_rfl) (by kernel_rfl) ?_
      refine s_nil ?_
      show WP _ _ _ _ _ _
      refine g_reg0 [0, 1, 2] (by kernel_rfl) ?_
      refine s_val (some 25) (.int .u64 ((pl : Nat) : Int)) (fun w => by kernel_rfl) (by kernel_rfl) ?_
      refine s_valE (some 26) (.int .u64 (IntKind.u64.wrap (2 * ((pl : Nat) : Int)))) (.int .u64 ((2 * pl : Nat) : Int)) (fun w => by kernel_rfl) (int_eq (wrapMul_u64 (a := 2) (b := pl) (by omega))) (by kernel_rfl) ?_
      refine s_val (some 5) (.int .u64 ((2 * pl : Nat) : Int)) (fun w => by kernel_rfl) (by kernel_rfl) ?_
      refine s_nil ?_
      show WP _ _ _ _ _ _
      refine g_reg0 [0, 1, 2] (by kernel_rfl) ?_
      refine s_val (some 10) (.int .i64 ((j : Nat) : Int)) (fun w => by kernel_rfl) (by kernel_rfl) ?_
      refine s_valE (some 11) (.int .i64 (IntKind.i64.wrap (((j : Nat) : Int) + 1))) (.int .i64 ((j + 1 : Nat) : Int)) (fun w => by kernel_rfl) (int_eq (wrapAdd_i64 (a := j) (b := 1) (by omega))) (by kernel_rfl) ?_
      refine s_val (some 6) (.int .i64 ((j + 1 : Nat) : Int)) (fun w => by kernel_rfl) (by kernel_rfl) ?_
      refine s_nil ?_
      show ∃ m, _ ∧ _
      exact ⟨_, (by omega), (j + 1), (2 * pl), (nn ||| ((1 : BitVec 64) <<< (pl - 1))), rfl, (by omega), (by rw [hpl, Nat.pow_succ]; omega), (by subst hnn hpl; exact (if_pos (by assumption)).symm), H2, (Is.of ⟨(by kernel_rfl), (by kernel_rfl), (by kernel_rfl), (by kernel_rfl), (by kernel_rfl), (by kernel_rfl), trivial⟩)⟩
    · skip
      refine s_valE (some 19) (.bool (((List.getD (bitsT 168) (j + (7 * i)) 0 : Nat) : Int) == 1)) (.bool false) (fun w => by kernel_rfl) (bool_eq (beq_eq_false_iff_ne.2 (by omega))) (by kernel_rfl) ?_
      refine s_nil ?_
      refine g_cond_f (by kernel_rfl) (by kernel_rfl) ?_
      refine g_skip (by kernel_rfl) ?_
      show WP _ _ _ _ _ _
      refine g_reg0 [0, 1, 2] (by kernel_rfl) ?_
      refine s_val (some 25) (.int .u64 ((pl : Nat) : Int)) (fun w => by kernel_rfl) (by kernel_rfl) ?_
      refine s_valE (some 26) (.int .u64 (IntKind.u64.wrap (2 * ((pl : Nat) : Int)))) (.int .u64 ((2 * pl : Nat) : Int)) (fun w => by kernel_rfl) (int_eq (wrapMul_u64 (a := 2) (b := pl) (by omega))) (by kernel_rfl) ?_
      refine s_val (some 5) (.int .u64 ((2 * pl : Nat) : Int)) (fun w => by kernel_rfl) (by kernel_rfl) ?_
      refine s_nil ?_
      show WP _ _ _ _ _ _
      refine g_reg0 [0, 1, 2] (by kernel_rfl) ?_
      refine s_val (some 10) (.int .i64 ((j : Nat) : Int)) (fun w => by kernel_rfl) (by kernel_rfl) ?_
      refine s_valE (some 11) (.int .i64 (IntKind.i64.wrap (((j : Nat) : Int) + 1))) (.int .i64 ((j + 1 : Nat) : Int)) (fun w => by kernel_rfl) (int_eq (wrapAdd_i64 (a := j) (b := 1) (by omega))) (by kernel_rfl) ?_
      refine s_val (some 6) (.int .i64 ((j + 1 : Nat) : Int)) (fun w => by kernel_rfl) (by kernel_rfl) ?_
      refine s_nil ?_
      show ∃ m, _ ∧ _
      exact ⟨_, (by omega), (j + 1), (2 * pl), (nn), rfl, (by omega), (by rw [hpl, Nat.pow_succ]; omega), (by subst hnn hpl; exact (if_neg (by assumption)).symm), H2, (Is.of ⟨(by kernel_rfl), (by kernel_rfl), (by kernel_rfl), (by kernel_rfl), (by kernel_rfl), (by kernel_rfl), trivial⟩)⟩
  · skip
    refine s_valE (some 9) (.bool (decide (((j : Nat) : Int) < 7))) (.bool false) (fun w => by kernel_rfl) (bool_eq (decide_eq_false (by omega))) (by kernel_rfl) ?_
    refine s_nil ?_
    refine g_cond_f (by kernel_rfl) (by kernel_rfl) ?_
    refine g_exit 0 (by kernel_rfl) ?_
    show WP _ _ _ _ _ _
    refine g_sreg [0, 1] (by kernel_rfl) (by kernel_rfl) ?_
    refine s_val (some 27) (.int .u64 ((BitVec.toNat nn : Nat) : Int)) (fun w => by kernel_rfl) (by kernel_rfl) ?_
    refine s_val (some 2) (.int .u64 ((BitVec.toNat nn : Nat) : Int)) (fun w => by kernel_rfl) (by kernel_rfl) ?_
    refine s_nil ?_
    refine g_ret (by kernel_rfl) ?_
    show ∃ vs, Res _ _ _ _ vs ∧ _
    refine ⟨[.int .u64 ((BitVec.toNat nn : Nat) : Int)], (.tmp (.int .u64 ((BitVec.toNat nn : Nat) : Int)) (by kernel_rfl) .nil), ?_, H2.below⟩
    obtain rfl : j = 7 := by omega
    rw [hnn]; rfl
end Go.Proofs.YtddhadddpllbcaaDoor
