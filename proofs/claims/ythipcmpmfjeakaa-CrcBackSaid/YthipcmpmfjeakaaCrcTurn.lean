/-
  The reference: bits turned.
-/
import Derived.Test.YthipcmpmfjeakaaProg
import Derived.Test.YthipcmpmfjeakaaCrcF
import Derived.Test.YthipcmpmfjeakaaTxt
import Derived.Test.YthipcmpmfjeakaaCrcSame
namespace Go.Proofs.Ythipcmpmfjeakaa
open Go Go.RowKit Go.Proofs.Crc
set_option linter.unusedVariables false
theorem bit_nat (u : W) (k : Nat) : ((BitVec.toNat ((u >>> k) % (2 : BitVec 32)) : Nat) = 1 ↔ u.getLsbD k = true) := by
  rw [BitVec.toNat_umod, BitVec.toNat_ushiftRight, BitVec.getLsbD, Nat.testBit_eq_decide_div_mod_eq, Nat.shiftRight_eq_div_pow, decide_eq_true_iff]; rfl
theorem turn_yes (l : List UInt8) (p : Nat) (u : W) (k : Nat) (h1 : p + k < 8 * l.length) (h2 : (BitVec.toNat ((u >>> k) % (2 : BitVec 32)) : Nat) = 1) :
    turnL l p u (k + 1) = (turnL l p u k).set ((p + k) / 8) (UInt8.ofBitVec (((turnL l p u k).getD ((p + k) / 8) 0).toBitVec ^^^ (1 : BitVec 8) <<< ((p + k) % 8))) := by
  show (if _ then _ else _) = _
  rw [if_pos ⟨h1, (bit_nat u k).1 h2⟩]
theorem turn_no (l : List UInt8) (p : Nat) (u : W) (k : Nat) (h : ¬ p + k < 8 * l.length ∨ ¬ (BitVec.toNat ((u >>> k) % (2 : BitVec 32)) : Nat) = 1) : turnL l p u (k + 1) = turnL l p u k := by
  show (if _ then _ else _) = _
  rw [if_neg]
  rintro ⟨h1, h2⟩
  rcases h with h | h
  · exact h h1
  · exact h ((bit_nat u k).2 h2)

set_option maxRecDepth 100000 in
set_option maxHeartbeats 2000000 in
theorem turned_fn (s : ByteArray) (hs : ByteArray.size s ≤ 1000) (p : Nat) (hp : p ≤ 100000) (u : W) : Fn Try.prog 17 #[.string s, .int .i64 ((p : Nat) : Int), .int .u32 ((BitVec.toNat u : Nat) : Int)] (.string (strB (turnL (tl s) p u 32))) := by
  refine Fn.intro (c := codeOf Try.f17) [.tmp 6] 52 Try.func17 (by kernel_rfl) (by kernel_rfl) (by kernel_rfl) fun w => ?_
  have H0 := St.start w
  refine g_sreg [0] (by kernel_rfl) (by kernel_rfl) ?_
  refine s_val (some 6) (.string (⟨#[]⟩)) (fun w => by kernel_rfl) (by kernel_rfl) ?_
  refine s_nil ?_
  refine g_sreg [0, 1, 2] (by kernel_rfl) (by kernel_rfl) ?_
  refine s_val (some 10) (.string s) (fun w => by kernel_rfl) (by kernel_rfl) ?_
  refine s_strBytes H0 (some 11) 9 43 5 (.tmp 10) s (by kernel_rfl) (by kernel_rfl) (by kernel_rfl) (by kernel_rfl) (by kernel_rfl) (by kernel_rfl) (by unfold maxLen; omega) ?_
  intro b_1 cap_2 cur_3 fz_4 w1 H1 hf_5 hr_6; clear H0
  refine s_val (some 7) (.slice (some ⟨b_1, 0, none⟩) (ByteArray.size s) cap_2) (fun w => by kernel_rfl) (by kernel_rfl) ?_
  refine s_nil ?_
  refine g_seq (by kernel_rfl) ?_
  refine g_sreg [0] (by kernel_rfl) (by kernel_rfl) ?_
  refine s_val (some 8) (.int .i64 0) (fun w => by kernel_rfl) (by kernel_rfl) ?_
  refine s_nil ?_
  refine g_block 0 (by kernel_rfl) ?_
  refine g_loop (by kernel_rfl) (fun mz ρ ww => ∃ (b : Nat) (cap : Nat) (n : Nat) (cur : Array Value) (fz : Nat × Nat) (k : Nat), 32 - k = mz ∧ (n = List.length (turnL (tl s) p u k)) ∧ (Rw 1 cur cap n (cellsB (turnL (tl s) p u k))) ∧ (Clr fz cur) ∧ (k ≤ 32) ∧ St w.heap.size w ww [(b, Obj.cells cur 5 fz)] ∧ Is [(0, .string s), (1, .int .i64 ((p : Nat) : Int)), (2, .int .u32 ((BitVec.toNat u : Nat) : Int)), (6, .string (⟨#[]⟩)), (7, .slice (some ⟨b, 0, none⟩) n cap), (8, .int .i64 ((k : Nat) : Int))] ρ) (32 - 0) ⟨b_1, cap_2, ByteArray.size s, cur_3, fz_4, 0, rfl, rfl, hr_6, hf_5, (by omega), H1, (Is.of ⟨(by kernel_rfl), (by kernel_rfl), (by kernel_rfl), (by kernel_rfl), (by kernel_rfl), (by kernel_rfl), trivial⟩)⟩ ?_
  clear H1
  rintro _ _ w2 ⟨b, cap, n, cur, fz, k, rfl, hn, hr, hf, hk, H2, _, rfl⟩
  have hls := turnL_len (tl s) p u k; rw [← hn, tl_len] at hls
  have hub := bit_nat u k
  refine g_seq (by kernel_rfl) ?_
  refine g_sreg [0, 1] (by kernel_rfl) (by kernel_rfl) ?_
  refine s_val (some 12) (.int .i64 ((k : Nat) : Int)) (fun w => by kernel_rfl) (by kernel_rfl) ?_
  by_cases hc1 : (k : Nat) < 32
  · skip
    refine s_valE (some 13) (.bool (decide (((k : Nat) : Int) < 32))) (.bool true) (fun w => by kernel_rfl) (bool_eq (decide_eq_true (by omega))) (by kernel_rfl) ?_
    refine s_nil ?_
    refine g_cond_t (by kernel_rfl) (by kernel_rfl) ?_
    refine g_skip (by kernel_rfl) ?_
    show WP _ _ _ _ _ _
    refine g_seq (by kernel_rfl) ?_
    refine g_block 1 (by kernel_rfl) ?_
    refine g_sreg [0, 1, 2, 3] (by kernel_rfl) (by kernel_rfl) ?_
    refine s_val (some 16) (.int .i64 ((p : Nat) : Int)) (fun w => by kernel_rfl) (by kernel_rfl) ?_
    refine s_val (some 17) (.int .i64 ((k : Nat) : Int)) (fun w => by kernel_rfl) (by kernel_rfl) ?_
    refine s_valE (some 18) (.int .i64 (IntKind.i64.wrap (((p : Nat) : Int) + ((k : Nat) : Int)))) (.int .i64 ((p + k : Nat) : Int)) (fun w => by kernel_rfl) (int_eq (wrapAdd_i64 (a := p) (b := k) (by omega))) (by kernel_rfl) ?_
    refine s_val (some 9) (.int .i64 ((p + k : Nat) : Int)) (fun w => by kernel_rfl) (by kernel_rfl) ?_
    refine s_nil ?_
    refine g_sreg [0, 1, 2, 3, 4, 5, 6, 7, 8, 9, 10, 11, 12, 13, 14, 15, 16] (by kernel_rfl) (by kernel_rfl) ?_
    refine s_val (some 19) (.int .i64 ((p + k : Nat) : Int)) (fun w => by kernel_rfl) (by kernel_rfl) ?_
    refine s_valE (some 20) (.bool (decide (0 ≤ ((p + k : Nat) : Int)))) (.bool true) (fun w => by kernel_rfl) (bool_eq (decide_eq_true (by omega))) (by kernel_rfl) ?_
    refine s_val (some 21) (.bool true) (fun w => by kernel_rfl) (by kernel_rfl) ?_
    refine s_val (some 22) (.int .i64 ((p + k : Nat) : Int)) (fun w => by kernel_rfl) (by kernel_rfl) ?_
    refine s_val (some 23) (.slice (some ⟨b, 0, none⟩) n cap) (fun w => by kernel_rfl) (by kernel_rfl) ?_
    refine s_val (some 24) (.int .i64 ((n : Nat) : Int)) (fun w => by kernel_rfl) (by kernel_rfl) ?_
    refine s_valE (some 25) (.int .i64 (IntKind.i64.wrap (8 * ((n : Nat) : Int)))) (.int .i64 ((8 * n : Nat) : Int)) (fun w => by kernel_rfl) (int_eq (wrapMul_i64 (a := 8) (b := n) (by omega))) (by kernel_rfl) ?_
    by_cases hc2 : (p + k : Nat) < 8 * n
    · skip
      refine s_valE (some 26) (.bool (decide (((p + k : Nat) : Int) < ((8 * n : Nat) : Int)))) (.bool true) (fun w => by kernel_rfl) (bool_eq (decide_eq_true (by omega))) (by kernel_rfl) ?_
      refine s_val (some 27) (.bool true) (fun w => by kernel_rfl) (by kernel_rfl) ?_
      refine s_val (some 28) (.bool true) (fun w => by kernel_rfl) (by kernel_rfl) ?_
      refine s_val (some 29) (.int .u32 ((BitVec.toNat u : Nat) : Int)) (fun w => by kernel_rfl) (by kernel_rfl) ?_
      refine s_val (some 30) (.int .i64 ((k : Nat) : Int)) (fun w => by kernel_rfl) (by kernel_rfl) ?_
      refine s_valE (some 31) (.int .u64 (IntKind.u64.wrap (((k : Nat) : Int)))) (.int .u64 ((k : Nat) : Int)) (fun w => by kernel_rfl) (int_eq (wrapN_u64 (a := k) (by omega))) (by kernel_rfl) ?_
      refine s_valE (some 32) (.int .u32 (Int.fdiv (((BitVec.toNat u : Nat) : Int)) (2 ^ (min k 32)))) (.int .u32 ((BitVec.toNat (u >>> k) : Nat) : Int)) (fun w => by kernel_rfl) (bv_shr_u32 u k) (by kernel_rfl) ?_
      refine s_valE (some 33) (.int .u32 (Int.tmod (((BitVec.toNat (u >>> k) : Nat) : Int)) (2))) (.int .u32 ((BitVec.toNat ((u >>> k) % (2 : BitVec 32)) : Nat) : Int)) (fun w => by kernel_rfl) (bv_rem_u32 (u >>> k) (2 : BitVec 32)) (by kernel_rfl) ?_
      by_cases hc3 : ((BitVec.toNat ((u >>> k) % (2 : BitVec 32))) : Nat) = 1
      · skip
        refine s_valE (some 34) (.bool (((BitVec.toNat ((u >>> k) % (2 : BitVec 32)) : Nat) : Int) == 1)) (.bool true) (fun w => by kernel_rfl) (bool_eq (beq_iff_eq.2 (by omega))) (by kernel_rfl) ?_
        refine s_val (some 35) (.bool true) (fun w => by kernel_rfl) (by kernel_rfl) ?_
        refine s_nil ?_
        refine g_cond_t (by kernel_rfl) (by kernel_rfl) ?_
        refine g_reg0 [0, 1, 2, 3, 4, 5, 6, 7, 8, 9, 10, 11, 12, 13, 14] (by kernel_rfl) ?_
        refine s_val (some 36) (.slice (some ⟨b, 0, none⟩) n cap) (fun w => by kernel_rfl) (by kernel_rfl) ?_
        refine s_val (some 37) (.int .i64 ((p + k : Nat) : Int)) (fun w => by kernel_rfl) (by kernel_rfl) ?_
        refine s_valE (some 38) (.int .i64 (IntKind.i64.wrap (((p + k : Nat) : Int).tdiv 8))) (.int .i64 (((p + k) / 8 : Nat) : Int)) (fun w => by kernel_rfl) (int_eq (quoN_i64 (a := p + k) (b := 8) (by omega))) (by kernel_rfl) ?_
        refine s_val (some 39) (.slice (some ⟨b, 0, none⟩) n cap) (fun w => by kernel_rfl) (by kernel_rfl) ?_
        refine s_val (some 40) (.int .i64 ((p + k : Nat) : Int)) (fun w => by kernel_rfl) (by kernel_rfl) ?_
        refine s_valE (some 41) (.int .i64 (IntKind.i64.wrap (((p + k : Nat) : Int).tdiv 8))) (.int .i64 (((p + k) / 8 : Nat) : Int)) (fun w => by kernel_rfl) (int_eq (quoN_i64 (a := p + k) (b := 8) (by omega))) (by kernel_rfl) ?_
        refine s_op (some 42) _ (.pointer (some ⟨b, 0 + ((p + k) / 8) * 1, none⟩)) (by kernel_rfl) (by kernel_rfl) (fun o w ho => idxS_run (kd := .i64) (t := 43) (e := 5) (size := 1) (bytes := 1) (by kernel_rfl) (x := (.tmp 39)) (y := (.tmp 41)) b 0 n cap ((p + k) / 8) ho (by kernel_rfl) (by kernel_rfl) (by omega) w) ?_
        refine s_load1 H2 (some 43) 5 (.tmp 42) 0 b (0 + ((p + k) / 8) * 1) cur 5 fz (.int .u8 ((BitVec.toNat (UInt8.toBitVec (List.getD (turnL (tl s) p u k) ((p + k) / 8) 0)) : Nat) : Int)) (by kernel_rfl) (by kernel_rfl) (by kernel_rfl) (by kernel_rfl) (by kernel_rfl) (hr.atB (by omega) hn) ?_
        refine s_val (some 44) (.int .i64 ((p + k : Nat) : Int)) (fun w => by kernel_rfl) (by kernel_rfl) ?_
        refine s_valE (some 45) (.int .i64 (Int.tmod ((p + k : Nat) : Int) 8)) (.int .i64 (((p + k) % 8 : Nat) : Int)) (fun w => by kernel_rfl) (int_eq (remN (p + k) 8)) (by kernel_rfl) ?_
        refine s_valE (some 46) (.int .u64 (IntKind.u64.wrap ((((p + k) % 8 : Nat) : Int)))) (.int .u64 (((p + k) % 8 : Nat) : Int)) (fun w => by kernel_rfl) (int_eq (wrapN_u64 (a := (p + k) % 8) (by omega))) (by kernel_rfl) ?_
        refine s_valE (some 47) (.int .u8 (IntKind.u8.wrap ((1) * 2 ^ (min ((p + k) % 8) 8)))) (.int .u8 ((BitVec.toNat ((1 : BitVec 8) <<< ((p + k) % 8)) : Nat) : Int)) (fun w => by kernel_rfl) (bv_shl_u8 (1 : BitVec 8) ((p + k) % 8)) (by kernel_rfl) ?_
        refine s_valE (some 48) (.int .u8 (Go.bits .xor .u8 (((BitVec.toNat (UInt8.toBitVec (List.getD (turnL (tl s) p u k) ((p + k) / 8) 0)) : Nat) : Int)) (((BitVec.toNat ((1 : BitVec 8) <<< ((p + k) % 8)) : Nat) : Int)))) (.int .u8 ((BitVec.toNat ((UInt8.toBitVec (List.getD (turnL (tl s) p u k) ((p + k) / 8) 0)) ^^^ ((1 : BitVec 8) <<< ((p + k) % 8))) : Nat) : Int)) (fun w => by kernel_rfl) (bv_xor_u8 (UInt8.toBitVec (List.getD (turnL (tl s) p u k) ((p + k) / 8) 0)) ((1 : BitVec 8) <<< ((p + k) % 8))) (by kernel_rfl) ?_
        refine s_op (some 49) _ (.pointer (some ⟨b, 0 + ((p + k) / 8) * 1, none⟩)) (by kernel_rfl) (by kernel_rfl) (fun o w ho => idxS_run (kd := .i64) (t := 43) (e := 5) (size := 1) (bytes := 1) (by kernel_rfl) (x := (.tmp 36)) (y := (.tmp 38)) b 0 n cap ((p + k) / 8) ho (by kernel_rfl) (by kernel_rfl) (by omega) w) ?_
        obtain ⟨cur_8, hc_9, hs_10, hr_11⟩ := hr.putB ((p + k) / 8) (UInt8.ofBitVec ((UInt8.toBitVec (List.getD (turnL (tl s) p u k) ((p + k) / 8) 0)) ^^^ ((1 : BitVec 8) <<< ((p + k) % 8)))) (by omega)
        refine s_storeM H2 0 [(b, Obj.cells cur_8 5 fz)] 5 (.tmp 49) (.tmp 48) b (0 + ((p + k) / 8) * 1) cur cur_8 5 fz (.int .u8 ((BitVec.toNat ((UInt8.toBitVec (List.getD (turnL (tl s) p u k) ((p + k) / 8) 0)) ^^^ ((1 : BitVec 8) <<< ((p + k) % 8))) : Nat) : Int)) (by kernel_rfl) (by kernel_rfl) (by kernel_rfl) (by kernel_rfl) hf (by kernel_rfl) (by kernel_rfl) hs_10 hc_9 (by kernel_rfl) ?_
        intro w3 H3 hf_7; clear H2
        refine s_nil ?_
        show WP _ _ _ _ _ _
        refine g_reg0 [0, 1, 2] (by kernel_rfl) ?_
        refine s_val (some 14) (.int .i64 ((k : Nat) : Int)) (fun w => by kernel_rfl) (by kernel_rfl) ?_
        refine s_valE (some 15) (.int .i64 (IntKind.i64.wrap (((k : Nat) : Int) + 1))) (.int .i64 ((k + 1 : Nat) : Int)) (fun w => by kernel_rfl) (int_eq (wrapAdd_i64 (a := k) (b := 1) (by omega))) (by kernel_rfl) ?_
        refine s_val (some 8) (.int .i64 ((k + 1 : Nat) : Int)) (fun w => by kernel_rfl) (by kernel_rfl) ?_
        refine s_nil ?_
        have hgo : turnL (tl s) p u (k + 1) = (List.set (turnL (tl s) p u k) ((p + k) / 8) (UInt8.ofBitVec ((UInt8.toBitVec (List.getD (turnL (tl s) p u k) ((p + k) / 8) 0)) ^^^ ((1 : BitVec 8) <<< ((p + k) % 8))))) := turn_yes (tl s) p u k (by rw [tl_len]; omega) (by omega)
        have hrw := hr_11; have hnw : n = List.length (List.set (turnL (tl s) p u k) ((p + k) / 8) (UInt8.ofBitVec ((UInt8.toBitVec (List.getD (turnL (tl s) p u k) ((p + k) / 8) 0)) ^^^ ((1 : BitVec 8) <<< ((p + k) % 8))))) := (by rw [List.length_set]; exact hn); rw [← hgo] at hrw hnw
        show ∃ m, _ ∧ _
        exact ⟨_, (by omega), b, cap, n, cur_8, fz, (k + 1), rfl, hnw, hrw, hf_7, (by omega), H3, (Is.of ⟨(by kernel_rfl), (by kernel_rfl), (by kernel_rfl), (by kernel_rfl), (by kernel_rfl), (by kernel_rfl), trivial⟩)⟩
      · skip
        refine s_valE (some 34) (.bool (((BitVec.toNat ((u >>> k) % (2 : BitVec 32)) : Nat) : Int) == 1)) (.bool false) (fun w => by kernel_rfl) (bool_eq (beq_eq_false_iff_ne.2 (by omega))) (by kernel_rfl) ?_
        refine s_val (some 35) (.bool false) (fun w => by kernel_rfl) (by kernel_rfl) ?_
        refine s_nil ?_
        refine g_cond_f (by kernel_rfl) (by kernel_rfl) ?_
        refine g_skip (by kernel_rfl) ?_
        show WP _ _ _ _ _ _
        refine g_reg0 [0, 1, 2] (by kernel_rfl) ?_
        refine s_val (some 14) (.int .i64 ((k : Nat) : Int)) (fun w => by kernel_rfl) (by kernel_rfl) ?_
        refine s_valE (some 15) (.int .i64 (IntKind.i64.wrap (((k : Nat) : Int) + 1))) (.int .i64 ((k + 1 : Nat) : Int)) (fun w => by kernel_rfl) (int_eq (wrapAdd_i64 (a := k) (b := 1) (by omega))) (by kernel_rfl) ?_
        refine s_val (some 8) (.int .i64 ((k + 1 : Nat) : Int)) (fun w => by kernel_rfl) (by kernel_rfl) ?_
        refine s_nil ?_
        have hgo : turnL (tl s) p u (k + 1) = turnL (tl s) p u k := turn_no (tl s) p u k (by rw [tl_len]; omega)
        have hrw := hr; have hnw : n = List.length (turnL (tl s) p u k) := hn; rw [← hgo] at hrw hnw
        show ∃ m, _ ∧ _
        exact ⟨_, (by omega), b, cap, n, cur, fz, (k + 1), rfl, hnw, hrw, hf, (by omega), H2, (Is.of ⟨(by kernel_rfl), (by kernel_rfl), (by kernel_rfl), (by kernel_rfl), (by kernel_rfl), (by kernel_rfl), trivial⟩)⟩
    · skip
      refine s_valE (some 26) (.bool (decide (((p + k : Nat) : Int) < ((8 * n : Nat) : Int)))) (.bool false) (fun w => by kernel_rfl) (bool_eq (decide_eq_false (by omega))) (by kernel_rfl) ?_
      refine s_val (some 27) (.bool false) (fun w => by kernel_rfl) (by kernel_rfl) ?_
      refine s_val (some 28) (.bool false) (fun w => by kernel_rfl) (by kernel_rfl) ?_
      refine s_not (some 29) (by kernel_rfl) (by kernel_rfl) ?_
      refine s_not (some 30) (by kernel_rfl) (by kernel_rfl) ?_
      refine s_not (some 31) (by kernel_rfl) (by kernel_rfl) ?_
      refine s_not (some 32) (by kernel_rfl) (by kernel_rfl) ?_
      refine s_not (some 33) (by kernel_rfl) (by kernel_rfl) ?_
      refine s_not (some 34) (by kernel_rfl) (by kernel_rfl) ?_
      refine s_val (some 35) (.bool false) (fun w => by kernel_rfl) (by kernel_rfl) ?_
      refine s_nil ?_
      refine g_cond_f (by kernel_rfl) (by kernel_rfl) ?_
      refine g_skip (by kernel_rfl) ?_
      show WP _ _ _ _ _ _
      refine g_reg0 [0, 1, 2] (by kernel_rfl) ?_
      refine s_val (some 14) (.int .i64 ((k : Nat) : Int)) (fun w => by kernel_rfl) (by kernel_rfl) ?_
      refine s_valE (some 15) (.int .i64 (IntKind.i64.wrap (((k : Nat) : Int) + 1))) (.int .i64 ((k + 1 : Nat) : Int)) (fun w => by kernel_rfl) (int_eq (wrapAdd_i64 (a := k) (b := 1) (by omega))) (by kernel_rfl) ?_
      refine s_val (some 8) (.int .i64 ((k + 1 : Nat) : Int)) (fun w => by kernel_rfl) (by kernel_rfl) ?_
      refine s_nil ?_
      have hgo : turnL (tl s) p u (k + 1) = turnL (tl s) p u k := turn_no (tl s) p u k (by rw [tl_len]; omega)
      have hrw := hr; have hnw : n = List.length (turnL (tl s) p u k) := hn; rw [← hgo] at hrw hnw
      show ∃ m, _ ∧ _
      exact ⟨_, (by omega), b, cap, n, cur, fz, (k + 1), rfl, hnw, hrw, hf, (by omega), H2, (Is.of ⟨(by kernel_rfl), (by kernel_rfl), (by kernel_rfl), (by kernel_rfl), (by kernel_rfl), (by kernel_rfl), trivial⟩)⟩
  · skip
    refine s_valE (some 13) (.bool (decide (((k : Nat) : Int) < 32))) (.bool false) (fun w => by kernel_rfl) (bool_eq (decide_eq_false (by omega))) (by kernel_rfl) ?_
    refine s_nil ?_
    refine g_cond_f (by kernel_rfl) (by kernel_rfl) ?_
    refine g_exit 0 (by kernel_rfl) ?_
    show WP _ _ _ _ _ _
    refine g_sreg [0, 1, 2] (by kernel_rfl) (by kernel_rfl) ?_
    refine s_val (some 50) (.slice (some ⟨b, 0, none⟩) n cap) (fun w => by kernel_rfl) (by kernel_rfl) ?_
    refine s_bytesStrB H2 (some 51) 43 9 5 (.tmp 50) 0 b n cap cur 5 fz (turnL (tl s) p u k) (by kernel_rfl) (by kernel_rfl) (by kernel_rfl) (by kernel_rfl) (by kernel_rfl) (by kernel_rfl) (by kernel_rfl) hr ?_
    refine s_val (some 6) (.string (strB (turnL (tl s) p u k))) (fun w => by kernel_rfl) (by kernel_rfl) ?_
    refine s_nil ?_
    refine g_ret (by kernel_rfl) ?_
    show ∃ vs, Res _ _ _ _ vs ∧ _
    refine ⟨[.string (strB (turnL (tl s) p u k))], (.tmp (.string (strB (turnL (tl s) p u k))) (by kernel_rfl) .nil), ?_, H2.below⟩
    obtain rfl : k = 32 := by omega
    rfl
end Go.Proofs.Ythipcmpmfjeakaa
