/-
  The reference: the sum, a frame.
-/
import Derived.Test.YthipcmpmfjeakaaProg
import Derived.Test.YthipcmpmfjeakaaCrcF
import Derived.Test.YthipcmpmfjeakaaTxt
import Derived.Test.YthipcmpmfjeakaaCrcScan
namespace Go.Proofs.Ythipcmpmfjeakaa
open Go Go.RowKit Go.Proofs.Crc
set_option linter.unusedVariables false
theorem allsub (x : BitVec 32) : (4294967295 : BitVec 32) - x = ~~~x := by
  rw [show (4294967295 : BitVec 32) = BitVec.allOnes 32 from rfl, BitVec.allOnes_sub_eq_not]
theorem bv_congr {x y : BitVec 32} (h : x = y) : Value.int .u32 ((BitVec.toNat x : Nat) : Int) = .int .u32 ((BitVec.toNat y : Nat) : Int) := by rw [h]

set_option maxRecDepth 100000 in
set_option maxHeartbeats 2000000 in
theorem ofR_fn (s : ByteArray) (hs : ByteArray.size s ≤ 1000000000000000000) : Fn Try.prog 10 #[.string s] (.int .u32 ((BitVec.toNat (crc (tl s)) : Nat) : Int)) := by
  refine Fn.intro (c := codeOf Try.f10) [.tmp 2] 34 Try.func10 (by kernel_rfl) (by kernel_rfl) (by kernel_rfl) fun w => ?_
  have H0 := St.start w
  refine g_sreg [0] (by kernel_rfl) (by kernel_rfl) ?_
  refine s_val (some 2) (.int .u32 0) (fun w => by kernel_rfl) (by kernel_rfl) ?_
  refine s_nil ?_
  refine g_sreg [0] (by kernel_rfl) (by kernel_rfl) ?_
  refine s_val (some 3) (.int .u32 ((BitVec.toNat (reg rg0 ((tl s).take 0)) : Nat) : Int)) (fun w => by kernel_rfl) (by kernel_rfl) ?_
  refine s_nil ?_
  refine g_seq (by kernel_rfl) ?_
  refine g_sreg [0] (by kernel_rfl) (by kernel_rfl) ?_
  refine s_val (some 4) (.int .i64 0) (fun w => by kernel_rfl) (by kernel_rfl) ?_
  refine s_nil ?_
  refine g_block 0 (by kernel_rfl) ?_
  refine g_loop (by kernel_rfl) (fun mz ρ ww => ∃ (i : Nat), ByteArray.size s - i = mz ∧ (i ≤ ByteArray.size s) ∧ St w.heap.size w ww [] ∧ Is [(0, .string s), (2, .int .u32 0), (3, .int .u32 ((BitVec.toNat (reg rg0 ((tl s).take i)) : Nat) : Int)), (4, .int .i64 ((i : Nat) : Int))] ρ) (ByteArray.size s - 0) ⟨0, rfl, (by omega), H0, (Is.of ⟨(by kernel_rfl), (by kernel_rfl), (by kernel_rfl), (by kernel_rfl), trivial⟩)⟩ ?_
  clear H0
  rintro _ _ w1 ⟨i, rfl, hi, H1, _, rfl⟩
  refine g_seq (by kernel_rfl) ?_
  refine g_sreg [0, 1, 2, 3] (by kernel_rfl) (by kernel_rfl) ?_
  refine s_val (some 6) (.int .i64 ((i : Nat) : Int)) (fun w => by kernel_rfl) (by kernel_rfl) ?_
  refine s_val (some 7) (.string s) (fun w => by kernel_rfl) (by kernel_rfl) ?_
  refine s_val (some 8) (.int .i64 ((ByteArray.size s : Nat) : Int)) (fun w => by kernel_rfl) (by kernel_rfl) ?_
  by_cases hc1 : (i : Nat) < ByteArray.size s
  · skip
    refine s_valE (some 9) (.bool (decide (((i : Nat) : Int) < ((ByteArray.size s : Nat) : Int)))) (.bool true) (fun w => by kernel_rfl) (bool_eq (decide_eq_true (by omega))) (by kernel_rfl) ?_
    refine s_nil ?_
    refine g_cond_t (by kernel_rfl) (by kernel_rfl) ?_
    refine g_skip (by kernel_rfl) ?_
    show WP _ _ _ _ _ _
    refine g_seq (by kernel_rfl) ?_
    refine g_block 1 (by kernel_rfl) ?_
    refine g_sreg [0] (by kernel_rfl) (by kernel_rfl) ?_
    refine s_val (some 5) (.int .i64 0) (fun w => by kernel_rfl) (by kernel_rfl) ?_
    refine s_nil ?_
    refine g_block 2 (by kernel_rfl) ?_
    refine g_loop (by kernel_rfl) (fun mz ρ ww => ∃ (q : W) (k : Nat), 8 - k = mz ∧ (k ≤ 8) ∧ (q ^^^ (u32 (List.getD (tl s) i 0)) >>> k = mvk k ((reg rg0 ((tl s).take i)) ^^^ (u32 (List.getD (tl s) i 0)))) ∧ St w.heap.size w ww [] ∧ Is [(0, .string s), (2, .int .u32 0), (3, .int .u32 ((BitVec.toNat q : Nat) : Int)), (4, .int .i64 ((i : Nat) : Int)), (5, .int .i64 ((k : Nat) : Int)), (9, .bool true)] ρ) (8 - 0) ⟨(reg rg0 ((tl s).take i)), 0, rfl, (by omega), (by rw [BitVec.ushiftRight_zero]; rfl), H1, (Is.of ⟨(by kernel_rfl), (by kernel_rfl), (by kernel_rfl), (by kernel_rfl), (by kernel_rfl), (by kernel_rfl), trivial⟩)⟩ ?_
    clear H1
    rintro _ _ w2 ⟨q, k, rfl, hk, hq, H2, _, rfl⟩
    refine g_seq (by kernel_rfl) ?_
    refine g_sreg [0, 1] (by kernel_rfl) (by kernel_rfl) ?_
    refine s_val (some 12) (.int .i64 ((k : Nat) : Int)) (fun w => by kernel_rfl) (by kernel_rfl) ?_
    by_cases hc2 : (k : Nat) < 8
    · skip
      refine s_valE (some 13) (.bool (decide (((k : Nat) : Int) < 8))) (.bool true) (fun w => by kernel_rfl) (bool_eq (decide_eq_true (by omega))) (by kernel_rfl) ?_
      refine s_nil ?_
      refine g_cond_t (by kernel_rfl) (by kernel_rfl) ?_
      refine g_skip (by kernel_rfl) ?_
      show WP _ _ _ _ _ _
      refine g_seq (by kernel_rfl) ?_
      refine g_block 3 (by kernel_rfl) ?_
      refine g_sreg [0, 1, 2, 3, 4, 5, 6, 7, 8, 9, 10] (by kernel_rfl) (by kernel_rfl) ?_
      refine s_val (some 16) (.int .u32 ((BitVec.toNat q : Nat) : Int)) (fun w => by kernel_rfl) (by kernel_rfl) ?_
      refine s_valE (some 17) (.int .u32 (Int.tmod (((BitVec.toNat q : Nat) : Int)) (2))) (.int .u32 ((BitVec.toNat (q % (2 : BitVec 32)) : Nat) : Int)) (fun w => by kernel_rfl) (bv_rem_u32 q (2 : BitVec 32)) (by kernel_rfl) ?_
      refine s_val (some 18) (.string s) (fun w => by kernel_rfl) (by kernel_rfl) ?_
      refine s_val (some 19) (.int .i64 ((i : Nat) : Int)) (fun w => by kernel_rfl) (by kernel_rfl) ?_
      refine s_op (some 20) _ (.int .u8 ((BitVec.toNat (UInt8.toBitVec (List.getD (tl s) i 0)) : Nat) : Int)) (by kernel_rfl) (by kernel_rfl) (fun o w ho => sindex_run (t := 9) (kd := .i64) (by kernel_rfl) (x := (.tmp 18)) (y := (.tmp 19)) s i ho (by kernel_rfl) (by kernel_rfl) (by omega) w) ?_
      refine s_valE (some 21) (.int .u32 (IntKind.u32.wrap (((BitVec.toNat (UInt8.toBitVec (List.getD (tl s) i 0)) : Nat) : Int)))) (.int .u32 ((BitVec.toNat (u32 (List.getD (tl s) i 0)) : Nat) : Int)) (fun w => by kernel_rfl) (bv_ofNat_u32 (UInt8.toNat (List.getD (tl s) i 0))) (by kernel_rfl) ?_
      refine s_val (some 22) (.int .i64 ((k : Nat) : Int)) (fun w => by kernel_rfl) (by kernel_rfl) ?_
      refine s_valE (some 23) (.int .u64 (IntKind.u64.wrap (((k : Nat) : Int)))) (.int .u64 ((k : Nat) : Int)) (fun w => by kernel_rfl) (int_eq (wrapN_u64 (a := k) (by omega))) (by kernel_rfl) ?_
      refine s_valE (some 24) (.int .u32 (Int.fdiv (((BitVec.toNat (u32 (List.getD (tl s) i 0)) : Nat) : Int)) (2 ^ (min k 32)))) (.int .u32 ((BitVec.toNat ((u32 (List.getD (tl s) i 0)) >>> k) : Nat) : Int)) (fun w => by kernel_rfl) (bv_shr_u32 (u32 (List.getD (tl s) i 0)) k) (by kernel_rfl) ?_
      refine s_valE (some 25) (.int .u32 (Int.tmod (((BitVec.toNat ((u32 (List.getD (tl s) i 0)) >>> k) : Nat) : Int)) (2))) (.int .u32 ((BitVec.toNat (((u32 (List.getD (tl s) i 0)) >>> k) % (2 : BitVec 32)) : Nat) : Int)) (fun w => by kernel_rfl) (bv_rem_u32 ((u32 (List.getD (tl s) i 0)) >>> k) (2 : BitVec 32)) (by kernel_rfl) ?_
      by_cases hc3 : ((BitVec.toNat (q % (2 : BitVec 32))) : Nat) ≠ (BitVec.toNat (((u32 (List.getD (tl s) i 0)) >>> k) % (2 : BitVec 32)))
      · skip
        refine s_valE (some 26) (.bool (!(((BitVec.toNat (q % (2 : BitVec 32)) : Nat) : Int) == ((BitVec.toNat (((u32 (List.getD (tl s) i 0)) >>> k) % (2 : BitVec 32)) : Nat) : Int)))) (.bool true) (fun w => by kernel_rfl) (bool_eq (by rw [beq_eq_false_iff_ne.2 (by omega)]; rfl)) (by kernel_rfl) ?_
        refine s_nil ?_
        refine g_cond_t (by kernel_rfl) (by kernel_rfl) ?_
        refine g_reg0 [0, 1, 2, 3] (by kernel_rfl) ?_
        refine s_val (some 27) (.int .u32 ((BitVec.toNat q : Nat) : Int)) (fun w => by kernel_rfl) (by kernel_rfl) ?_
        refine s_valE (some 28) (.int .u32 (IntKind.u32.wrap (Int.tdiv (((BitVec.toNat q : Nat) : Int)) (2)))) (.int .u32 ((BitVec.toNat (q / (2 : BitVec 32)) : Nat) : Int)) (fun w => by kernel_rfl) (bv_quo_u32 q (2 : BitVec 32)) (by kernel_rfl) ?_
        refine s_valE (some 29) (.int .u32 (Go.bits .xor .u32 (((BitVec.toNat (q / (2 : BitVec 32)) : Nat) : Int)) (3988292384))) (.int .u32 ((BitVec.toNat ((q / (2 : BitVec 32)) ^^^ (3988292384 : BitVec 32)) : Nat) : Int)) (fun w => by kernel_rfl) (bv_xor_u32 (q / (2 : BitVec 32)) (3988292384 : BitVec 32)) (by kernel_rfl) ?_
        refine s_val (some 3) (.int .u32 ((BitVec.toNat ((q / (2 : BitVec 32)) ^^^ (3988292384 : BitVec 32)) : Nat) : Int)) (fun w => by kernel_rfl) (by kernel_rfl) ?_
        refine s_nil ?_
        show WP _ _ _ _ _ _
        refine g_reg0 [0, 1, 2] (by kernel_rfl) ?_
        refine s_val (some 14) (.int .i64 ((k : Nat) : Int)) (fun w => by kernel_rfl) (by kernel_rfl) ?_
        refine s_valE (some 15) (.int .i64 (IntKind.i64.wrap (((k : Nat) : Int) + 1))) (.int .i64 ((k + 1 : Nat) : Int)) (fun w => by kernel_rfl) (int_eq (wrapAdd_i64 (a := k) (b := 1) (by omega))) (by kernel_rfl) ?_
        refine s_val (some 5) (.int .i64 ((k + 1 : Nat) : Int)) (fun w => by kernel_rfl) (by kernel_rfl) ?_
        refine s_nil ?_
        show ∃ m, _ ∧ _
        exact ⟨_, (by omega), (q / (2 : BitVec 32)) ^^^ (3988292384 : BitVec 32), (k + 1), rfl, (by omega), ((ref_step hq).1 hc3), H2, (Is.of ⟨(by kernel_rfl), (by kernel_rfl), (by kernel_rfl), (by kernel_rfl), (by kernel_rfl), (by kernel_rfl), trivial⟩)⟩
      · skip
        refine s_valE (some 26) (.bool (!(((BitVec.toNat (q % (2 : BitVec 32)) : Nat) : Int) == ((BitVec.toNat (((u32 (List.getD (tl s) i 0)) >>> k) % (2 : BitVec 32)) : Nat) : Int)))) (.bool false) (fun w => by kernel_rfl) (bool_eq (by rw [beq_iff_eq.2 (by omega)]; rfl)) (by kernel_rfl) ?_
        refine s_nil ?_
        refine g_cond_f (by kernel_rfl) (by kernel_rfl) ?_
        refine g_reg0 [0, 1, 2] (by kernel_rfl) ?_
        refine s_val (some 30) (.int .u32 ((BitVec.toNat q : Nat) : Int)) (fun w => by kernel_rfl) (by kernel_rfl) ?_
        refine s_valE (some 31) (.int .u32 (IntKind.u32.wrap (Int.tdiv (((BitVec.toNat q : Nat) : Int)) (2)))) (.int .u32 ((BitVec.toNat (q / (2 : BitVec 32)) : Nat) : Int)) (fun w => by kernel_rfl) (bv_quo_u32 q (2 : BitVec 32)) (by kernel_rfl) ?_
        refine s_val (some 3) (.int .u32 ((BitVec.toNat (q / (2 : BitVec 32)) : Nat) : Int)) (fun w => by kernel_rfl) (by kernel_rfl) ?_
        refine s_nil ?_
        show WP _ _ _ _ _ _
        refine g_reg0 [0, 1, 2] (by kernel_rfl) ?_
        refine s_val (some 14) (.int .i64 ((k : Nat) : Int)) (fun w => by kernel_rfl) (by kernel_rfl) ?_
        refine s_valE (some 15) (.int .i64 (IntKind.i64.wrap (((k : Nat) : Int) + 1))) (.int .i64 ((k + 1 : Nat) : Int)) (fun w => by kernel_rfl) (int_eq (wrapAdd_i64 (a := k) (b := 1) (by omega))) (by kernel_rfl) ?_
        refine s_val (some 5) (.int .i64 ((k + 1 : Nat) : Int)) (fun w => by kernel_rfl) (by kernel_rfl) ?_
        refine s_nil ?_
        show ∃ m, _ ∧ _
        exact ⟨_, (by omega), (q / (2 : BitVec 32)), (k + 1), rfl, (by omega), ((ref_step hq).2 hc3), H2, (Is.of ⟨(by kernel_rfl), (by kernel_rfl), (by kernel_rfl), (by kernel_rfl), (by kernel_rfl), (by kernel_rfl), trivial⟩)⟩
    · skip
      refine s_valE (some 13) (.bool (decide (((k : Nat) : Int) < 8))) (.bool false) (fun w => by kernel_rfl) (bool_eq (decide_eq_false (by omega))) (by kernel_rfl) ?_
      refine s_nil ?_
      refine g_cond_f (by kernel_rfl) (by kernel_rfl) ?_
      refine g_exit 2 (by kernel_rfl) ?_
      show WP _ _ _ _ _ _
      refine g_reg0 [0, 1, 2] (by kernel_rfl) ?_
      refine s_val (some 10) (.int .i64 ((i : Nat) : Int)) (fun w => by kernel_rfl) (by kernel_rfl) ?_
      refine s_valE (some 11) (.int .i64 (IntKind.i64.wrap (((i : Nat) : Int) + 1))) (.int .i64 ((i + 1 : Nat) : Int)) (fun w => by kernel_rfl) (int_eq (wrapAdd_i64 (a := i) (b := 1) (by omega))) (by kernel_rfl) ?_
      refine s_val (some 4) (.int .i64 ((i + 1 : Nat) : Int)) (fun w => by kernel_rfl) (by kernel_rfl) ?_
      refine s_nil ?_
      obtain rfl : k = 8 := by omega
      have hq2 : q = reg rg0 ((tl s).take (i + 1)) := by rw [reg_take rg0 (tl s) i (by rw [tl_len]; omega)]; exact ref_byte hq
      rw [hq2]
      show ∃ m, _ ∧ _
      exact ⟨_, (by omega), (i + 1), rfl, (by omega), H2, (Is.of ⟨(by kernel_rfl), (by kernel_rfl), (by kernel_rfl), (by kernel_rfl), trivial⟩)⟩
  · skip
    refine s_valE (some 9) (.bool (decide (((i : Nat) : Int) < ((ByteArray.size s : Nat) : Int)))) (.bool false) (fun w => by kernel_rfl) (bool_eq (decide_eq_false (by omega))) (by kernel_rfl) ?_
    refine s_nil ?_
    refine g_cond_f (by kernel_rfl) (by kernel_rfl) ?_
    refine g_exit 0 (by kernel_rfl) ?_
    show WP _ _ _ _ _ _
    refine g_sreg [0, 1, 2] (by kernel_rfl) (by kernel_rfl) ?_
    refine s_val (some 32) (.int .u32 ((BitVec.toNat (reg rg0 ((tl s).take i)) : Nat) : Int)) (fun w => by kernel_rfl) (by kernel_rfl) ?_
    refine s_valE (some 33) (.int .u32 (IntKind.u32.wrap ((4294967295) - (((BitVec.toNat (reg rg0 ((tl s).take i)) : Nat) : Int))))) (.int .u32 ((BitVec.toNat (~~~(reg rg0 ((tl s).take i))) : Nat) : Int)) (fun w => by kernel_rfl) ((bv_sub_u32 (4294967295 : BitVec 32) (reg rg0 ((tl s).take i))).trans (bv_congr (allsub (reg rg0 ((tl s).take i))))) (by kernel_rfl) ?_
    refine s_val (some 2) (.int .u32 ((BitVec.toNat (~~~(reg rg0 ((tl s).take i))) : Nat) : Int)) (fun w => by kernel_rfl) (by kernel_rfl) ?_
    refine s_nil ?_
    refine g_ret (by kernel_rfl) ?_
    show ∃ vs, Res _ _ _ _ vs ∧ _
    refine ⟨[.int .u32 ((BitVec.toNat (~~~(reg rg0 ((tl s).take i))) : Nat) : Int)], (.tmp (.int .u32 ((BitVec.toNat (~~~(reg rg0 ((tl s).take i))) : Nat) : Int)) (by kernel_rfl) .nil), ?_, H1.below⟩
    rw [List.take_of_length_le (show (tl s).length ≤ i by rw [tl_len]; omega)]; rfl

set_option maxRecDepth 100000 in
set_option maxHeartbeats 2000000 in
theorem isRec_yes (s : ByteArray) (h : 1 ≤ ByteArray.size s ∧ ByteArray.size s ≤ 4000) : Fn Try.prog 12 #[.string s] (.bool true) := by
  refine Fn.intro (c := codeOf Try.f12) [.tmp 2] 11 Try.func12 (by kernel_rfl) (by kernel_rfl) (by kernel_rfl) fun w => ?_
  have H0 := St.start w
  refine g_sreg [0] (by kernel_rfl) (by kernel_rfl) ?_
  refine s_val (some 2) (.bool false) (fun w => by kernel_rfl) (by kernel_rfl) ?_
  refine s_nil ?_
  refine g_sreg [0, 1, 2, 3, 4, 5, 6, 7, 8] (by kernel_rfl) (by kernel_rfl) ?_
  refine s_val (some 3) (.string s) (fun w => by kernel_rfl) (by kernel_rfl) ?_
  refine s_val (some 4) (.int .i64 ((ByteArray.size s : Nat) : Int)) (fun w => by kernel_rfl) (by kernel_rfl) ?_
  refine s_valE (some 5) (.bool (decide (1 ≤ ((ByteArray.size s : Nat) : Int)))) (.bool true) (fun w => by kernel_rfl) (bool_eq (decide_eq_true (by omega))) (by kernel_rfl) ?_
  refine s_val (some 6) (.bool true) (fun w => by kernel_rfl) (by kernel_rfl) ?_
  refine s_val (some 7) (.string s) (fun w => by kernel_rfl) (by kernel_rfl) ?_
  refine s_val (some 8) (.int .i64 ((ByteArray.size s : Nat) : Int)) (fun w => by kernel_rfl) (by kernel_rfl) ?_
  refine s_valE (some 9) (.bool (decide (((ByteArray.size s : Nat) : Int) ≤ 4000))) (.bool true) (fun w => by kernel_rfl) (bool_eq (decide_eq_true (by omega))) (by kernel_rfl) ?_
  refine s_val (some 10) (.bool true) (fun w => by kernel_rfl) (by kernel_rfl) ?_
  refine s_val (some 2) (.bool true) (fun w => by kernel_rfl) (by kernel_rfl) ?_
  refine s_nil ?_
  refine g_ret (by kernel_rfl) ?_
  show ∃ vs, Res _ _ _ _ vs ∧ _
  refine ⟨[.bool true], (.tmp (.bool true) (by kernel_rfl) .nil), ?_, H0.below⟩
  rfl

set_option maxRecDepth 100000 in
set_option maxHeartbeats 2000000 in
theorem isRec_no (s : ByteArray) (h : ¬ (1 ≤ ByteArray.size s ∧ ByteArray.size s ≤ 4000)) : Fn Try.prog 12 #[.string s] (.bool false) := by
  refine Fn.intro (c := codeOf Try.f12) [.tmp 2] 11 Try.func12 (by kernel_rfl) (by kernel_rfl) (by kernel_rfl) fun w => ?_
  have H0 := St.start w
  refine g_sreg [0] (by kernel_rfl) (by kernel_rfl) ?_
  refine s_val (some 2) (.bool false) (fun w => by kernel_rfl) (by kernel_rfl) ?_
  refine s_nil ?_
  refine g_sreg [0, 1, 2, 3, 4, 5, 6, 7, 8] (by kernel_rfl) (by kernel_rfl) ?_
  refine s_val (some 3) (.string s) (fun w => by kernel_rfl) (by kernel_rfl) ?_
  refine s_val (some 4) (.int .i64 ((ByteArray.size s : Nat) : Int)) (fun w => by kernel_rfl) (by kernel_rfl) ?_
  by_cases hc1 : (ByteArray.size s : Nat) ≥ 1
  · skip
    refine s_valE (some 5) (.bool (decide (1 ≤ ((ByteArray.size s : Nat) : Int)))) (.bool true) (fun w => by kernel_rfl) (bool_eq (decide_eq_true (by omega))) (by kernel_rfl) ?_
    refine s_val (some 6) (.bool true) (fun w => by kernel_rfl) (by kernel_rfl) ?_
    refine s_val (some 7) (.string s) (fun w => by kernel_rfl) (by kernel_rfl) ?_
    refine s_val (some 8) (.int .i64 ((ByteArray.size s : Nat) : Int)) (fun w => by kernel_rfl) (by kernel_rfl) ?_
    refine s_valE (some 9) (.bool (decide (((ByteArray.size s : Nat) : Int) ≤ 4000))) (.bool false) (fun w => by kernel_rfl) (bool_eq (decide_eq_false (by omega))) (by kernel_rfl) ?_
    refine s_val (some 10) (.bool false) (fun w => by kernel_rfl) (by kernel_rfl) ?_
    refine s_val (some 2) (.bool false) (fun w => by kernel_rfl) (by kernel_rfl) ?_
    refine s_nil ?_
    refine g_ret (by kernel_rfl) ?_
    show ∃ vs, Res _ _ _ _ vs ∧ _
    refine ⟨[.bool false], (.tmp (.bool false) (by kernel_rfl) .nil), ?_, H0.below⟩
    rfl
  · skip
    refine s_valE (some 5) (.bool (decide (1 ≤ ((ByteArray.size s : Nat) : Int)))) (.bool false) (fun w => by kernel_rfl) (bool_eq (decide_eq_false (by omega))) (by kernel_rfl) ?_
    refine s_val (some 6) (.bool false) (fun w => by kernel_rfl) (by kernel_rfl) ?_
    refine s_not (some 7) (by kernel_rfl) (by kernel_rfl) ?_
    refine s_not (some 8) (by kernel_rfl) (by kernel_rfl) ?_
    refine s_not (some 9) (by kernel_rfl) (by kernel_rfl) ?_
    refine s_val (some 10) (.bool false) (fun w => by kernel_rfl) (by kernel_rfl) ?_
    refine s_val (some 2) (.bool false) (fun w => by kernel_rfl) (by kernel_rfl) ?_
    refine s_nil ?_
    refine g_ret (by kernel_rfl) ?_
    show ∃ vs, Res _ _ _ _ vs ∧ _
    refine ⟨[.bool false], (.tmp (.bool false) (by kernel_rfl) .nil), ?_, H0.below⟩
    rfl

theorem b8_of (x : W) (n : Nat) (h : x.toNat = n) : ((BitVec.toNat (BitVec.setWidth 8 x) : Nat) : Int) = (((UInt8.ofNat n).toNat : Nat) : Int) := by
  rw [BitVec.toNat_setWidth, h, UInt8.toNat_ofNat']
theorem fr2 (s : ByteArray) (h : ByteArray.size s ≤ 4000) : strOfNums [((BitVec.toNat (BitVec.ofNat 8 (ByteArray.size s % 256)) : Nat) : Int), ((BitVec.toNat (BitVec.ofNat 8 (ByteArray.size s / 256)) : Nat) : Int)] = strB (le (BitVec.ofNat 32 (tl s).length) 2) := by
  have hl : (tl s).length = ByteArray.size s := tl_len s
  rw [hl, ← strOfNums_map]
  refine congrArg strOfNums ?_
  rw [le2]
  show _ = [((UInt8.ofNat (ByteArray.size s)).toNat : Int), (((UInt8.ofBitVec (BitVec.setWidth 8 (BitVec.ofNat 32 (ByteArray.size s) >>> 8))).toNat : Nat) : Int)]
  rw [hi2 _ (by omega), UInt8.toNat_ofNat', BitVec.toNat_ofNat, BitVec.toNat_ofNat]
  congr 1
  · omega
  · congr 1; omega
theorem fr4 (n : W) : strOfNums [((BitVec.toNat (BitVec.setWidth 8 (n % (256 : BitVec 32))) : Nat) : Int), ((BitVec.toNat (BitVec.setWidth 8 (n / (256 : BitVec 32) % (256 : BitVec 32))) : Nat) : Int), ((BitVec.toNat (BitVec.setWidth 8 (n / (65536 : BitVec 32) % (256 : BitVec 32))) : Nat) : Int), ((BitVec.toNat (BitVec.setWidth 8 (n / (16777216 : BitVec 32))) : Nat) : Int)] = strB (le n 4) := by
  rw [← strOfNums_map]
  refine congrArg strOfNums ?_
  show _ = [(((BitVec.setWidth 8 (n >>> 0)).toNat : Nat) : Int), (((BitVec.setWidth 8 (n >>> 8)).toNat : Nat) : Int), (((BitVec.setWidth 8 (n >>> 16)).toNat : Nat) : Int), (((BitVec.setWidth 8 (n >>> 24)).toNat : Nat) : Int)]
  have e : ∀ k, (BitVec.setWidth 8 (n >>> k)).toNat = n.toNat / 2 ^ k % 256 := fun k => by
    rw [BitVec.toNat_setWidth, BitVec.toNat_ushiftRight, Nat.shiftRight_eq_div_pow]
  rw [e, e, e, e]
  simp only [BitVec.toNat_setWidth, BitVec.toNat_umod, BitVec.toNat_udiv]
  show [((n.toNat % 256 % 256 : Nat) : Int), ((n.toNat / 256 % 256 % 256 : Nat) : Int), ((n.toNat / 65536 % 256 % 256 : Nat) : Int), ((n.toNat / 16777216 % 256 : Nat) : Int)] = [((n.toNat / 1 % 256 : Nat) : Int), ((n.toNat / 256 % 256 : Nat) : Int), ((n.toNat / 65536 % 256 : Nat) : Int), ((n.toNat / 16777216 % 256 : Nat) : Int)]
  rw [Nat.div_one, Nat.mod_mod, Nat.mod_mod, Nat.mod_mod]

set_option maxRecDepth 100000 in
set_option maxHeartbeats 2000000 in
theorem frameR_fn (s : ByteArray) (hs : ByteArray.size s ≤ 4000) : Fn Try.prog 13 #[.string s] (.string (strB (frB (tl s)))) := by
  refine Fn.intro (c := codeOf Try.f13) [.tmp 2] 37 Try.func13 (by kernel_rfl) (by kernel_rfl) (by kernel_rfl) fun w => ?_
  have H0 := St.start w
  refine g_sreg [0] (by kernel_rfl) (by kernel_rfl) ?_
  refine s_val (some 2) (.string (⟨#[]⟩)) (fun w => by kernel_rfl) (by kernel_rfl) ?_
  refine s_nil ?_
  refine g_sreg [0, 1, 2, 3, 4, 5, 6, 7, 8, 9, 10, 11, 12] (by kernel_rfl) (by kernel_rfl) ?_
  refine s_val (some 5) (.string s) (fun w => by kernel_rfl) (by kernel_rfl) ?_
  refine s_val (some 6) (.int .i64 ((ByteArray.size s : Nat) : Int)) (fun w => by kernel_rfl) (by kernel_rfl) ?_
  refine s_valE (some 7) (.int .i64 (Int.tmod ((ByteArray.size s : Nat) : Int) 256)) (.int .i64 (((ByteArray.size s) % 256 : Nat) : Int)) (fun w => by kernel_rfl) (int_eq (remN (ByteArray.size s) 256)) (by kernel_rfl) ?_
  refine s_valE (some 8) (.int .u8 (IntKind.u8.wrap ((((ByteArray.size s) % 256 : Nat) : Int)))) (.int .u8 ((BitVec.toNat (BitVec.ofNat 8 ((ByteArray.size s) % 256)) : Nat) : Int)) (fun w => by kernel_rfl) (bv_ofNat_u8 ((ByteArray.size s) % 256)) (by kernel_rfl) ?_
  refine s_val (some 9) (.string s) (fun w => by kernel_rfl) (by kernel_rfl) ?_
  refine s_val (some 10) (.int .i64 ((ByteArray.size s : Nat) : Int)) (fun w => by kernel_rfl) (by kernel_rfl) ?_
  refine s_valE (some 11) (.int .i64 (IntKind.i64.wrap (((ByteArray.size s : Nat) : Int).tdiv 256))) (.int .i64 (((ByteArray.size s) / 256 : Nat) : Int)) (fun w => by kernel_rfl) (int_eq (quoN_i64 (a := ByteArray.size s) (b := 256) (by omega))) (by kernel_rfl) ?_
  refine s_valE (some 12) (.int .u8 (IntKind.u8.wrap ((((ByteArray.size s) / 256 : Nat) : Int)))) (.int .u8 ((BitVec.toNat (BitVec.ofNat 8 ((ByteArray.size s) / 256)) : Nat) : Int)) (fun w => by kernel_rfl) (bv_ofNat_u8 ((ByteArray.size s) / 256)) (by kernel_rfl) ?_
  refine s_new H0 (some 13) (fun b => .slice (some ⟨b, 0, none⟩) 2 2) #[.int .u8 ((BitVec.toNat (BitVec.ofNat 8 ((ByteArray.size s) % 256)) : Nat) : Int), .int .u8 ((BitVec.toNat (BitVec.ofNat 8 ((ByteArray.size s) / 256)) : Nat) : Int)] 5 (fun w => by kernel_rfl) (by kernel_rfl) ?_
  intro b1 w1 H1; clear H0
  refine s_bytesStr H1 (some 14) 43 9 5 (.tmp 13) 0 b1 2 2 #[.int .u8 ((BitVec.toNat (BitVec.ofNat 8 ((ByteArray.size s) % 256)) : Nat) : Int), .int .u8 ((BitVec.toNat (BitVec.ofNat 8 ((ByteArray.size s) / 256)) : Nat) : Int)] 5 (0, 0) ([((BitVec.toNat (BitVec.ofNat 8 ((ByteArray.size s) % 256)) : Nat) : Int), ((BitVec.toNat (BitVec.ofNat 8 ((ByteArray.size s) / 256)) : Nat) : Int)]) (by kernel_rfl) (by kernel_rfl) (by kernel_rfl) (by kernel_rfl) (by kernel_rfl) (by kernel_rfl) (by kernel_rfl) (Rw.lit #[.int .u8 ((BitVec.toNat (BitVec.ofNat 8 ((ByteArray.size s) % 256)) : Nat) : Int), .int .u8 ((BitVec.toNat (BitVec.ofNat 8 ((ByteArray.size s) / 256)) : Nat) : Int)] 2 (by rfl) (by unfold maxLen; omega)) ?_
  rw [show strOfNums ([((BitVec.toNat (BitVec.ofNat 8 ((ByteArray.size s) % 256)) : Nat) : Int), ((BitVec.toNat (BitVec.ofNat 8 ((ByteArray.size s) / 256)) : Nat) : Int)]) = strB (le (BitVec.ofNat 32 (tl s).length) 2) from fr2 s (by omega)]
  refine s_val (some 15) (.string s) (fun w => by kernel_rfl) (by kernel_rfl) ?_
  have hz1 : ByteArray.size ((strB (le (BitVec.ofNat 32 (tl s).length) 2)) ++ s) = ByteArray.size (strB (le (BitVec.ofNat 32 (tl s).length) 2)) + ByteArray.size s := add_size _ _
  have hz2 : ByteArray.size (strB (le (BitVec.ofNat 32 (tl s).length) 2)) = 2 := le_size _ _
  refine s_op (some 16) _ (.string ((strB (le (BitVec.ofNat 32 (tl s).length) 2)) ++ s)) (by kernel_rfl) (by kernel_rfl) (fun o w ho => sadd_run (t := 9) (t' := 9) (x := (.tmp 14)) (y := (.tmp 15)) (strB (le (BitVec.ofNat 32 (tl s).length) 2)) s w ho (by kernel_rfl) (by kernel_rfl) (by omega)) ?_
  refine s_val (some 3) (.string ((strB (le (BitVec.ofNat 32 (tl s).length) 2)) ++ s)) (fun w => by kernel_rfl) (by kernel_rfl) ?_
  refine s_nil ?_
  refine g_sreg [0, 1, 2] (by kernel_rfl) (by kernel_rfl) ?_
  refine s_val (some 17) (.string ((strB (le (BitVec.ofNat 32 (tl s).length) 2)) ++ s)) (fun w => by kernel_rfl) (by kernel_rfl) ?_
  refine s_call H1 (some 18) 10 #[.string ((strB (le (BitVec.ofNat 32 (tl s).length) 2)) ++ s)] (.int .u32 ((BitVec.toNat (crc (tl ((strB (le (BitVec.ofNat 32 (tl s).length) 2)) ++ s))) : Nat) : Int)) (ofR_fn ((strB (le (BitVec.ofNat 32 (tl s).length) 2)) ++ s) (by omega)) (fun w => by kernel_rfl) (by kernel_rfl) ?_
  intro w2 H2; clear H1
  refine s_val (some 4) (.int .u32 ((BitVec.toNat (crc (tl ((strB (le (BitVec.ofNat 32 (tl s).length) 2)) ++ s))) : Nat) : Int)) (fun w => by kernel_rfl) (by kernel_rfl) ?_
  refine s_nil ?_
  refine g_sreg [0, 1, 2, 3, 4, 5, 6, 7, 8, 9, 10, 11, 12, 13, 14, 15, 16, 17, 18] (by kernel_rfl) (by kernel_rfl) ?_
  refine s_val (some 19) (.string ((strB (le (BitVec.ofNat 32 (tl s).length) 2)) ++ s)) (fun w => by kernel_rfl) (by kernel_rfl) ?_
  refine s_val (some 20) (.int .u32 ((BitVec.toNat (crc (tl ((strB (le (BitVec.ofNat 32 (tl s).length) 2)) ++ s))) : Nat) : Int)) (fun w => by kernel_rfl) (by kernel_rfl) ?_
  refine s_valE (some 21) (.int .u32 (Int.tmod (((BitVec.toNat (crc (tl ((strB (le (BitVec.ofNat 32 (tl s).length) 2)) ++ s))) : Nat) : Int)) (256))) (.int .u32 ((BitVec.toNat ((crc (tl ((strB (le (BitVec.ofNat 32 (tl s).length) 2)) ++ s))) % (256 : BitVec 32)) : Nat) : Int)) (fun w => by kernel_rfl) (bv_rem_u32 (crc (tl ((strB (le (BitVec.ofNat 32 (tl s).length) 2)) ++ s))) (256 : BitVec 32)) (by kernel_rfl) ?_
  refine s_valE (some 22) (.int .u8 (IntKind.u8.wrap (((BitVec.toNat ((crc (tl ((strB (le (BitVec.ofNat 32 (tl s).length) 2)) ++ s))) % (256 : BitVec 32)) : Nat) : Int)))) (.int .u8 ((BitVec.toNat (BitVec.setWidth 8 ((crc (tl ((strB (le (BitVec.ofNat 32 (tl s).length) 2)) ++ s))) % (256 : BitVec 32))) : Nat) : Int)) (fun w => by kernel_rfl) (bv_conv_u8 ((crc (tl ((strB (le (BitVec.ofNat 32 (tl s).length) 2)) ++ s))) % (256 : BitVec 32))) (by kernel_rfl) ?_
  refine s_val (some 23) (.int .u32 ((BitVec.toNat (crc (tl ((strB (le (BitVec.ofNat 32 (tl s).length) 2)) ++ s))) : Nat) : Int)) (fun w => by kernel_rfl) (by kernel_rfl) ?_
  refine s_valE (some 24) (.int .u32 (IntKind.u32.wrap (Int.tdiv (((BitVec.toNat (crc (tl ((strB (le (BitVec.ofNat 32 (tl s).length) 2)) ++ s))) : Nat) : Int)) (256)))) (.int .u32 ((BitVec.toNat ((crc (tl ((strB (le (BitVec.ofNat 32 (tl s).length) 2)) ++ s))) / (256 : BitVec 32)) : Nat) : Int)) (fun w => by kernel_rfl) (bv_quo_u32 (crc (tl ((strB (le (BitVec.ofNat 32 (tl s).length) 2)) ++ s))) (256 : BitVec 32)) (by kernel_rfl) ?_
  refine s_valE (some 25) (.int .u32 (Int.tmod (((BitVec.toNat ((crc (tl ((strB (le (BitVec.ofNat 32 (tl s).length) 2)) ++ s))) / (256 : BitVec 32)) : Nat) : Int)) (256))) (.int .u32 ((BitVec.toNat (((crc (tl ((strB (le (BitVec.ofNat 32 (tl s).length) 2)) ++ s))) / (256 : BitVec 32)) % (256 : BitVec 32)) : Nat) : Int)) (fun w => by kernel_rfl) (bv_rem_u32 ((crc (tl ((strB (le (BitVec.ofNat 32 (tl s).length) 2)) ++ s))) / (256 : BitVec 32)) (256 : BitVec 32)) (by kernel_rfl) ?_
  refine s_valE (some 26) (.int .u8 (IntKind.u8.wrap (((BitVec.toNat (((crc (tl ((strB (le (BitVec.ofNat 32 (tl s).length) 2)) ++ s))) / (256 : BitVec 32)) % (256 : BitVec 32)) : Nat) : Int)))) (.int .u8 ((BitVec.toNat (BitVec.setWidth 8 (((crc (tl ((strB (le (BitVec.ofNat 32 (tl s).length) 2)) ++ s))) / (256 : BitVec 32)) % (256 : BitVec 32))) : Nat) : Int)) (fun w => by kernel_rfl) (bv_conv_u8 (((crc (tl ((strB (le (BitVec.ofNat 32 (tl s).length) 2)) ++ s))) / (256 : BitVec 32)) % (256 : BitVec 32))) (by kernel_rfl) ?_
  refine s_val (some 27) (.int .u32 ((BitVec.toNat (crc (tl ((strB (le (BitVec.ofNat 32 (tl s).length) 2)) ++ s))) : Nat) : Int)) (fun w => by kernel_rfl) (by kernel_rfl) ?_
  refine s_valE (some 28) (.int .u32 (IntKind.u32.wrap (Int.tdiv (((BitVec.toNat (crc (tl ((strB (le (BitVec.ofNat 32 (tl s).length) 2)) ++ s))) : Nat) : Int)) (65536)))) (.int .u32 ((BitVec.toNat ((crc (tl ((strB (le (BitVec.ofNat 32 (tl s).length) 2)) ++ s))) / (65536 : BitVec 32)) : Nat) : Int)) (fun w => by kernel_rfl) (bv_quo_u32 (crc (tl ((strB (le (BitVec.ofNat 32 (tl s).length) 2)) ++ s))) (65536 : BitVec 32)) (by kernel_rfl) ?_
  refine s_valE (some 29) (.int .u32 (Int.tmod (((BitVec.toNat ((crc (tl ((strB (le (BitVec.ofNat 32 (tl s).length) 2)) ++ s))) / (65536 : BitVec 32)) : Nat) : Int)) (256))) (.int .u32 ((BitVec.toNat (((crc (tl ((strB (le (BitVec.ofNat 32 (tl s).length) 2)) ++ s))) / (65536 : BitVec 32)) % (256 : BitVec 32)) : Nat) : Int)) (fun w => by kernel_rfl) (bv_rem_u32 ((crc (tl ((strB (le (BitVec.ofNat 32 (tl s).length) 2)) ++ s))) / (65536 : BitVec 32)) (256 : BitVec 32)) (by kernel_rfl) ?_
  refine s_valE (some 30) (.int .u8 (IntKind.u8.wrap (((BitVec.toNat (((crc (tl ((strB (le (BitVec.ofNat 32 (tl s).length) 2)) ++ s))) / (65536 : BitVec 32)) % (256 : BitVec 32)) : Nat) : Int)))) (.int .u8 ((BitVec.toNat (BitVec.setWidth 8 (((crc (tl ((strB (le (BitVec.ofNat 32 (tl s).length) 2)) ++ s))) / (65536 : BitVec 32)) % (256 : BitVec 32))) : Nat) : Int)) (fun w => by kernel_rfl) (bv_conv_u8 (((crc (tl ((strB (le (BitVec.ofNat 32 (tl s).length) 2)) ++ s))) / (65536 : BitVec 32)) % (256 : BitVec 32))) (by kernel_rfl) ?_
  refine s_val (some 31) (.int .u32 ((BitVec.toNat (crc (tl ((strB (le (BitVec.ofNat 32 (tl s).length) 2)) ++ s))) : Nat) : Int)) (fun w => by kernel_rfl) (by kernel_rfl) ?_
  refine s_valE (some 32) (.int .u32 (IntKind.u32.wrap (Int.tdiv (((BitVec.toNat (crc (tl ((strB (le (BitVec.ofNat 32 (tl s).length) 2)) ++ s))) : Nat) : Int)) (16777216)))) (.int .u32 ((BitVec.toNat ((crc (tl ((strB (le (BitVec.ofNat 32 (tl s).length) 2)) ++ s))) / (16777216 : BitVec 32)) : Nat) : Int)) (fun w => by kernel_rfl) (bv_quo_u32 (crc (tl ((strB (le (BitVec.ofNat 32 (tl s).length) 2)) ++ s))) (16777216 : BitVec 32)) (by kernel_rfl) ?_
  refine s_valE (some 33) (.int .u8 (IntKind.u8.wrap (((BitVec.toNat ((crc (tl ((strB (le (BitVec.ofNat 32 (tl s).length) 2)) ++ s))) / (16777216 : BitVec 32)) : Nat) : Int)))) (.int .u8 ((BitVec.toNat (BitVec.setWidth 8 ((crc (tl ((strB (le (BitVec.ofNat 32 (tl s).length) 2)) ++ s))) / (16777216 : BitVec 32))) : Nat) : Int)) (fun w => by kernel_rfl) (bv_conv_u8 ((crc (tl ((strB (le (BitVec.ofNat 32 (tl s).length) 2)) ++ s))) / (16777216 : BitVec 32))) (by kernel_rfl) ?_
  refine s_new H2 (some 34) (fun b => .slice (some ⟨b, 0, none⟩) 4 4) #[.int .u8 ((BitVec.toNat (BitVec.setWidth 8 ((crc (tl ((strB (le (BitVec.ofNat 32 (tl s).length) 2)) ++ s))) % (256 : BitVec 32))) : Nat) : Int), .int .u8 ((BitVec.toNat (BitVec.setWidth 8 (((crc (tl ((strB (le (BitVec.ofNat 32 (tl s).length) 2)) ++ s))) / (256 : BitVec 32)) % (256 : BitVec 32))) : Nat) : Int), .int .u8 ((BitVec.toNat (BitVec.setWidth 8 (((crc (tl ((strB (le (BitVec.ofNat 32 (tl s).length) 2)) ++ s))) / (65536 : BitVec 32)) % (256 : BitVec 32))) : Nat) : Int), .int .u8 ((BitVec.toNat (BitVec.setWidth 8 ((crc (tl ((strB (le (BitVec.ofNat 32 (tl s).length) 2)) ++ s))) / (16777216 : BitVec 32))) : Nat) : Int)] 5 (fun w => by kernel_rfl) (by kernel_rfl) ?_
  intro b2 w3 H3; clear H2
  refine s_bytesStr H3 (some 35) 43 9 5 (.tmp 34) 0 b2 4 4 #[.int .u8 ((BitVec.toNat (BitVec.setWidth 8 ((crc (tl ((strB (le (BitVec.ofNat 32 (tl s).length) 2)) ++ s))) % (256 : BitVec 32))) : Nat) : Int), .int .u8 ((BitVec.toNat (BitVec.setWidth 8 (((crc (tl ((strB (le (BitVec.ofNat 32 (tl s).length) 2)) ++ s))) / (256 : BitVec 32)) % (256 : BitVec 32))) : Nat) : Int), .int .u8 ((BitVec.toNat (BitVec.setWidth 8 (((crc (tl ((strB (le (BitVec.ofNat 32 (tl s).length) 2)) ++ s))) / (65536 : BitVec 32)) % (256 : BitVec 32))) : Nat) : Int), .int .u8 ((BitVec.toNat (BitVec.setWidth 8 ((crc (tl ((strB (le (BitVec.ofNat 32 (tl s).length) 2)) ++ s))) / (16777216 : BitVec 32))) : Nat) : Int)] 5 (0, 0) ([((BitVec.toNat (BitVec.setWidth 8 ((crc (tl ((strB (le (BitVec.ofNat 32 (tl s).length) 2)) ++ s))) % (256 : BitVec 32))) : Nat) : Int), ((BitVec.toNat (BitVec.setWidth 8 (((crc (tl ((strB (le (BitVec.ofNat 32 (tl s).length) 2)) ++ s))) / (256 : BitVec 32)) % (256 : BitVec 32))) : Nat) : Int), ((BitVec.toNat (BitVec.setWidth 8 (((crc (tl ((strB (le (BitVec.ofNat 32 (tl s).length) 2)) ++ s))) / (65536 : BitVec 32)) % (256 : BitVec 32))) : Nat) : Int), ((BitVec.toNat (BitVec.setWidth 8 ((crc (tl ((strB (le (BitVec.ofNat 32 (tl s).length) 2)) ++ s))) / (16777216 : BitVec 32))) : Nat) : Int)]) (by kernel_rfl) (by kernel_rfl) (by kernel_rfl) (by kernel_rfl) (by kernel_rfl) (by kernel_rfl) (by kernel_rfl) (Rw.lit #[.int .u8 ((BitVec.toNat (BitVec.setWidth 8 ((crc (tl ((strB (le (BitVec.ofNat 32 (tl s).length) 2)) ++ s))) % (256 : BitVec 32))) : Nat) : Int), .int .u8 ((BitVec.toNat (BitVec.setWidth 8 (((crc (tl ((strB (le (BitVec.ofNat 32 (tl s).length) 2)) ++ s))) / (256 : BitVec 32)) % (256 : BitVec 32))) : Nat) : Int), .int .u8 ((BitVec.toNat (BitVec.setWidth 8 (((crc (tl ((strB (le (BitVec.ofNat 32 (tl s).length) 2)) ++ s))) / (65536 : BitVec 32)) % (256 : BitVec 32))) : Nat) : Int), .int .u8 ((BitVec.toNat (BitVec.setWidth 8 ((crc (tl ((strB (le (BitVec.ofNat 32 (tl s).length) 2)) ++ s))) / (16777216 : BitVec 32))) : Nat) : Int)] 4 (by rfl) (by unfold maxLen; omega)) ?_
  rw [show strOfNums ([((BitVec.toNat (BitVec.setWidth 8 ((crc (tl ((strB (le (BitVec.ofNat 32 (tl s).length) 2)) ++ s))) % (256 : BitVec 32))) : Nat) : Int), ((BitVec.toNat (BitVec.setWidth 8 (((crc (tl ((strB (le (BitVec.ofNat 32 (tl s).length) 2)) ++ s))) / (256 : BitVec 32)) % (256 : BitVec 32))) : Nat) : Int), ((BitVec.toNat (BitVec.setWidth 8 (((crc (tl ((strB (le (BitVec.ofNat 32 (tl s).length) 2)) ++ s))) / (65536 : BitVec 32)) % (256 : BitVec 32))) : Nat) : Int), ((BitVec.toNat (BitVec.setWidth 8 ((crc (tl ((strB (le (BitVec.ofNat 32 (tl s).length) 2)) ++ s))) / (16777216 : BitVec 32))) : Nat) : Int)]) = strB (le (crc (tl ((strB (le (BitVec.ofNat 32 (tl s).length) 2)) ++ s))) 4) from fr4 (crc (tl ((strB (le (BitVec.ofNat 32 (tl s).length) 2)) ++ s)))]
  have hz3 : ByteArray.size (((strB (le (BitVec.ofNat 32 (tl s).length) 2)) ++ s) ++ (strB (le (crc (tl ((strB (le (BitVec.ofNat 32 (tl s).length) 2)) ++ s))) 4))) = ByteArray.size ((strB (le (BitVec.ofNat 32 (tl s).length) 2)) ++ s) + ByteArray.size (strB (le (crc (tl ((strB (le (BitVec.ofNat 32 (tl s).length) 2)) ++ s))) 4)) := add_size _ _
  have hz4 : ByteArray.size (strB (le (crc (tl ((strB (le (BitVec.ofNat 32 (tl s).length) 2)) ++ s))) 4)) = 4 := le_size _ _
  refine s_op (some 36) _ (.string (((strB (le (BitVec.ofNat 32 (tl s).length) 2)) ++ s) ++ (strB (le (crc (tl ((strB (le (BitVec.ofNat 32 (tl s).length) 2)) ++ s))) 4)))) (by kernel_rfl) (by kernel_rfl) (fun o w ho => sadd_run (t := 9) (t' := 9) (x := (.tmp 19)) (y := (.tmp 35)) ((strB (le (BitVec.ofNat 32 (tl s).length) 2)) ++ s) (strB (le (crc (tl ((strB (le (BitVec.ofNat 32 (tl s).length) 2)) ++ s))) 4)) w ho (by kernel_rfl) (by kernel_rfl) (by omega)) ?_
  refine s_val (some 2) (.string (((strB (le (BitVec.ofNat 32 (tl s).length) 2)) ++ s) ++ (strB (le (crc (tl ((strB (le (BitVec.ofNat 32 (tl s).length) 2)) ++ s))) 4)))) (fun w => by kernel_rfl) (by kernel_rfl) ?_
  refine s_nil ?_
  refine g_ret (by kernel_rfl) ?_
  show ∃ vs, Res _ _ _ _ vs ∧ _
  refine ⟨[.string (((strB (le (BitVec.ofNat 32 (tl s).length) 2)) ++ s) ++ (strB (le (crc (tl ((strB (le (BitVec.ofNat 32 (tl s).length) 2)) ++ s))) 4)))], (.tmp (.string (((strB (le (BitVec.ofNat 32 (tl s).length) 2)) ++ s) ++ (strB (le (crc (tl ((strB (le (BitVec.ofNat 32 (tl s).length) 2)) ++ s))) 4)))) (by kernel_rfl) .nil), ?_, H3.below⟩
  rfl
end Go.Proofs.Ythipcmpmfjeakaa
