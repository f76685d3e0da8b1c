/-
  Texts of the proof, part 3.
-/
import Derived.Test.YthpiojejhellhaaProg
import Derived.ChangeKeysEq
import Derived.Laws.StructEq
import Derived.Test.YthpiojejhellhaaChecked
import Derived.ChangeArms
import Derived.OpenShut
import Derived.ProofKit
import Derived.ChangeSlices
import Derived.Deep.Strs
import Derived.DataReads
import Derived.WalkKit
import Derived.Test.YthpiojejhellhaaWC2

namespace Go.Proofs.Ythpiojejhellhaa
open Go Go.RowKit Go.Proofs.Crc
set_option linter.unusedVariables false
theorem allsub (x : BitVec 32) : (4294967295 : BitVec 32) - x = ~~~x := by
  rw [show (4294967295 : BitVec 32) = BitVec.allOnes 32 from rfl, BitVec.allOnes_sub_eq_not]
theorem bv_congr {x y : BitVec 32} (h : x = y) : Value.int .u32 ((BitVec.toNat x : Nat) : Int) = .int .u32 ((BitVec.toNat y : Nat) : Int) := by rw [h]
set_option maxRecDepth 100000 in
set_option maxHeartbeats 2000000 in
theorem ofR_fn (s : ByteArray) (hs : ByteArray.size s ≤ 1000000000000000000) : Fn Try.prog 44 #[.string s] (.int .u32 ((BitVec.toNat (crc (tl s)) : Nat) : Int)) := by
  refine Fn.intro (c := codeOf Try.f44) [.tmp 2] 34 Try.func44 kr kr kr fun w => ?_
  have H0 := St.start w
  refine g_sreg [0] kr kr ?_
  refine s_val (some 2) (.int .u32 0) (fun w => by kernel_rfl) kr ?_
  refine s_nil ?_
  refine g_sreg [0] kr kr ?_
  refine s_val (some 3) (.int .u32 ((BitVec.toNat (reg rg0 ((tl s).take 0)) : Nat) : Int)) (fun w => by kernel_rfl) kr ?_
  refine s_nil ?_
  refine g_seq kr ?_
  refine g_sreg [0] kr kr ?_
  refine s_val (some 4) (.int .i64 0) (fun w => by kernel_rfl) kr ?_
  refine s_nil ?_
  refine g_block 0 kr ?_
  refine g_loop kr (fun mz ρ ww => ∃ (i : Nat), ByteArray.size s - i = mz ∧ (i ≤ ByteArray.size s) ∧ St w.heap.size w ww [] ∧ Is [(0, .string s), (2, .int .u32 0), (3, .int .u32 ((BitVec.toNat (reg rg0 ((tl s).take i)) : Nat) : Int)), (4, .int .i64 ((i : Nat) : Int))] ρ) (ByteArray.size s - 0) ⟨0, rfl, (by omega), H0, (Is.of ⟨kr, kr, kr, kr, trivial⟩)⟩ ?_
  clear H0
  rintro _ _ w1 ⟨i, rfl, hi, H1, _, rfl⟩
  refine g_seq kr ?_
  refine g_sreg [0, 1, 2, 3] kr kr ?_
  refine s_val (some 6) (.int .i64 ((i : Nat) : Int)) (fun w => by kernel_rfl) kr ?_
  refine s_val (some 7) (.string s) (fun w => by kernel_rfl) kr ?_
  refine s_val (some 8) (.int .i64 ((ByteArray.size s : Nat) : Int)) (fun w => by kernel_rfl) kr ?_
  by_cases hc1 : (i : Nat) < ByteArray.size s
  · skip
    refine s_valE (some 9) (.bool (decide (((i : Nat) : Int) < ((ByteArray.size s : Nat) : Int)))) (.bool true) (fun w => by kernel_rfl) (bool_eq (decide_eq_true (by omega))) kr ?_
    refine s_nil ?_
    refine g_cond_t kr kr ?_
    refine g_skip kr ?_
    show WP _ _ _ _ _ _
    refine g_seq kr ?_
    refine g_block 1 kr ?_
    refine g_sreg [0] kr kr ?_
    refine s_val (some 5) (.int .i64 0) (fun w => by kernel_rfl) kr ?_
    refine s_nil ?_
    refine g_block 2 kr ?_
    refine g_loop kr (fun mz ρ ww => ∃ (q : W) (k : Nat), 8 - k = mz ∧ (k ≤ 8) ∧ (q ^^^ (u32 (List.getD (tl s) i 0)) >>> k = mvk k ((reg rg0 ((tl s).take i)) ^^^ (u32 (List.getD (tl s) i 0)))) ∧ St w.heap.size w ww [] ∧ Is [(0, .string s), (2, .int .u32 0), (3, .int .u32 ((BitVec.toNat q : Nat) : Int)), (4, .int .i64 ((i : Nat) : Int)), (5, .int .i64 ((k : Nat) : Int)), (9, .bool true)] ρ) (8 - 0) ⟨(reg rg0 ((tl s).take i)), 0, rfl, (by omega), (by rw [BitVec.ushiftRight_zero]; rfl), H1, (Is.of ⟨kr, kr, kr, kr, kr, kr, trivial⟩)⟩ ?_
    clear H1
    rintro _ _ w2 ⟨q, k, rfl, hk, hq, H2, _, rfl⟩
    refine g_seq kr ?_
    refine g_sreg [0, 1] kr kr ?_
    refine s_val (some 12) (.int .i64 ((k : Nat) : Int)) (fun w => by kernel_rfl) kr ?_
    by_cases hc2 : (k : Nat) < 8
    · skip
      refine s_valE (some 13) (.bool (decide (((k : Nat) : Int) < 8))) (.bool true) (fun w => by kernel_rfl) (bool_eq (decide_eq_true (by omega))) kr ?_
      refine s_nil ?_
      refine g_cond_t kr kr ?_
      refine g_skip kr ?_
      show WP _ _ _ _ _ _
      refine g_seq kr ?_
      refine g_block 3 kr ?_
      refine g_sreg [0, 1, 2, 3, 4, 5, 6, 7, 8, 9, 10] kr kr ?_
      refine s_val (some 16) (.int .u32 ((BitVec.toNat q : Nat) : Int)) (fun w => by kernel_rfl) kr ?_
      refine s_valE (some 17) (.int .u32 (Int.tmod (((BitVec.toNat q : Nat) : Int)) (2))) (.int .u32 ((BitVec.toNat (q % (2 : BitVec 32)) : Nat) : Int)) (fun w => by kernel_rfl) (bv_rem_u32 q (2 : BitVec 32)) kr ?_
      refine s_val (some 18) (.string s) (fun w => by kernel_rfl) kr ?_
      refine s_val (some 19) (.int .i64 ((i : Nat) : Int)) (fun w => by kernel_rfl) kr ?_
      refine s_op (some 20) _ (.int .u8 ((BitVec.toNat (UInt8.toBitVec (List.getD (tl s) i 0)) : Nat) : Int)) kr kr (fun o w ho => sindex_run (t := 9) (kd := .i64) kr (x := (.tmp 18)) (y := (.tmp 19)) s i ho kr kr (by omega) w) ?_
      refine s_valE (some 21) (.int .u32 (IntKind.u32.wrap (((BitVec.toNat (UInt8.toBitVec (List.getD (tl s) i 0)) : Nat) : Int)))) (.int .u32 ((BitVec.toNat (u32 (List.getD (tl s) i 0)) : Nat) : Int)) (fun w => by kernel_rfl) (bv_ofNat_u32 (UInt8.toNat (List.getD (tl s) i 0))) kr ?_
      refine s_val (some 22) (.int .i64 ((k : Nat) : Int)) (fun w => by kernel_rfl) kr ?_
      refine s_valE (some 23) (.int .u64 (IntKind.u64.wrap (((k : Nat) : Int)))) (.int .u64 ((k : Nat) : Int)) (fun w => by kernel_rfl) (int_eq (wrapN_u64 (a := k) (by omega))) kr ?_
      refine s_valE (some 24) (.int .u32 (Int.fdiv (((BitVec.toNat (u32 (List.getD (tl s) i 0)) : Nat) : Int)) (2 ^ (min k 32)))) (.int .u32 ((BitVec.toNat ((u32 (List.getD (tl s) i 0)) >>> k) : Nat) : Int)) (fun w => by kernel_rfl) (bv_shr_u32 (u32 (List.getD (tl s) i 0)) k) kr ?_
      refine s_valE (some 25) (.int .u32 (Int.tmod (((BitVec.toNat ((u32 (List.getD (tl s) i 0)) >>> k) : Nat) : Int)) (2))) (.int .u32 ((BitVec.toNat (((u32 (List.getD (tl s) i 0)) >>> k) % (2 : BitVec 32)) : Nat) : Int)) (fun w => by kernel_rfl) (bv_rem_u32 ((u32 (List.getD (tl s) i 0)) >>> k) (2 : BitVec 32)) kr ?_
      by_cases hc3 : ((BitVec.toNat (q % (2 : BitVec 32))) : Nat) ≠ (BitVec.toNat (((u32 (List.getD (tl s) i 0)) >>> k) % (2 : BitVec 32)))
      · skip
        refine s_valE (some 26) (.bool (!(((BitVec.toNat (q % (2 : BitVec 32)) : Nat) : Int) == ((BitVec.toNat (((u32 (List.getD (tl s) i 0)) >>> k) % (2 : BitVec 32)) : Nat) : Int)))) (.bool true) (fun w => by kernel_rfl) (bool_eq (by rw [beq_eq_false_iff_ne.2 (by omega)]; rfl)) kr ?_
        refine s_nil ?_
        refine g_cond_t kr kr ?_
        refine g_reg0 [0, 1, 2, 3] kr ?_
        refine s_val (some 27) (.int .u32 ((BitVec.toNat q : Nat) : Int)) (fun w => by kernel_rfl) kr ?_
        refine s_valE (some 28) (.int .u32 (IntKind.u32.wrap (Int.tdiv (((BitVec.toNat q : Nat) : Int)) (2)))) (.int .u32 ((BitVec.toNat (q / (2 : BitVec 32)) : Nat) : Int)) (fun w => by kernel_rfl) (bv_quo_u32 q (2 : BitVec 32)) kr ?_
        refine s_valE (some 29) (.int .u32 (Go.bits .xor .u32 (((BitVec.toNat (q / (2 : BitVec 32)) : Nat) : Int)) (3988292384))) (.int .u32 ((BitVec.toNat ((q / (2 : BitVec 32)) ^^^ (3988292384 : BitVec 32)) : Nat) : Int)) (fun w => by kernel_rfl) (bv_xor_u32 (q / (2 : BitVec 32)) (3988292384 : BitVec 32)) kr ?_
        refine s_val (some 3) (.int .u32 ((BitVec.toNat ((q / (2 : BitVec 32)) ^^^ (3988292384 : BitVec 32)) : Nat) : Int)) (fun w => by kernel_rfl) kr ?_
        refine s_nil ?_
        show WP _ _ _ _ _ _
        refine g_reg0 [0, 1, 2] kr ?_
        refine s_val (some 14) (.int .i64 ((k : Nat) : Int)) (fun w => by kernel_rfl) kr ?_
        refine s_valE (some 15) (.int .i64 (IntKind.i64.wrap (((k : Nat) : Int) + 1))) (.int .i64 ((k + 1 : Nat) : Int)) (fun w => by kernel_rfl) (int_eq (wrapAdd_i64 (a := k) (b := 1) (by omega))) kr ?_
        refine s_val (some 5) (.int .i64 ((k + 1 : Nat) : Int)) (fun w => by kernel_rfl) kr ?_
        refine s_nil ?_
        show ∃ m, _ ∧ _
        exact ⟨_, (by omega), (q / (2 : BitVec 32)) ^^^ (3988292384 : BitVec 32), (k + 1), rfl, (by omega), ((ref_step hq).1 hc3), H2, (Is.of ⟨kr, kr, kr, kr, kr, kr, trivial⟩)⟩
      · skip
        refine s_valE (some 26) (.bool (!(((BitVec.toNat (q % (2 : BitVec 32)) : Nat) : Int) == ((BitVec.toNat (((u32 (List.getD (tl s) i 0)) >>> k) % (2 : BitVec 32)) : Nat) : Int)))) (.bool false) (fun w => by kernel_rfl) (bool_eq (by rw [beq_iff_eq.2 (by omega)]; rfl)) kr ?_
        refine s_nil ?_
        refine g_cond_f kr kr ?_
        refine g_reg0 [0, 1, 2] kr ?_
        refine s_val (some 30) (.int .u32 ((BitVec.toNat q : Nat) : Int)) (fun w => by kernel_rfl) kr ?_
        refine s_valE (some 31) (.int .u32 (IntKind.u32.wrap (Int.tdiv (((BitVec.toNat q : Nat) : Int)) (2)))) (.int .u32 ((BitVec.toNat (q / (2 : BitVec 32)) : Nat) : Int)) (fun w => by kernel_rfl) (bv_quo_u32 q (2 : BitVec 32)) kr ?_
        refine s_val (some 3) (.int .u32 ((BitVec.toNat (q / (2 : BitVec 32)) : Nat) : Int)) (fun w => by kernel_rfl) kr ?_
        refine s_nil ?_
        show WP _ _ _ _ _ _
        refine g_reg0 [0, 1, 2] kr ?_
        refine s_val (some 14) (.int .i64 ((k : Nat) : Int)) (fun w => by kernel_rfl) kr ?_
        refine s_valE (some 15) (.int .i64 (IntKind.i64.wrap (((k : Nat) : Int) + 1))) (.int .i64 ((k + 1 : Nat) : Int)) (fun w => by kernel_rfl) (int_eq (wrapAdd_i64 (a := k) (b := 1) (by omega))) kr ?_
        refine s_val (some 5) (.int .i64 ((k + 1 : Nat) : Int)) (fun w => by kernel_rfl) kr ?_
        refine s_nil ?_
        show ∃ m, _ ∧ _
        exact ⟨_, (by omega), (q / (2 : BitVec 32)), (k + 1), rfl, (by omega), ((ref_step hq).2 hc3), H2, (Is.of ⟨kr, kr, kr, kr, kr, kr, trivial⟩)⟩
    · skip
      refine s_valE (some 13) (.bool (decide (((k : Nat) : Int) < 8))) (.bool false) (fun w => by kernel_rfl) (bool_eq (decide_eq_false (by omega))) kr ?_
      refine s_nil ?_
      refine g_cond_f kr kr ?_
      refine g_exit 2 kr ?_
      show WP _ _ _ _ _ _
      refine g_reg0 [0, 1, 2] kr ?_
      refine s_val (some 10) (.int .i64 ((i : Nat) : Int)) (fun w => by kernel_rfl) kr ?_
      refine s_valE (some 11) (.int .i64 (IntKind.i64.wrap (((i : Nat) : Int) + 1))) (.int .i64 ((i + 1 : Nat) : Int)) (fun w => by kernel_rfl) (int_eq (wrapAdd_i64 (a := i) (b := 1) (by omega))) kr ?_
      refine s_val (some 4) (.int .i64 ((i + 1 : Nat) : Int)) (fun w => by kernel_rfl) kr ?_
      refine s_nil ?_
      obtain rfl : k = 8 := by omega
      have hq2 : q = reg rg0 ((tl s).take (i + 1)) := by rw [reg_take rg0 (tl s) i (by rw [tl_len]; omega)]; exact ref_byte hq
      rw [hq2]
      show ∃ m, _ ∧ _
      exact ⟨_, (by omega), (i + 1), rfl, (by omega), H2, (Is.of ⟨kr, kr, kr, kr, trivial⟩)⟩
  · skip
    refine s_valE (some 9) (.bool (decide (((i : Nat) : Int) < ((ByteArray.size s : Nat) : Int)))) (.bool false) (fun w => by kernel_rfl) (bool_eq (decide_eq_false (by omega))) kr ?_
    refine s_nil ?_
    refine g_cond_f kr kr ?_
    refine g_exit 0 kr ?_
    show WP _ _ _ _ _ _
    refine g_sreg [0, 1, 2] kr kr ?_
    refine s_val (some 32) (.int .u32 ((BitVec.toNat (reg rg0 ((tl s).take i)) : Nat) : Int)) (fun w => by kernel_rfl) kr ?_
    refine s_valE (some 33) (.int .u32 (IntKind.u32.wrap ((4294967295) - (((BitVec.toNat (reg rg0 ((tl s).take i)) : Nat) : Int))))) (.int .u32 ((BitVec.toNat (~~~(reg rg0 ((tl s).take i))) : Nat) : Int)) (fun w => by kernel_rfl) ((bv_sub_u32 (4294967295 : BitVec 32) (reg rg0 ((tl s).take i))).trans (bv_congr (allsub (reg rg0 ((tl s).take i))))) kr ?_
    refine s_val (some 2) (.int .u32 ((BitVec.toNat (~~~(reg rg0 ((tl s).take i))) : Nat) : Int)) (fun w => by kernel_rfl) kr ?_
    refine s_nil ?_
    refine g_ret kr ?_
    show ∃ vs, Res _ _ _ _ vs ∧ _
    refine ⟨[.int .u32 ((BitVec.toNat (~~~(reg rg0 ((tl s).take i))) : Nat) : Int)], (.tmp (.int .u32 ((BitVec.toNat (~~~(reg rg0 ((tl s).take i))) : Nat) : Int)) kr .nil), ?_, H1.below⟩
    rw [List.take_of_length_le (show (tl s).length ≤ i by rw [tl_len]; omega)]; rfl
set_option maxRecDepth 100000 in
set_option maxHeartbeats 2000000 in
theorem isRec_yes (s : ByteArray) (h : 1 ≤ ByteArray.size s ∧ ByteArray.size s ≤ 4000) : Fn Try.prog 19 #[.string s] (.bool true) := by
  refine Fn.intro (c := codeOf Try.f19) [.tmp 2] 11 Try.func19 kr kr kr fun w => ?_
  have H0 := St.start w
  refine g_sreg [0] kr kr ?_
  refine s_val (some 2) (.bool false) (fun w => by kernel_rfl) kr ?_
  refine s_nil ?_
  refine g_sreg [0, 1, 2, 3, 4, 5, 6, 7, 8] kr kr ?_
  refine s_val (some 3) (.string s) (fun w => by kernel_rfl) kr ?_
  refine s_val (some 4) (.int .i64 ((ByteArray.size s : Nat) : Int)) (fun w => by kernel_rfl) kr ?_
  refine s_valE (some 5) (.bool (decide (1 ≤ ((ByteArray.size s : Nat) : Int)))) (.bool true) (fun w => by kernel_rfl) (bool_eq (decide_eq_true (by omega))) kr ?_
  refine s_val (some 6) (.bool true) (fun w => by kernel_rfl) kr ?_
  refine s_val (some 7) (.string s) (fun w => by kernel_rfl) kr ?_
  refine s_val (some 8) (.int .i64 ((ByteArray.size s : Nat) : Int)) (fun w => by kernel_rfl) kr ?_
  refine s_valE (some 9) (.bool (decide (((ByteArray.size s : Nat) : Int) ≤ 4000))) (.bool true) (fun w => by kernel_rfl) (bool_eq (decide_eq_true (by omega))) kr ?_
  refine s_val (some 10) (.bool true) (fun w => by kernel_rfl) kr ?_
  refine s_val (some 2) (.bool true) (fun w => by kernel_rfl) kr ?_
  refine s_nil ?_
  refine g_ret kr ?_
  show ∃ vs, Res _ _ _ _ vs ∧ _
  refine ⟨[.bool true], (.tmp (.bool true) kr .nil), ?_, H0.below⟩
  rfl
set_option maxRecDepth 100000 in
set_option maxHeartbeats 2000000 in
theorem isRec_no (s : ByteArray) (h : ¬ (1 ≤ ByteArray.size s ∧ ByteArray.size s ≤ 4000)) : Fn Try.prog 19 #[.string s] (.bool false) := by
  refine Fn.intro (c := codeOf Try.f19) [.tmp 2] 11 Try.func19 kr kr kr fun w => ?_
  have H0 := St.start w
  refine g_sreg [0] kr kr ?_
  refine s_val (some 2) (.bool false) (fun w => by kernel_rfl) kr ?_
  refine s_nil ?_
  refine g_sreg [0, 1, 2, 3, 4, 5, 6, 7, 8] kr kr ?_
  refine s_val (some 3) (.string s) (fun w => by kernel_rfl) kr ?_
  refine s_val (some 4) (.int .i64 ((ByteArray.size s : Nat) : Int)) (fun w => by kernel_rfl) kr ?_
  by_cases hc1 : (ByteArray.size s : Nat) ≥ 1
  · skip
    refine s_valE (some 5) (.bool (decide (1 ≤ ((ByteArray.size s : Nat) : Int)))) (.bool true) (fun w => by kernel_rfl) (bool_eq (decide_eq_true (by omega))) kr ?_
    refine s_val (some 6) (.bool true) (fun w => by kernel_rfl) kr ?_
    refine s_val (some 7) (.string s) (fun w => by kernel_rfl) kr ?_
    refine s_val (some 8) (.int .i64 ((ByteArray.size s : Nat) : Int)) (fun w => by kernel_rfl) kr ?_
    refine s_valE (some 9) (.bool (decide (((ByteArray.size s : Nat) : Int) ≤ 4000))) (.bool false) (fun w => by kernel_rfl) (bool_eq (decide_eq_false (by omega))) kr ?_
    refine s_val (some 10) (.bool false) (fun w => by kernel_rfl) kr ?_
    refine s_val (some 2) (.bool false) (fun w => by kernel_rfl) kr ?_
    refine s_nil ?_
    refine g_ret kr ?_
    show ∃ vs, Res _ _ _ _ vs ∧ _
    refine ⟨[.bool false], (.tmp (.bool false) kr .nil), ?_, H0.below⟩
    rfl
  · skip
    refine s_valE (some 5) (.bool (decide (1 ≤ ((ByteArray.size s : Nat) : Int)))) (.bool false) (fun w => by kernel_rfl) (bool_eq (decide_eq_false (by omega))) kr ?_
    refine s_val (some 6) (.bool false) (fun w => by kernel_rfl) kr ?_
    refine s_not (some 7) kr kr ?_
    refine s_not (some 8) kr kr ?_
    refine s_not (some 9) kr kr ?_
    refine s_val (some 10) (.bool false) (fun w => by kernel_rfl) kr ?_
    refine s_val (some 2) (.bool false) (fun w => by kernel_rfl) kr ?_
    refine s_nil ?_
    refine g_ret kr ?_
    show ∃ vs, Res _ _ _ _ vs ∧ _
    refine ⟨[.bool false], (.tmp (.bool false) kr .nil), ?_, H0.below⟩
    rfl
theorem fr2 (s : ByteArray) (h : ByteArray.size s ≤ 4000) : strOfNums [((BitVec.toNat (BitVec.ofNat 8 (ByteArray.size s % 256)) : Nat) : Int), ((BitVec.toNat (BitVec.ofNat 8 (ByteArray.size s / 256)) : Nat) : Int)] = strB (le (BitVec.ofNat 32 (tl s).length) 2) := by
  have hl : (tl s).length = ByteArray.size s := tl_len s
  rw [hl, ← strOfNums_map]
  refine congrArg strOfNums ?_
  rw [le2]
  show _ = [((UInt8.ofNat (ByteArray.size s)).toNat : Int), (((UInt8.ofBitVec (BitVec.setWidth 8 (BitVec.ofNat 32 (ByteArray.size s) >>> 8))).toNat : Nat) : Int)]
  rw [hi2 _ (by omega), UInt8.toNat_ofNat', BitVec.toNat_ofNat, BitVec.toNat_ofNat]
  congr 1
  · omega
  · congr 1; omega
theorem fr4 (n : W) : strOfNums [((BitVec.toNat (BitVec.setWidth 8 (n % (256 : BitVec 32))) : Nat) : Int), ((BitVec.toNat (BitVec.setWidth 8 (n / (256 : BitVec 32) % (256 : BitVec 32))) : Nat) : Int), ((BitVec.toNat (BitVec.setWidth 8 (n / (65536 : BitVec 32) % (256 : BitVec 32))) : Nat) : Int), ((BitVec.toNat (BitVec.setWidth 8 (n / (16777216 : BitVec 32))) : Nat) : Int)] = strB (le n 4) := by
  rw [← strOfNums_map]
  refine congrArg strOfNums ?_
  show _ = [(((BitVec.setWidth 8 (n >>> 0)).toNat : Nat) : Int), (((BitVec.setWidth 8 (n >>> 8)).toNat : Nat) : Int), (((BitVec.setWidth 8 (n >>> 16)).toNat : Nat) : Int), (((BitVec.setWidth 8 (n >>> 24)).toNat : Nat) : Int)]
  have e : ∀ k, (BitVec.setWidth 8 (n >>> k)).toNat = n.toNat / 2 ^ k % 256 := fun k => by
    rw [BitVec.toNat_setWidth, BitVec.toNat_ushiftRight, Nat.shiftRight_eq_div_pow]
  rw [e, e, e, e]
  simp only [BitVec.toNat_setWidth, BitVec.toNat_umod, BitVec.toNat_udiv]
  show [((n.toNat % 256 % 256 : Nat) : Int), ((n.toNat / 256 % 256 % 256 : Nat) : Int), ((n.toNat / 65536 % 256 % 256 : Nat) : Int), ((n.toNat / 16777216 % 256 : Nat) : Int)] = [((n.toNat / 1 % 256 : Nat) : Int), ((n.toNat / 256 % 256 : Nat) : Int), ((n.toNat / 65536 % 256 : Nat) : Int), ((n.toNat / 16777216 % 256 : Nat) : Int)]
  rw [Nat.div_one, Nat.mod_mod, Nat.mod_mod, Nat.mod_mod]
set_option maxRecDepth 100000 in
set_option maxHeartbeats 2000000 in
theorem frameR_fn (s : ByteArray) (hs : ByteArray.size s ≤ 4000) : Fn Try.prog 28 #[.string s] (.string (strB (frB (tl s)))) := by
  refine Fn.intro (c := codeOf Try.f28) [.tmp 2] 37 Try.func28 kr kr kr fun w => ?_
  have H0 := St.start w
  refine g_sreg [0] kr kr ?_
  refine s_val (some 2) (.string (⟨#[]⟩)) (fun w => by kernel_rfl) kr ?_
  refine s_nil ?_
  refine g_sreg [0, 1, 2, 3, 4, 5, 6, 7, 8, 9, 10, 11, 12] kr kr ?_
  refine s_val (some 5) (.string s) (fun w => by kernel_rfl) kr ?_
  refine s_val (some 6) (.int .i64 ((ByteArray.size s : Nat) : Int)) (fun w => by kernel_rfl) kr ?_
  refine s_valE (some 7) (.int .i64 (Int.tmod ((ByteArray.size s : Nat) : Int) 256)) (.int .i64 (((ByteArray.size s) % 256 : Nat) : Int)) (fun w => by kernel_rfl) (int_eq (remN (ByteArray.size s) 256)) kr ?_
  refine s_valE (some 8) (.int .u8 (IntKind.u8.wrap ((((ByteArray.size s) % 256 : Nat) : Int)))) (.int .u8 ((BitVec.toNat (BitVec.ofNat 8 ((ByteArray.size s) % 256)) : Nat) : Int)) (fun w => by kernel_rfl) (bv_ofNat_u8 ((ByteArray.size s) % 256)) kr ?_
  refine s_val (some 9) (.string s) (fun w => by kernel_rfl) kr ?_
  refine s_val (some 10) (.int .i64 ((ByteArray.size s : Nat) : Int)) (fun w => by kernel_rfl) kr ?_
  refine s_valE (some 11) (.int .i64 (IntKind.i64.wrap (((ByteArray.size s : Nat) : Int).tdiv 256))) (.int .i64 (((ByteArray.size s) / 256 : Nat) : Int)) (fun w => by kernel_rfl) (int_eq (quoN_i64 (a := ByteArray.size s) (b := 256) (by omega))) kr ?_
  refine s_valE (some 12) (.int .u8 (IntKind.u8.wrap ((((ByteArray.size s) / 256 : Nat) : Int)))) (.int .u8 ((BitVec.toNat (BitVec.ofNat 8 ((ByteArray.size s) / 256)) : Nat) : Int)) (fun w => by kernel_rfl) (bv_ofNat_u8 ((ByteArray.size s) / 256)) kr ?_
  refine s_new H0 (some 13) (fun b => .slice (some ⟨b, 0, none⟩) 2 2) #[.int .u8 ((BitVec.toNat (BitVec.ofNat 8 ((ByteArray.size s) % 256)) : Nat) : Int), .int .u8 ((BitVec.toNat (BitVec.ofNat 8 ((ByteArray.size s) / 256)) : Nat) : Int)] 5 (fun w => by kernel_rfl) kr ?_
  intro b1 w1 H1; clear H0
  refine s_bytesStr H1 (some 14) 66 9 5 (.tmp 13) 0 b1 2 2 #[.int .u8 ((BitVec.toNat (BitVec.ofNat 8 ((ByteArray.size s) % 256)) : Nat) : Int), .int .u8 ((BitVec.toNat (BitVec.ofNat 8 ((ByteArray.size s) / 256)) : Nat) : Int)] 5 (0, 0) ([((BitVec.toNat (BitVec.ofNat 8 ((ByteArray.size s) % 256)) : Nat) : Int), ((BitVec.toNat (BitVec.ofNat 8 ((ByteArray.size s) / 256)) : Nat) : Int)]) kr kr kr kr kr kr kr (Rw.lit #[.int .u8 ((BitVec.toNat (BitVec.ofNat 8 ((ByteArray.size s) % 256)) : Nat) : Int), .int .u8 ((BitVec.toNat (BitVec.ofNat 8 ((ByteArray.size s) / 256)) : Nat) : Int)] 2 (by rfl) (by unfold maxLen; omega)) ?_
  rw [show strOfNums ([((BitVec.toNat (BitVec.ofNat 8 ((ByteArray.size s) % 256)) : Nat) : Int), ((BitVec.toNat (BitVec.ofNat 8 ((ByteArray.size s) / 256)) : Nat) : Int)]) = strB (le (BitVec.ofNat 32 (tl s).length) 2) from fr2 s (by omega)]
  refine s_val (some 15) (.string s) (fun w => by kernel_rfl) kr ?_
  have hz1 : ByteArray.size ((strB (le (BitVec.ofNat 32 (tl s).length) 2)) ++ s) = ByteArray.size (strB (le (BitVec.ofNat 32 (tl s).length) 2)) + ByteArray.size s := add_size _ _
  have hz2 : ByteArray.size (strB (le (BitVec.ofNat 32 (tl s).length) 2)) = 2 := le_size _ _
  refine s_op (some 16) _ (.string ((strB (le (BitVec.ofNat 32 (tl s).length) 2)) ++ s)) kr kr (fun o w ho => sadd_run (t := 9) (t' := 9) (x := (.tmp 14)) (y := (.tmp 15)) (strB (le (BitVec.ofNat 32 (tl s).length) 2)) s w ho kr kr (by omega)) ?_
  refine s_val (some 3) (.string ((strB (le (BitVec.ofNat 32 (tl s).length) 2)) ++ s)) (fun w => by kernel_rfl) kr ?_
  refine s_nil ?_
  refine g_sreg [0, 1, 2] kr kr ?_
  refine s_val (some 17) (.string ((strB (le (BitVec.ofNat 32 (tl s).length) 2)) ++ s)) (fun w => by kernel_rfl) kr ?_
  refine s_call H1 (some 18) 44 #[.string ((strB (le (BitVec.ofNat 32 (tl s).length) 2)) ++ s)] (.int .u32 ((BitVec.toNat (crc (tl ((strB (le (BitVec.ofNat 32 (tl s).length) 2)) ++ s))) : Nat) : Int)) (ofR_fn ((strB (le (BitVec.ofNat 32 (tl s).length) 2)) ++ s) (by omega)) (fun w => by kernel_rfl) kr ?_
  intro w2 H2; clear H1
  refine s_val (some 4) (.int .u32 ((BitVec.toNat (crc (tl ((strB (le (BitVec.ofNat 32 (tl s).length) 2)) ++ s))) : Nat) : Int)) (fun w => by kernel_rfl) kr ?_
  refine s_nil ?_
  refine g_sreg [0, 1, 2, 3, 4, 5, 6, 7, 8, 9, 10, 11, 12, 13, 14, 15, 16, 17, 18] kr kr ?_
  refine s_val (some 19) (.string ((strB (le (BitVec.ofNat 32 (tl s).length) 2)) ++ s)) (fun w => by kernel_rfl) kr ?_
  refine s_val (some 20) (.int .u32 ((BitVec.toNat (crc (tl ((strB (le (BitVec.ofNat 32 (tl s).length) 2)) ++ s))) : Nat) : Int)) (fun w => by kernel_rfl) kr ?_
  refine s_valE (some 21) (.int .u32 (Int.tmod (((BitVec.toNat (crc (tl ((strB (le (BitVec.ofNat 32 (tl s).length) 2)) ++ s))) : Nat) : Int)) (256))) (.int .u32 ((BitVec.toNat ((crc (tl ((strB (le (BitVec.ofNat 32 (tl s).length) 2)) ++ s))) % (256 : BitVec 32)) : Nat) : Int)) (fun w => by kernel_rfl) (bv_rem_u32 (crc (tl ((strB (le (BitVec.ofNat 32 (tl s).length) 2)) ++ s))) (256 : BitVec 32)) kr ?_
  refine s_valE (some 22) (.int .u8 (IntKind.u8.wrap (((BitVec.toNat ((crc (tl ((strB (le (BitVec.ofNat 32 (tl s).length) 2)) ++ s))) % (256 : BitVec 32)) : Nat) : Int)))) (.int .u8 ((BitVec.toNat (BitVec.setWidth 8 ((crc (tl ((strB (le (BitVec.ofNat 32 (tl s).length) 2)) ++ s))) % (256 : BitVec 32))) : Nat) : Int)) (fun w => by kernel_rfl) (bv_conv_u8 ((crc (tl ((strB (le (BitVec.ofNat 32 (tl s).length) 2)) ++ s))) % (256 : BitVec 32))) kr ?_
  refine s_val (some 23) (.int .u32 ((BitVec.toNat (crc (tl ((strB (le (BitVec.ofNat 32 (tl s).length) 2)) ++ s))) : Nat) : Int)) (fun w => by kernel_rfl) kr ?_
  refine s_valE (some 24) (.int .u32 (IntKind.u32.wrap (Int.tdiv (((BitVec.toNat (crc (tl ((strB (le (BitVec.ofNat 32 (tl s).length) 2)) ++ s))) : Nat) : Int)) (256)))) (.int .u32 ((BitVec.toNat ((crc (tl ((strB (le (BitVec.ofNat 32 (tl s).length) 2)) ++ s))) / (256 : BitVec 32)) : Nat) : Int)) (fun w => by kernel_rfl) (bv_quo_u32 (crc (tl ((strB (le (BitVec.ofNat 32 (tl s).length) 2)) ++ s))) (256 : BitVec 32)) kr ?_
  refine s_valE (some 25) (.int .u32 (Int.tmod (((BitVec.toNat ((crc (tl ((strB (le (BitVec.ofNat 32 (tl s).length) 2)) ++ s))) / (256 : BitVec 32)) : Nat) : Int)) (256))) (.int .u32 ((BitVec.toNat (((crc (tl ((strB (le (BitVec.ofNat 32 (tl s).length) 2)) ++ s))) / (256 : BitVec 32)) % (256 : BitVec 32)) : Nat) : Int)) (fun w => by kernel_rfl) (bv_rem_u32 ((crc (tl ((strB (le (BitVec.ofNat 32 (tl s).length) 2)) ++ s))) / (256 : BitVec 32)) (256 : BitVec 32)) kr ?_
  refine s_valE (some 26) (.int .u8 (IntKind.u8.wrap (((BitVec.toNat (((crc (tl ((strB (le (BitVec.ofNat 32 (tl s).length) 2)) ++ s))) / (256 : BitVec 32)) % (256 : BitVec 32)) : Nat) : Int)))) (.int .u8 ((BitVec.toNat (BitVec.setWidth 8 (((crc (tl ((strB (le (BitVec.ofNat 32 (tl s).length) 2)) ++ s))) / (256 : BitVec 32)) % (256 : BitVec 32))) : Nat) : Int)) (fun w => by kernel_rfl) (bv_conv_u8 (((crc (tl ((strB (le (BitVec.ofNat 32 (tl s).length) 2)) ++ s))) / (256 : BitVec 32)) % (256 : BitVec 32))) kr ?_
  refine s_val (some 27) (.int .u32 ((BitVec.toNat (crc (tl ((strB (le (BitVec.ofNat 32 (tl s).length) 2)) ++ s))) : Nat) : Int)) (fun w => by kernel_rfl) kr ?_
  refine s_valE (some 28) (.int .u32 (IntKind.u32.wrap (Int.tdiv (((BitVec.toNat (crc (tl ((strB (le (BitVec.ofNat 32 (tl s).length) 2)) ++ s))) : Nat) : Int)) (65536)))) (.int .u32 ((BitVec.toNat ((crc (tl ((strB (le (BitVec.ofNat 32 (tl s).length) 2)) ++ s))) / (65536 : BitVec 32)) : Nat) : Int)) (fun w => by kernel_rfl) (bv_quo_u32 (crc (tl ((strB (le (BitVec.ofNat 32 (tl s).length) 2)) ++ s))) (65536 : BitVec 32)) kr ?_
  refine s_valE (some 29) (.int .u32 (Int.tmod (((BitVec.toNat ((crc (tl ((strB (le (BitVec.ofNat 32 (tl s).length) 2)) ++ s))) / (65536 : BitVec 32)) : Nat) : Int)) (256))) (.int .u32 ((BitVec.toNat (((crc (tl ((strB (le (BitVec.ofNat 32 (tl s).length) 2)) ++ s))) / (65536 : BitVec 32)) % (256 : BitVec 32)) : Nat) : Int)) (fun w => by kernel_rfl) (bv_rem_u32 ((crc (tl ((strB (le (BitVec.ofNat 32 (tl s).length) 2)) ++ s))) / (65536 : BitVec 32)) (256 : BitVec 32)) kr ?_
  refine s_valE (some 30) (.int .u8 (IntKind.u8.wrap (((BitVec.toNat (((crc (tl ((strB (le (BitVec.ofNat 32 (tl s).length) 2)) ++ s))) / (65536 : BitVec 32)) % (256 : BitVec 32)) : Nat) : Int)))) (.int .u8 ((BitVec.toNat (BitVec.setWidth 8 (((crc (tl ((strB (le (BitVec.ofNat 32 (tl s).length) 2)) ++ s))) / (65536 : BitVec 32)) % (256 : BitVec 32))) : Nat) : Int)) (fun w => by kernel_rfl) (bv_conv_u8 (((crc (tl ((strB (le (BitVec.ofNat 32 (tl s).length) 2)) ++ s))) / (65536 : BitVec 32)) % (256 : BitVec 32))) kr ?_
  refine s_val (some 31) (.int .u32 ((BitVec.toNat (crc (tl ((strB (le (BitVec.ofNat 32 (tl s).length) 2)) ++ s))) : Nat) : Int)) (fun w => by kernel_rfl) kr ?_
  refine s_valE (some 32) (.int .u32 (IntKind.u32.wrap (Int.tdiv (((BitVec.toNat (crc (tl ((strB (le (BitVec.ofNat 32 (tl s).length) 2)) ++ s))) : Nat) : Int)) (16777216)))) (.int .u32 ((BitVec.toNat ((crc (tl ((strB (le (BitVec.ofNat 32 (tl s).length) 2)) ++ s))) / (16777216 : BitVec 32)) : Nat) : Int)) (fun w => by kernel_rfl) (bv_quo_u32 (crc (tl ((strB (le (BitVec.ofNat 32 (tl s).length) 2)) ++ s))) (16777216 : BitVec 32)) kr ?_
  refine s_valE (some 33) (.int .u8 (IntKind.u8.wrap (((BitVec.toNat ((crc (tl ((strB (le (BitVec.ofNat 32 (tl s).length) 2)) ++ s))) / (16777216 : BitVec 32)) : Nat) : Int)))) (.int .u8 ((BitVec.toNat (BitVec.setWidth 8 ((crc (tl ((strB (le (BitVec.ofNat 32 (tl s).length) 2)) ++ s))) / (16777216 : BitVec 32))) : Nat) : Int)) (fun w => by kernel_rfl) (bv_conv_u8 ((crc (tl ((strB (le (BitVec.ofNat 32 (tl s).length) 2)) ++ s))) / (16777216 : BitVec 32))) kr ?_
  refine s_new H2 (some 34) (fun b => .slice (some ⟨b, 0, none⟩) 4 4) #[.int .u8 ((BitVec.toNat (BitVec.setWidth 8 ((crc (tl ((strB (le (BitVec.ofNat 32 (tl s).length) 2)) ++ s))) % (256 : BitVec 32))) : Nat) : Int), .int .u8 ((BitVec.toNat (BitVec.setWidth 8 (((crc (tl ((strB (le (BitVec.ofNat 32 (tl s).length) 2)) ++ s))) / (256 : BitVec 32)) % (256 : BitVec 32))) : Nat) : Int), .int .u8 ((BitVec.toNat (BitVec.setWidth 8 (((crc (tl ((strB (le (BitVec.ofNat 32 (tl s).length) 2)) ++ s))) / (65536 : BitVec 32)) % (256 : BitVec 32))) : Nat) : Int), .int .u8 ((BitVec.toNat (BitVec.setWidth 8 ((crc (tl ((strB (le (BitVec.ofNat 32 (tl s).length) 2)) ++ s))) / (16777216 : BitVec 32))) : Nat) : Int)] 5 (fun w => by kernel_rfl) kr ?_
  intro b2 w3 H3; clear H2
  refine s_bytesStr H3 (some 35) 66 9 5 (.tmp 34) 0 b2 4 4 #[.int .u8 ((BitVec.toNat (BitVec.setWidth 8 ((crc (tl ((strB (le (BitVec.ofNat 32 (tl s).length) 2)) ++ s))) % (256 : BitVec 32))) : Nat) : Int), .int .u8 ((BitVec.toNat (BitVec.setWidth 8 (((crc (tl ((strB (le (BitVec.ofNat 32 (tl s).length) 2)) ++ s))) / (256 : BitVec 32)) % (256 : BitVec 32))) : Nat) : Int), .int .u8 ((BitVec.toNat (BitVec.setWidth 8 (((crc (tl ((strB (le (BitVec.ofNat 32 (tl s).length) 2)) ++ s))) / (65536 : BitVec 32)) % (256 : BitVec 32))) : Nat) : Int), .int .u8 ((BitVec.toNat (BitVec.setWidth 8 ((crc (tl ((strB (le (BitVec.ofNat 32 (tl s).length) 2)) ++ s))) / (16777216 : BitVec 32))) : Nat) : Int)] 5 (0, 0) ([((BitVec.toNat (BitVec.setWidth 8 ((crc (tl ((strB (le (BitVec.ofNat 32 (tl s).length) 2)) ++ s))) % (256 : BitVec 32))) : Nat) : Int), ((BitVec.toNat (BitVec.setWidth 8 (((crc (tl ((strB (le (BitVec.ofNat 32 (tl s).length) 2)) ++ s))) / (256 : BitVec 32)) % (256 : BitVec 32))) : Nat) : Int), ((BitVec.toNat (BitVec.setWidth 8 (((crc (tl ((strB (le (BitVec.ofNat 32 (tl s).length) 2)) ++ s))) / (65536 : BitVec 32)) % (256 : BitVec 32))) : Nat) : Int), ((BitVec.toNat (BitVec.setWidth 8 ((crc (tl ((strB (le (BitVec.ofNat 32 (tl s).length) 2)) ++ s))) / (16777216 : BitVec 32))) : Nat) : Int)]) kr kr kr kr kr kr kr (Rw.lit #[.int .u8 ((BitVec.toNat (BitVec.setWidth 8 ((crc (tl ((strB (le (BitVec.ofNat 32 (tl s).length) 2)) ++ s))) % (256 : BitVec 32))) : Nat) : Int), .int .u8 ((BitVec.toNat (BitVec.setWidth 8 (((crc (tl ((strB (le (BitVec.ofNat 32 (tl s).length) 2)) ++ s))) / (256 : BitVec 32)) % (256 : BitVec 32))) : Nat) : Int), .int .u8 ((BitVec.toNat (BitVec.setWidth 8 (((crc (tl ((strB (le (BitVec.ofNat 32 (tl s).length) 2)) ++ s))) / (65536 : BitVec 32)) % (256 : BitVec 32))) : Nat) : Int), .int .u8 ((BitVec.toNat (BitVec.setWidth 8 ((crc (tl ((strB (le (BitVec.ofNat 32 (tl s).length) 2)) ++ s))) / (16777216 : BitVec 32))) : Nat) : Int)] 4 (by rfl) (by unfold maxLen; omega)) ?_
  rw [show strOfNums ([((BitVec.toNat (BitVec.setWidth 8 ((crc (tl ((strB (le (BitVec.ofNat 32 (tl s).length) 2)) ++ s))) % (256 : BitVec 32))) : Nat) : Int), ((BitVec.toNat (BitVec.setWidth 8 (((crc (tl ((strB (le (BitVec.ofNat 32 (tl s).length) 2)) ++ s))) / (256 : BitVec 32)) % (256 : BitVec 32))) : Nat) : Int), ((BitVec.toNat (BitVec.setWidth 8 (((crc (tl ((strB (le (BitVec.ofNat 32 (tl s).length) 2)) ++ s))) / (65536 : BitVec 32)) % (256 : BitVec 32))) : Nat) : Int), ((BitVec.toNat (BitVec.setWidth 8 ((crc (tl ((strB (le (BitVec.ofNat 32 (tl s).length) 2)) ++ s))) / (16777216 : BitVec 32))) : Nat) : Int)]) = strB (le (crc (tl ((strB (le (BitVec.ofNat 32 (tl s).length) 2)) ++ s))) 4) from fr4 (crc (tl ((strB (le (BitVec.ofNat 32 (tl s).length) 2)) ++ s)))]
  have hz3 : ByteArray.size (((strB (le (BitVec.ofNat 32 (tl s).length) 2)) ++ s) ++ (strB (le (crc (tl ((strB (le (BitVec.ofNat 32 (tl s).length) 2)) ++ s))) 4))) = ByteArray.size ((strB (le (BitVec.ofNat 32 (tl s).length) 2)) ++ s) + ByteArray.size (strB (le (crc (tl ((strB (le (BitVec.ofNat 32 (tl s).length) 2)) ++ s))) 4)) := add_size _ _
  have hz4 : ByteArray.size (strB (le (crc (tl ((strB (le (BitVec.ofNat 32 (tl s).length) 2)) ++ s))) 4)) = 4 := le_size _ _
  refine s_op (some 36) _ (.string (((strB (le (BitVec.ofNat 32 (tl s).length) 2)) ++ s) ++ (strB (le (crc (tl ((strB (le (BitVec.ofNat 32 (tl s).length) 2)) ++ s))) 4)))) kr kr (fun o w ho => sadd_run (t := 9) (t' := 9) (x := (.tmp 19)) (y := (.tmp 35)) ((strB (le (BitVec.ofNat 32 (tl s).length) 2)) ++ s) (strB (le (crc (tl ((strB (le (BitVec.ofNat 32 (tl s).length) 2)) ++ s))) 4)) w ho kr kr (by omega)) ?_
  refine s_val (some 2) (.string (((strB (le (BitVec.ofNat 32 (tl s).length) 2)) ++ s) ++ (strB (le (crc (tl ((strB (le (BitVec.ofNat 32 (tl s).length) 2)) ++ s))) 4)))) (fun w => by kernel_rfl) kr ?_
  refine s_nil ?_
  refine g_ret kr ?_
  show ∃ vs, Res _ _ _ _ vs ∧ _
  refine ⟨[.string (((strB (le (BitVec.ofNat 32 (tl s).length) 2)) ++ s) ++ (strB (le (crc (tl ((strB (le (BitVec.ofNat 32 (tl s).length) 2)) ++ s))) 4)))], (.tmp (.string (((strB (le (BitVec.ofNat 32 (tl s).length) 2)) ++ s) ++ (strB (le (crc (tl ((strB (le (BitVec.ofNat 32 (tl s).length) 2)) ++ s))) 4)))) kr .nil), ?_, H3.below⟩
  rfl
end Go.Proofs.Ythpiojejhellhaa

namespace Go.Proofs.Ythpiojejhellhaa
open Go Go.RowKit Go.Proofs.Crc
set_option linter.unusedVariables false
theorem size2_drop (s : ByteArray) (p : Nat) : size2 ((tl s).drop p) = by_ s p + 256 * by_ s (p + 1) := by
  unfold size2 by_
  have e : ∀ i, ((tl s).drop p).getD i 0 = (tl s).getD (p + i) 0 := fun i => by
    rw [List.getD_eq_getElem?_getD, List.getElem?_drop, List.getD_eq_getElem?_getD]
  rw [e, e]; rfl
theorem rec_is (s : ByteArray) (p n : Nat) : tl (ByteArray.extract s (p + 2) (p + 2 + n)) = (((tl s).drop p).take (n + 2)).drop 2 := by
  rw [tl_extract, ← List.drop_drop, List.take_drop, show p + (n + 2) = p + 2 + n by omega]
theorem all_is (s : ByteArray) (p n : Nat) : tl (ByteArray.extract s p (p + n + 6)) = ((tl s).drop p).take (n + 6) := by
  rw [tl_extract, List.take_drop, show p + (n + 6) = p + n + 6 by omega]
/-- Where the reference says no. -/
theorem no_short {s : ByteArray} {l : List ByteArray} {p : Nat} (h : So (tl s) l p) (hc : ByteArray.size s - p < 7) : Sc (tl s) l p :=
  ⟨h.1, h.2.1, h.2.2.1, fst_short (by rw [List.length_drop, tl_len]; exact hc)⟩
theorem no_size {s : ByteArray} {l : List ByteArray} {p : Nat} (h : So (tl s) l p) (hc : by_ s p + 256 * by_ s (p + 1) < 1 ∨ 4000 < by_ s p + 256 * by_ s (p + 1) ∨ ByteArray.size s - p < by_ s p + 256 * by_ s (p + 1) + 6) : Sc (tl s) l p := by
  refine ⟨h.1, h.2.1, h.2.2.1, ?_⟩
  unfold fst
  rw [size2_drop, List.length_drop, tl_len, if_pos (by omega)]
theorem no_same {s : ByteArray} {l : List ByteArray} {p : Nat} (h : So (tl s) l p)
    (hc : ¬ strB (frB (tl (ByteArray.extract s (p + 2) (p + 2 + (by_ s p + 256 * by_ s (p + 1)))))) = ByteArray.extract s p (p + (by_ s p + 256 * by_ s (p + 1)) + 6)) : Sc (tl s) l p := by
  refine ⟨h.1, h.2.1, h.2.2.1, ?_⟩
  by_cases e : fst ((tl s).drop p) = []
  · exact e
  · exfalso
    obtain ⟨h1, h2, h3⟩ := fst_back rfl e
    apply hc
    apply tl_inj
    rw [tl_strB, rec_is, all_is]
    rw [size2_drop] at h3
    generalize by_ s p + 256 * by_ s (p + 1) = n at *
    generalize hr : fst ((tl s).drop p) = r at *
    have e1 : (((tl s).drop p).take (n + 2)).drop 2 = r := by
      rw [h2, ← h3]
      unfold frB ct
      rw [List.append_assoc, List.append_assoc, List.take_append, le_len, List.take_of_length_le (by rw [le_len]; omega), show r.length + 2 - 2 = r.length by omega, List.take_left, List.drop_append_of_le_length (by rw [le_len]; omega), List.drop_of_length_le (by rw [le_len]; omega), List.nil_append]
    rw [e1]
    conv => rhs; rw [h2]
    rw [← h3, ← frB_len, List.take_left]
theorem so_more {s : ByteArray} {l : List ByteArray} {p : Nat} (h : So (tl s) l p) (hn : ¬ by_ s p + 256 * by_ s (p + 1) < 1 ∧ ¬ 4000 < by_ s p + 256 * by_ s (p + 1)) (hp : ¬ ByteArray.size s - p < by_ s p + 256 * by_ s (p + 1) + 6)
    (hc : strB (frB (tl (ByteArray.extract s (p + 2) (p + 2 + (by_ s p + 256 * by_ s (p + 1)))))) = ByteArray.extract s p (p + (by_ s p + 256 * by_ s (p + 1)) + 6)) :
    So (tl s) (l ++ [ByteArray.extract s (p + 2) (p + 2 + (by_ s p + 256 * by_ s (p + 1)))]) (p + (by_ s p + 256 * by_ s (p + 1)) + 6) ∧ p + (by_ s p + 256 * by_ s (p + 1)) + 6 ≤ ByteArray.size s := by
  generalize by_ s p + 256 * by_ s (p + 1) = n at *
  have hps : p ≤ ByteArray.size s := h.2.2.2
  have hz := ext_size s (p + 2) (p + 2 + n) (by omega)
  have hr : IsR (tl (ByteArray.extract s (p + 2) (p + 2 + n))) := by unfold IsR; rw [tl_len]; omega
  have hd : (tl s).drop p = frB (tl (ByteArray.extract s (p + 2) (p + 2 + n))) ++ (tl s).drop (p + (n + 6)) := by
    have := congrArg tl hc
    rw [tl_strB, all_is] at this
    rw [this, ← List.drop_drop, List.take_append_drop]
  have hf : fst ((tl s).drop p) = tl (ByteArray.extract s (p + 2) (p + 2 + n)) := by rw [hd]; exact fst_some _ _ hr
  have hne : tl (ByteArray.extract s (p + 2) (p + 2 + n)) ≠ [] := fun e => by have := hr.1; rw [e] at this; simp at this
  have := sc_more (s := ByteArray.extract s (p + 2) (p + 2 + n)) h.2.1 h.2.2.1 hf hne h.1
  rw [hz, show p + (p + 2 + n - (p + 2) + 6) = p + n + 6 by omega] at this
  exact ⟨⟨this.1, this.2.1, this.2.2.1, this.2.2.2.1⟩, by have := this.2.2.2.1; rw [tl_len] at this; exact this⟩
set_option maxRecDepth 100000 in
set_option maxHeartbeats 2000000 in
theorem scanR_fn (s : ByteArray) (hs : ByteArray.size s ≤ 1000000) : FnR Try.prog 33 #[.string s] (fun _ => True) (RetT 9 (fun rs p => Sc (tl s) rs p)) := by
  refine FnR.intro (c := codeOf Try.f33) [.tmp 2, .tmp 3] 72 Try.func33 kr kr kr fun w hpre => ?_
  have H0 := St.start w
  refine g_sreg [0, 1] kr kr ?_
  refine s_val (some 2) (.slice none 0 0) (fun w => by kernel_rfl) kr ?_
  refine s_val (some 3) (.int .i64 0) (fun w => by kernel_rfl) kr ?_
  refine s_nil ?_
  refine g_sreg [0, 1] kr kr ?_
  refine s_new H0 (some 8) (fun b => .slice (some ⟨b, 0, none⟩) 0 0) #[] 9 (fun w => by kernel_rfl) kr ?_
  intro b1 w1 H1; clear H0
  refine s_val (some 4) (.slice (some ⟨b1, 0, none⟩) 0 0) (fun w => by kernel_rfl) kr ?_
  refine s_nil ?_
  refine g_sreg [0] kr kr ?_
  refine s_val (some 5) (.int .i64 0) (fun w => by kernel_rfl) kr ?_
  refine s_nil ?_
  refine g_block 0 kr ?_
  refine g_loop kr (fun mz ρ ww => ∃ (b : Nat) (cap : Nat) (n : Nat) (cur : Array Value) (l : List ByteArray) (p : Nat), ByteArray.size s - p = mz ∧ (n = List.length l) ∧ (Rw 1 cur cap n (cellsS l)) ∧ (So (tl s) l p) ∧ St w.heap.size w ww [(b, Obj.cells cur 9 (0, 0))] ∧ Is [(0, .string s), (4, .slice (some ⟨b, 0, none⟩) n cap), (5, .int .i64 ((p : Nat) : Int))] ρ) (ByteArray.size s - 0) ⟨b1, 0, 0, #[], [], 0, rfl, rfl, (Rw.lit #[] 0 rfl (by unfold maxLen; omega)), (So.start (tl s)), H1, (Is.of ⟨kr, kr, kr, trivial⟩)⟩ ?_
  clear H1
  rintro _ _ w2 ⟨b, cap, n, cur, l, p, rfl, hn, hr, hso, H2, _, rfl⟩
  have hpl : p ≤ ByteArray.size s := hso.2.2.2
  have hlp := len_size s l p n hso hn
  have hb1 := by_lt s p
  have hb2 := by_lt s (p + 1)
  refine g_block 1 kr ?_
  refine g_seq kr ?_
  refine g_sreg [0, 1, 2, 3, 4] kr kr ?_
  refine s_val (some 9) (.string s) (fun w => by kernel_rfl) kr ?_
  refine s_val (some 10) (.int .i64 ((ByteArray.size s : Nat) : Int)) (fun w => by kernel_rfl) kr ?_
  refine s_val (some 11) (.int .i64 ((p : Nat) : Int)) (fun w => by kernel_rfl) kr ?_
  refine s_valE (some 12) (.int .i64 (IntKind.i64.wrap (((ByteArray.size s : Nat) : Int) - ((p : Nat) : Int)))) (.int .i64 (((ByteArray.size s) - p : Nat) : Int)) (fun w => by kernel_rfl) (int_eq (wrapSub_i64 (a := ByteArray.size s) (b := p) (by omega))) kr ?_
  by_cases hc1 : ((ByteArray.size s) - p : Nat) < 7
  · skip
    refine s_valE (some 13) (.bool (decide ((((ByteArray.size s) - p : Nat) : Int) < 7))) (.bool true) (fun w => by kernel_rfl) (bool_eq (decide_eq_true (by omega))) kr ?_
    refine s_nil ?_
    refine g_cond_t kr kr ?_
    refine g_sreg [0, 1, 2, 3] kr kr ?_
    refine s_val (some 14) (.slice (some ⟨b, 0, none⟩) n cap) (fun w => by kernel_rfl) kr ?_
    refine s_val (some 15) (.int .i64 ((p : Nat) : Int)) (fun w => by kernel_rfl) kr ?_
    refine s_val (some 2) (.slice (some ⟨b, 0, none⟩) n cap) (fun w => by kernel_rfl) kr ?_
    refine s_val (some 3) (.int .i64 ((p : Nat) : Int)) (fun w => by kernel_rfl) kr ?_
    refine s_nil ?_
    refine g_ret kr ?_
    show ∃ vs, Res _ _ _ _ vs ∧ _
    refine ⟨[.slice (some ⟨b, 0, none⟩) n cap, .int .i64 ((p : Nat) : Int)], (.tmp (.slice (some ⟨b, 0, none⟩) n cap) kr (.tmp (.int .i64 ((p : Nat) : Int)) kr .nil)), H2.below, ?_⟩
    exact ⟨l, p, (no_short hso (by omega)), Or.inr ⟨b, cap, n, cur, rfl, H2.ge 0 (o := .cells cur 9 (0, 0)) kr, H2.get 0 kr, hn, hr⟩⟩
  · skip
    refine s_valE (some 13) (.bool (decide ((((ByteArray.size s) - p : Nat) : Int) < 7))) (.bool false) (fun w => by kernel_rfl) (bool_eq (decide_eq_false (by omega))) kr ?_
    refine s_nil ?_
    refine g_cond_f kr kr ?_
    refine g_skip kr ?_
    show WP _ _ _ _ _ _
    refine D2.g_sdraw [0, 1, 2, 3, 4, 5, 6, 7, 8, 9, 10, 11] [((some 16), fun _ => .string s), ((some 17), fun _ => .int .i64 ((p : Nat) : Int)), ((some 18), fun _ => .int .u8 ((by_ s p : Nat) : Int)), ((some 19), fun _ => .int .i64 ((by_ s p : Nat) : Int)), ((some 20), fun _ => .string s), ((some 21), fun _ => .int .i64 ((p : Nat) : Int)), ((some 22), fun _ => .int .i64 ((p + 1 : Nat) : Int)), ((some 23), fun _ => .int .u8 ((by_ s (p + 1) : Nat) : Int)), ((some 24), fun _ => .int .i64 ((by_ s (p + 1) : Nat) : Int)), ((some 25), fun _ => .int .i64 ((256 * (by_ s (p + 1)) : Nat) : Int)), ((some 26), fun _ => .int .i64 (((by_ s p) + (256 * (by_ s (p + 1))) : Nat) : Int)), ((some 6), fun _ => .int .i64 (((by_ s p) + (256 * (by_ s (p + 1))) : Nat) : Int))] (D2.Pre w.heap.size w (fun L g => [(true, (b, Obj.cells cur 9 (0, 0)))]) (fun L g => True)) kr kr kr kr ⟨D2.StE.of H2.drew _ kr, trivial⟩ ⟨?_, ?_, ?_, ?_, ?_, ?_, ?_, ?_, ?_, ?_, ?_, ?_, trivial⟩ ?_
    · exact D2.gv_val (fun _ _ _ h => h) (fun g w => by kernel_rfl)
    · exact D2.gv_val (fun _ _ _ h => h) (fun g w => by kernel_rfl)
    · exact D2.gv_op (fun _ _ _ h => h) _ (fun g => by kernel_rfl) (fun g => (fun o w ho => sindex_run (t := 9) (kd := .i64) kr (x := (.tmp 16)) (y := (.tmp 17)) s p ho kr kr (by omega) w))
    · exact D2.gv_valE (fun _ _ _ h => h) (V' := .int .i64 (IntKind.i64.wrap (((by_ s p : Nat) : Int)))) (fun g w => by kernel_rfl) (int_eq (wrapN_i64 (a := by_ s p) (by omega)))
    · exact D2.gv_val (fun _ _ _ h => h) (fun g w => by kernel_rfl)
    · exact D2.gv_val (fun _ _ _ h => h) (fun g w => by kernel_rfl)
    · exact D2.gv_valE (fun _ _ _ h => h) (V' := .int .i64 (IntKind.i64.wrap (((p : Nat) : Int) + 1))) (fun g w => by kernel_rfl) (int_eq (wrapAdd_i64 (a := p) (b := 1) (by omega)))
    · exact D2.gv_op (fun _ _ _ h => h) _ (fun g => by kernel_rfl) (fun g => (fun o w ho => sindex_run (t := 9) (kd := .i64) kr (x := (.tmp 20)) (y := (.tmp 22)) s (p + 1) ho kr kr (by omega) w))
    · exact D2.gv_valE (fun _ _ _ h => h) (V' := .int .i64 (IntKind.i64.wrap (((by_ s (p + 1) : Nat) : Int)))) (fun g w => by kernel_rfl) (int_eq (wrapN_i64 (a := by_ s (p + 1)) (by omega)))
    · exact D2.gv_valE (fun _ _ _ h => h) (V' := .int .i64 (IntKind.i64.wrap (256 * ((by_ s (p + 1) : Nat) : Int)))) (fun g w => by kernel_rfl) (int_eq (wrapMul_i64 (a := 256) (b := by_ s (p + 1)) (by omega)))
    · exact D2.gv_valE (fun _ _ _ h => h) (V' := .int .i64 (IntKind.i64.wrap (((by_ s p : Nat) : Int) + ((256 * (by_ s (p + 1)) : Nat) : Int)))) (fun g w => by kernel_rfl) (int_eq (wrapAdd_i64 (a := by_ s p) (b := 256 * (by_ s (p + 1))) (by omega)))
    · exact D2.gv_val (fun _ _ _ h => h) (fun g w => by kernel_rfl)
    intro L0 G3 w3 hall HL; clear H2
    have H3 : St w.heap.size w w3 [(b, Obj.cells cur 9 (0, 0))] := D2.StE.st HL.1
    clear HL hall
    refine g_seq kr ?_
    refine g_sreg [0, 1, 2, 3, 4, 5, 6, 7, 8, 9, 10, 11, 12, 13, 14] kr kr ?_
    refine s_val (some 27) (.int .i64 (((by_ s p) + (256 * (by_ s (p + 1))) : Nat) : Int)) (fun w => by kernel_rfl) kr ?_
    by_cases hc2 : ((by_ s p) + (256 * (by_ s (p + 1))) : Nat) < 1
    · skip
      refine s_valE (some 28) (.bool (decide ((((by_ s p) + (256 * (by_ s (p + 1))) : Nat) : Int) < 1))) (.bool true) (fun w => by kernel_rfl) (bool_eq (decide_eq_true (by omega))) kr ?_
      refine s_val (some 29) (.bool true) (fun w => by kernel_rfl) kr ?_
      refine s_not (some 30) kr kr ?_
      refine s_not (some 31) kr kr ?_
      refine s_val (some 32) (.bool true) (fun w => by kernel_rfl) kr ?_
      refine s_val (some 33) (.bool true) (fun w => by kernel_rfl) kr ?_
      refine s_not (some 34) kr kr ?_
      refine s_not (some 35) kr kr ?_
      refine s_not (some 36) kr kr ?_
      refine s_not (some 37) kr kr ?_
      refine s_not (some 38) kr kr ?_
      refine s_not (some 39) kr kr ?_
      refine s_not (some 40) kr kr ?_
      refine s_val (some 41) (.bool true) (fun w => by kernel_rfl) kr ?_
      refine s_nil ?_
      refine g_cond_t kr kr ?_
      refine g_sreg [0, 1, 2, 3] kr kr ?_
      refine s_val (some 42) (.slice (some ⟨b, 0, none⟩) n cap) (fun w => by kernel_rfl) kr ?_
      refine s_val (some 43) (.int .i64 ((p : Nat) : Int)) (fun w => by kernel_rfl) kr ?_
      refine s_val (some 2) (.slice (some ⟨b, 0, none⟩) n cap) (fun w => by kernel_rfl) kr ?_
      refine s_val (some 3) (.int .i64 ((p : Nat) : Int)) (fun w => by kernel_rfl) kr ?_
      refine s_nil ?_
      refine g_ret kr ?_
      show ∃ vs, Res _ _ _ _ vs ∧ _
      refine ⟨[.slice (some ⟨b, 0, none⟩) n cap, .int .i64 ((p : Nat) : Int)], (.tmp (.slice (some ⟨b, 0, none⟩) n cap) kr (.tmp (.int .i64 ((p : Nat) : Int)) kr .nil)), H3.below, ?_⟩
      exact ⟨l, p, (no_size hso (by omega)), Or.inr ⟨b, cap, n, cur, rfl, H3.ge 0 (o := .cells cur 9 (0, 0)) kr, H3.get 0 kr, hn, hr⟩⟩
    · skip
      refine s_valE (some 28) (.bool (decide ((((by_ s p) + (256 * (by_ s (p + 1))) : Nat) : Int) < 1))) (.bool false) (fun w => by kernel_rfl) (bool_eq (decide_eq_false (by omega))) kr ?_
      refine s_val (some 29) (.bool false) (fun w => by kernel_rfl) kr ?_
      refine s_val (some 30) (.int .i64 (((by_ s p) + (256 * (by_ s (p + 1))) : Nat) : Int)) (fun w => by kernel_rfl) kr ?_
      by_cases hc3 : ((by_ s p) + (256 * (by_ s (p + 1))) : Nat) > 4000
      · skip
        refine s_valE (some 31) (.bool (decide (4000 < (((by_ s p) + (256 * (by_ s (p + 1))) : Nat) : Int)))) (.bool true) (fun w => by kernel_rfl) (bool_eq (decide_eq_true (by omega))) kr ?_
        refine s_val (some 32) (.bool true) (fun w => by kernel_rfl) kr ?_
        refine s_val (some 33) (.bool true) (fun w => by kernel_rfl) kr ?_
        refine s_not (some 34) kr kr ?_
        refine s_not (some 35) kr kr ?_
        refine s_not (some 36) kr kr ?_
        refine s_not (some 37) kr kr ?_
        refine s_not (some 38) kr kr ?_
        refine s_not (some 39) kr kr ?_
        refine s_not (some 40) kr kr ?_
        refine s_val (some 41) (.bool true) (fun w => by kernel_rfl) kr ?_
        refine s_nil ?_
        refine g_cond_t kr kr ?_
        refine g_sreg [0, 1, 2, 3] kr kr ?_
        refine s_val (some 42) (.slice (some ⟨b, 0, none⟩) n cap) (fun w => by kernel_rfl) kr ?_
        refine s_val (some 43) (.int .i64 ((p : Nat) : Int)) (fun w => by kernel_rfl) kr ?_
        refine s_val (some 2) (.slice (some ⟨b, 0, none⟩) n cap) (fun w => by kernel_rfl) kr ?_
        refine s_val (some 3) (.int .i64 ((p : Nat) : Int)) (fun w => by kernel_rfl) kr ?_
        refine s_nil ?_
        refine g_ret kr ?_
        show ∃ vs, Res _ _ _ _ vs ∧ _
        refine ⟨[.slice (some ⟨b, 0, none⟩) n cap, .int .i64 ((p : Nat) : Int)], (.tmp (.slice (some ⟨b, 0, none⟩) n cap) kr (.tmp (.int .i64 ((p : Nat) : Int)) kr .nil)), H3.below, ?_⟩
        exact ⟨l, p, (no_size hso (by omega)), Or.inr ⟨b, cap, n, cur, rfl, H3.ge 0 (o := .cells cur 9 (0, 0)) kr, H3.get 0 kr, hn, hr⟩⟩
      · skip
        refine s_valE (some 31) (.bool (decide (4000 < (((by_ s p) + (256 * (by_ s (p + 1))) : Nat) : Int)))) (.bool false) (fun w => by kernel_rfl) (bool_eq (decide_eq_false (by omega))) kr ?_
        refine s_val (some 32) (.bool false) (fun w => by kernel_rfl) kr ?_
        refine s_val (some 33) (.bool false) (fun w => by kernel_rfl) kr ?_
        refine s_val (some 34) (.string s) (fun w => by kernel_rfl) kr ?_
        refine s_val (some 35) (.int .i64 ((ByteArray.size s : Nat) : Int)) (fun w => by kernel_rfl) kr ?_
        refine s_val (some 36) (.int .i64 ((p : Nat) : Int)) (fun w => by kernel_rfl) kr ?_
        refine s_valE (some 37) (.int .i64 (IntKind.i64.wrap (((ByteArray.size s : Nat) : Int) - ((p : Nat) : Int)))) (.int .i64 (((ByteArray.size s) - p : Nat) : Int)) (fun w => by kernel_rfl) (int_eq (wrapSub_i64 (a := ByteArray.size s) (b := p) (by omega))) kr ?_
        refine s_val (some 38) (.int .i64 (((by_ s p) + (256 * (by_ s (p + 1))) : Nat) : Int)) (fun w => by kernel_rfl) kr ?_
        refine s_valE (some 39) (.int .i64 (IntKind.i64.wrap ((((by_ s p) + (256 * (by_ s (p + 1))) : Nat) : Int) + 6))) (.int .i64 ((((by_ s p) + (256 * (by_ s (p + 1)))) + 6 : Nat) : Int)) (fun w => by kernel_rfl) (int_eq (wrapAdd_i64 (a := (by_ s p) + (256 * (by_ s (p + 1)))) (b := 6) (by omega))) kr ?_
        by_cases hc4 : ((ByteArray.size s) - p : Nat) < ((by_ s p) + (256 * (by_ s (p + 1)))) + 6
        · skip
          refine s_valE (some 40) (.bool (decide ((((ByteArray.size s) - p : Nat) : Int) < ((((by_ s p) + (256 * (by_ s (p + 1)))) + 6 : Nat) : Int)))) (.bool true) (fun w => by kernel_rfl) (bool_eq (decide_eq_true (by omega))) kr ?_
          refine s_val (some 41) (.bool true) (fun w => by kernel_rfl) kr ?_
          refine s_nil ?_
          refine g_cond_t kr kr ?_
          refine g_sreg [0, 1, 2, 3] kr kr ?_
          refine s_val (some 42) (.slice (some ⟨b, 0, none⟩) n cap) (fun w => by kernel_rfl) kr ?_
          refine s_val (some 43) (.int .i64 ((p : Nat) : Int)) (fun w => by kernel_rfl) kr ?_
          refine s_val (some 2) (.slice (some ⟨b, 0, none⟩) n cap) (fun w => by kernel_rfl) kr ?_
          refine s_val (some 3) (.int .i64 ((p : Nat) : Int)) (fun w => by kernel_rfl) kr ?_
          refine s_nil ?_
          refine g_ret kr ?_
          show ∃ vs, Res _ _ _ _ vs ∧ _
          refine ⟨[.slice (some ⟨b, 0, none⟩) n cap, .int .i64 ((p : Nat) : Int)], (.tmp (.slice (some ⟨b, 0, none⟩) n cap) kr (.tmp (.int .i64 ((p : Nat) : Int)) kr .nil)), H3.below, ?_⟩
          exact ⟨l, p, (no_size hso (by omega)), Or.inr ⟨b, cap, n, cur, rfl, H3.ge 0 (o := .cells cur 9 (0, 0)) kr, H3.get 0 kr, hn, hr⟩⟩
        · skip
          refine s_valE (some 40) (.bool (decide ((((ByteArray.size s) - p : Nat) : Int) < ((((by_ s p) + (256 * (by_ s (p + 1)))) + 6 : Nat) : Int)))) (.bool false) (fun w => by kernel_rfl) (bool_eq (decide_eq_false (by omega))) kr ?_
          refine s_val (some 41) (.bool false) (fun w => by kernel_rfl) kr ?_
          refine s_nil ?_
          refine g_cond_f kr kr ?_
          refine g_skip kr ?_
          show WP _ _ _ _ _ _
          refine g_sreg [0, 1, 2, 3, 4, 5, 6, 7, 8] kr kr ?_
          refine s_val (some 44) (.string s) (fun w => by kernel_rfl) kr ?_
          refine s_val (some 45) (.int .i64 ((p : Nat) : Int)) (fun w => by kernel_rfl) kr ?_
          refine s_valE (some 46) (.int .i64 (IntKind.i64.wrap (((p : Nat) : Int) + 2))) (.int .i64 ((p + 2 : Nat) : Int)) (fun w => by kernel_rfl) (int_eq (wrapAdd_i64 (a := p) (b := 2) (by omega))) kr ?_
          refine s_val (some 47) (.int .i64 ((p : Nat) : Int)) (fun w => by kernel_rfl) kr ?_
          refine s_valE (some 48) (.int .i64 (IntKind.i64.wrap (((p : Nat) : Int) + 2))) (.int .i64 ((p + 2 : Nat) : Int)) (fun w => by kernel_rfl) (int_eq (wrapAdd_i64 (a := p) (b := 2) (by omega))) kr ?_
          refine s_val (some 49) (.int .i64 (((by_ s p) + (256 * (by_ s (p + 1))) : Nat) : Int)) (fun w => by kernel_rfl) kr ?_
          refine s_valE (some 50) (.int .i64 (IntKind.i64.wrap (((p + 2 : Nat) : Int) + (((by_ s p) + (256 * (by_ s (p + 1))) : Nat) : Int)))) (.int .i64 (((p + 2) + ((by_ s p) + (256 * (by_ s (p + 1)))) : Nat) : Int)) (fun w => by kernel_rfl) (int_eq (wrapAdd_i64 (a := p + 2) (b := (by_ s p) + (256 * (by_ s (p + 1)))) (by omega))) kr ?_
          refine s_op (some 51) _ (.string (ByteArray.extract s (p + 2) ((p + 2) + ((by_ s p) + (256 * (by_ s (p + 1))))))) kr kr (fun o w ho => scut2_run (t := 9) (kd := .i64) (kz := .i64) kr (x := (.tmp 44)) (y := (.tmp 50)) (z := (.tmp 46)) s (p + 2) ((p + 2) + ((by_ s p) + (256 * (by_ s (p + 1))))) ho kr kr kr (by omega) (by omega) w) ?_
          refine s_val (some 7) (.string (ByteArray.extract s (p + 2) ((p + 2) + ((by_ s p) + (256 * (by_ s (p + 1))))))) (fun w => by kernel_rfl) kr ?_
          refine s_nil ?_
          refine g_seq kr ?_
          by_cases hx5 : strB (frB (tl (ByteArray.extract s (p + 2) ((p + 2) + ((by_ s p) + (256 * (by_ s (p + 1)))))))) = (ByteArray.extract s p ((p + ((by_ s p) + (256 * (by_ s (p + 1))))) + 6))
          · skip
            refine D2.g_sdraw [0, 1, 2, 3, 4, 5, 6, 7, 8, 9] [((some 52), fun _ => .string (ByteArray.extract s (p + 2) ((p + 2) + ((by_ s p) + (256 * (by_ s (p + 1))))))), ((some 53), fun _ => .string (strB (frB (tl (ByteArray.extract s (p + 2) ((p + 2) + ((by_ s p) + (256 * (by_ s (p + 1)))))))))), ((some 54), fun _ => .string s), ((some 55), fun _ => .int .i64 ((p : Nat) : Int)), ((some 56), fun _ => .int .i64 ((p : Nat) : Int)), ((some 57), fun _ => .int .i64 (((by_ s p) + (256 * (by_ s (p + 1))) : Nat) : Int)), ((some 58), fun _ => .int .i64 ((p + ((by_ s p) + (256 * (by_ s (p + 1)))) : Nat) : Int)), ((some 59), fun _ => .int .i64 (((p + ((by_ s p) + (256 * (by_ s (p + 1))))) + 6 : Nat) : Int)), ((some 60), fun _ => .string (ByteArray.extract s p ((p + ((by_ s p) + (256 * (by_ s (p + 1))))) + 6))), ((some 61), fun _ => .bool false)] (D2.Pre w.heap.size w (fun L g => [(true, (b, Obj.cells cur 9 (0, 0)))]) (fun L g => True)) kr kr kr kr ⟨D2.StE.of H3.drew _ kr, trivial⟩ ⟨?_, ?_, ?_, ?_, ?_, ?_, ?_, ?_, ?_, ?_, trivial⟩ ?_
            · exact D2.gv_val (fun _ _ _ h => h) (fun g w => by kernel_rfl)
            · exact D2.gv_call 28 #[.string (ByteArray.extract s (p + 2) ((p + 2) + ((by_ s p) + (256 * (by_ s (p + 1))))))] (fun _ _ _ h => h) (frameR_fn (ByteArray.extract s (p + 2) ((p + 2) + ((by_ s p) + (256 * (by_ s (p + 1)))))) (by first | omega | (rw [ext_size _ _ _ (by omega)]; omega))) (fun g w => by kernel_rfl)
            · exact D2.gv_val (fun _ _ _ h => h) (fun g w => by kernel_rfl)
            · exact D2.gv_val (fun _ _ _ h => h) (fun g w => by kernel_rfl)
            · exact D2.gv_val (fun _ _ _ h => h) (fun g w => by kernel_rfl)
            · exact D2.gv_val (fun _ _ _ h => h) (fun g w => by kernel_rfl)
            · exact D2.gv_valE (fun _ _ _ h => h) (V' := .int .i64 (IntKind.i64.wrap (((p : Nat) : Int) + (((by_ s p) + (256 * (by_ s (p + 1))) : Nat) : Int)))) (fun g w => by kernel_rfl) (int_eq (wrapAdd_i64 (a := p) (b := (by_ s p) + (256 * (by_ s (p + 1)))) (by omega)))
            · exact D2.gv_valE (fun _ _ _ h => h) (V' := .int .i64 (IntKind.i64.wrap (((p + ((by_ s p) + (256 * (by_ s (p + 1)))) : Nat) : Int) + 6))) (fun g w => by kernel_rfl) (int_eq (wrapAdd_i64 (a := p + ((by_ s p) + (256 * (by_ s (p + 1))))) (b := 6) (by omega)))
            · exact D2.gv_op (fun _ _ _ h => h) _ (fun g => by kernel_rfl) (fun g => (fun o w ho => scut2_run (t := 9) (kd := .i64) (kz := .i64) kr (x := (.tmp 54)) (y := (.tmp 59)) (z := (.tmp 55)) s p ((p + ((by_ s p) + (256 * (by_ s (p + 1))))) + 6) ho kr kr kr (by omega) (by omega) w))
            · exact D2.gv_valE (fun _ _ _ h => h) (V' := .bool (!(ByteArray.toList (strB (frB (tl (ByteArray.extract s (p + 2) ((p + 2) + ((by_ s p) + (256 * (by_ s (p + 1))))))))) == ByteArray.toList (ByteArray.extract s p ((p + ((by_ s p) + (256 * (by_ s (p + 1))))) + 6))))) (fun g w => by kernel_rfl) (bool_eq (by rw [str_same (strB (frB (tl (ByteArray.extract s (p + 2) ((p + 2) + ((by_ s p) + (256 * (by_ s (p + 1))))))))) (ByteArray.extract s p ((p + ((by_ s p) + (256 * (by_ s (p + 1))))) + 6)) hx5]; rfl))
            intro L0 G4 w4 hall HL; clear H3
            have H4 : St w.heap.size w w4 [(b, Obj.cells cur 9 (0, 0))] := D2.StE.st HL.1
            clear HL hall
            refine g_cond_f kr kr ?_
            refine g_skip kr ?_
            show WP _ _ _ _ _ _
            refine g_sreg [0, 1, 2, 3, 4] kr kr ?_
            have hstep := so_more hso (by omega) (by omega) hx5
            have hsz2 := hstep.2
            refine s_val (some 64) (.slice (some ⟨b, 0, none⟩) n cap) (fun w => by kernel_rfl) kr ?_
            refine s_val (some 65) (.string (ByteArray.extract s (p + 2) ((p + 2) + ((by_ s p) + (256 * (by_ s (p + 1))))))) (fun w => by kernel_rfl) kr ?_
            refine s_new H4 (some 66) (fun b => .slice (some ⟨b, 0, none⟩) 1 1) #[.string (ByteArray.extract s (p + 2) ((p + 2) + ((by_ s p) + (256 * (by_ s (p + 1))))))] 9 (fun w => by kernel_rfl) kr ?_
            intro b2 w5 H5; clear H4
            refine s_append H5 (some 67) 24 9 1 16 (.tmp 64) (.tmp 66) 1 0 b b2 n 1 cap 1 cur #[.string (ByteArray.extract s (p + 2) ((p + 2) + ((by_ s p) + (256 * (by_ s (p + 1))))))] 9 (0, 0) (cellsS l) ([.string (ByteArray.extract s (p + 2) ((p + 2) + ((by_ s p) + (256 * (by_ s (p + 1))))))]) (fun b_1 cur_3 => [(b2, Obj.cells #[.string (ByteArray.extract s (p + 2) ((p + 2) + ((by_ s p) + (256 * (by_ s (p + 1))))))] 9 (0, 0)), (b_1, Obj.cells cur_3 9 (0, 0))]) kr kr kr kr kr hr kr kr (by rfl) (by rfl) (by intro u hu; simp at hu; first | exact hu.elim | (rcases hu with rfl | rfl | rfl | rfl <;> rfl) | (rcases hu with rfl | rfl <;> rfl) | (subst hu; rfl)) (by omega) (by unfold maxLen; omega) (fun _ _ => by kernel_rfl) ?_
            intro b_1 cap_2 cur_3 w6 H6 hr_4; clear H5
            have hr_4t : Rw 1 cur_3 cap_2 (n + 1) (cellsS (l ++ [(ByteArray.extract s (p + 2) ((p + 2) + ((by_ s p) + (256 * (by_ s (p + 1))))))])) := by rw [cellsS_append]; exact hr_4
            have hr_4n : n + 1 = List.length (l ++ [(ByteArray.extract s (p + 2) ((p + 2) + ((by_ s p) + (256 * (by_ s (p + 1))))))]) := by have h0 : n = List.length l := hn; rw [List.length_append, ← h0]; rfl
            refine s_val (some 4) (.slice (some ⟨b_1, 0, none⟩) (n + 1) cap_2) (fun w => by kernel_rfl) kr ?_
            refine s_nil ?_
            refine g_reg0 [0, 1, 2, 3, 4] kr ?_
            refine s_val (some 68) (.int .i64 ((p : Nat) : Int)) (fun w => by kernel_rfl) kr ?_
            refine s_val (some 69) (.int .i64 (((by_ s p) + (256 * (by_ s (p + 1))) : Nat) : Int)) (fun w => by kernel_rfl) kr ?_
            refine s_valE (some 70) (.int .i64 (IntKind.i64.wrap (((p : Nat) : Int) + (((by_ s p) + (256 * (by_ s (p + 1))) : Nat) : Int)))) (.int .i64 ((p + ((by_ s p) + (256 * (by_ s (p + 1)))) : Nat) : Int)) (fun w => by kernel_rfl) (int_eq (wrapAdd_i64 (a := p) (b := (by_ s p) + (256 * (by_ s (p + 1)))) (by omega))) kr ?_
            refine s_valE (some 71) (.int .i64 (IntKind.i64.wrap (((p + ((by_ s p) + (256 * (by_ s (p + 1)))) : Nat) : Int) + 6))) (.int .i64 (((p + ((by_ s p) + (256 * (by_ s (p + 1))))) + 6 : Nat) : Int)) (fun w => by kernel_rfl) (int_eq (wrapAdd_i64 (a := p + ((by_ s p) + (256 * (by_ s (p + 1))))) (b := 6) (by omega))) kr ?_
            refine s_val (some 5) (.int .i64 (((p + ((by_ s p) + (256 * (by_ s (p + 1))))) + 6 : Nat) : Int)) (fun w => by kernel_rfl) kr ?_
            refine s_nil ?_
            have HD6 : St w.heap.size w w6 [(b_1, Obj.cells cur_3 9 (0, 0))] := H6.sub (List.Sublist.cons _ (List.Sublist.cons_cons _ List.Sublist.slnil))
            show ∃ m, _ ∧ _
            exact ⟨_, (by omega), b_1, cap_2, n + 1, cur_3, (l ++ [(ByteArray.extract s (p + 2) ((p + 2) + ((by_ s p) + (256 * (by_ s (p + 1))))))]), ((p + ((by_ s p) + (256 * (by_ s (p + 1))))) + 6), rfl, hr_4n, hr_4t, hstep.1, HD6, (Is.of ⟨kr, kr, kr, trivial⟩)⟩
          · skip
            refine D2.g_sdraw [0, 1, 2, 3, 4, 5, 6, 7, 8, 9] [((some 52), fun _ => .string (ByteArray.extract s (p + 2) ((p + 2) + ((by_ s p) + (256 * (by_ s (p + 1))))))), ((some 53), fun _ => .string (strB (frB (tl (ByteArray.extract s (p + 2) ((p + 2) + ((by_ s p) + (256 * (by_ s (p + 1)))))))))), ((some 54), fun _ => .string s), ((some 55), fun _ => .int .i64 ((p : Nat) : Int)), ((some 56), fun _ => .int .i64 ((p : Nat) : Int)), ((some 57), fun _ => .int .i64 (((by_ s p) + (256 * (by_ s (p + 1))) : Nat) : Int)), ((some 58), fun _ => .int .i64 ((p + ((by_ s p) + (256 * (by_ s (p + 1)))) : Nat) : Int)), ((some 59), fun _ => .int .i64 (((p + ((by_ s p) + (256 * (by_ s (p + 1))))) + 6 : Nat) : Int)), ((some 60), fun _ => .string (ByteArray.extract s p ((p + ((by_ s p) + (256 * (by_ s (p + 1))))) + 6))), ((some 61), fun _ => .bool true)] (D2.Pre w.heap.size w (fun L g => [(true, (b, Obj.cells cur 9 (0, 0)))]) (fun L g => True)) kr kr kr kr ⟨D2.StE.of H3.drew _ kr, trivial⟩ ⟨?_, ?_, ?_, ?_, ?_, ?_, ?_, ?_, ?_, ?_, trivial⟩ ?_
            · exact D2.gv_val (fun _ _ _ h => h) (fun g w => by kernel_rfl)
            · exact D2.gv_call 28 #[.string (ByteArray.extract s (p + 2) ((p + 2) + ((by_ s p) + (256 * (by_ s (p + 1))))))] (fun _ _ _ h => h) (frameR_fn (ByteArray.extract s (p + 2) ((p + 2) + ((by_ s p) + (256 * (by_ s (p + 1)))))) (by first | omega | (rw [ext_size _ _ _ (by omega)]; omega))) (fun g w => by kernel_rfl)
            · exact D2.gv_val (fun _ _ _ h => h) (fun g w => by kernel_rfl)
            · exact D2.gv_val (fun _ _ _ h => h) (fun g w => by kernel_rfl)
            · exact D2.gv_val (fun _ _ _ h => h) (fun g w => by kernel_rfl)
            · exact D2.gv_val (fun _ _ _ h => h) (fun g w => by kernel_rfl)
            · exact D2.gv_valE (fun _ _ _ h => h) (V' := .int .i64 (IntKind.i64.wrap (((p : Nat) : Int) + (((by_ s p) + (256 * (by_ s (p + 1))) : Nat) : Int)))) (fun g w => by kernel_rfl) (int_eq (wrapAdd_i64 (a := p) (b := (by_ s p) + (256 * (by_ s (p + 1)))) (by omega)))
            · exact D2.gv_valE (fun _ _ _ h => h) (V' := .int .i64 (IntKind.i64.wrap (((p + ((by_ s p) + (256 * (by_ s (p + 1)))) : Nat) : Int) + 6))) (fun g w => by kernel_rfl) (int_eq (wrapAdd_i64 (a := p + ((by_ s p) + (256 * (by_ s (p + 1))))) (b := 6) (by omega)))
            · exact D2.gv_op (fun _ _ _ h => h) _ (fun g => by kernel_rfl) (fun g => (fun o w ho => scut2_run (t := 9) (kd := .i64) (kz := .i64) kr (x := (.tmp 54)) (y := (.tmp 59)) (z := (.tmp 55)) s p ((p + ((by_ s p) + (256 * (by_ s (p + 1))))) + 6) ho kr kr kr (by omega) (by omega) w))
            · exact D2.gv_valE (fun _ _ _ h => h) (V' := .bool (!(ByteArray.toList (strB (frB (tl (ByteArray.extract s (p + 2) ((p + 2) + ((by_ s p) + (256 * (by_ s (p + 1))))))))) == ByteArray.toList (ByteArray.extract s p ((p + ((by_ s p) + (256 * (by_ s (p + 1))))) + 6))))) (fun g w => by kernel_rfl) (bool_eq (by rw [str_other (strB (frB (tl (ByteArray.extract s (p + 2) ((p + 2) + ((by_ s p) + (256 * (by_ s (p + 1))))))))) (ByteArray.extract s p ((p + ((by_ s p) + (256 * (by_ s (p + 1))))) + 6)) hx5]; rfl))
            intro L0 G7 w7 hall HL; clear H3
            have H7 : St w.heap.size w w7 [(b, Obj.cells cur 9 (0, 0))] := D2.StE.st HL.1
            clear HL hall
            refine g_cond_t kr kr ?_
            refine g_sreg [0, 1, 2, 3] kr kr ?_
            refine s_val (some 62) (.slice (some ⟨b, 0, none⟩) n cap) (fun w => by kernel_rfl) kr ?_
            refine s_val (some 63) (.int .i64 ((p : Nat) : Int)) (fun w => by kernel_rfl) kr ?_
            refine s_val (some 2) (.slice (some ⟨b, 0, none⟩) n cap) (fun w => by kernel_rfl) kr ?_
            refine s_val (some 3) (.int .i64 ((p : Nat) : Int)) (fun w => by kernel_rfl) kr ?_
            refine s_nil ?_
            refine g_ret kr ?_
            show ∃ vs, Res _ _ _ _ vs ∧ _
            refine ⟨[.slice (some ⟨b, 0, none⟩) n cap, .int .i64 ((p : Nat) : Int)], (.tmp (.slice (some ⟨b, 0, none⟩) n cap) kr (.tmp (.int .i64 ((p : Nat) : Int)) kr .nil)), H7.below, ?_⟩
            exact ⟨l, p, (no_same hso hx5), Or.inr ⟨b, cap, n, cur, rfl, H7.ge 0 (o := .cells cur 9 (0, 0)) kr, H7.get 0 kr, hn, hr⟩⟩
end Go.Proofs.Ythpiojejhellhaa

namespace Go.Proofs.Ythpiojejhellhaa
open Go Go.RowKit
set_option linter.unusedVariables false
abbrev iN (n : Nat) : Value := .int .i64 ((n : Nat) : Int)
abbrev dvV (s : ByteArray) (a : Int) : Value := .agg #[.string s, .int .i64 a]
abbrev dvO (s : ByteArray) (a : Int) : Obj := .cells #[.string s, .int .i64 a] 23 (0, 0)
abbrev em : ByteArray := ⟨#[]⟩
/-- Which may be. -/
def rightM (s : ByteArray) (a : Int) : Bool := decide (s.size ≤ 200000) && (decide (0 ≤ a) && decide (a ≤ ((s.size : Nat) : Int)))
theorem rightM_iff {s : ByteArray} {a : Int} : rightM s a = true ↔ s.size ≤ 200000 ∧ 0 ≤ a ∧ a ≤ ((s.size : Nat) : Int) := by
  unfold rightM; simp
theorem right_fn (s : ByteArray) (a : Int) : Fn Try.prog 30 #[dvV s a] (.bool (rightM s a)) := by
  refine Fn.intro (c := codeOf Try.f30) [.tmp 2] 20 Try.func30 kr kr kr fun w => ?_
  have H0 := St.start w
  refine rS [.b, .v] H0 kr fun gs1 w1 H1 => ?_
  by_cases h1 : s.size ≤ 200000
  · by_cases h2 : 0 ≤ a
    · refine rS [.v, .l 0, .v, .e (v := .bool (decide (((s.size : Nat) : Int) ≤ 200000))) (v' := .bool true) (bool_eq (decide_eq_true (by omega))), .v, .v, .l 0, .e (v := .bool (decide (0 ≤ a))) (v' := .bool true) (bool_eq (decide_eq_true h2)), .v, .v, .v, .l 0, .v, .l 0, .v, .e (v := .bool (decide (a ≤ ((s.size : Nat) : Int)))) (v' := .bool (rightM s a)) (bool_eq (by unfold rightM; rw [decide_eq_true h1, decide_eq_true h2]; rfl)), .v, .v] H1 kr fun gs2 w2 H2 => ?_
      exact rRe [.tmp 2] [] (v := .bool (rightM s a)) (v' := .bool (rightM s a)) H2 rfl kr
    · refine rS [.v, .l 0, .v, .e (v := .bool (decide (((s.size : Nat) : Int) ≤ 200000))) (v' := .bool true) (bool_eq (decide_eq_true (by omega))), .v, .v, .l 0, .e (v := .bool (decide (0 ≤ a))) (v' := .bool false) (bool_eq (decide_eq_false h2)), .v, .v, .n, .n, .n, .n, .n, .n, .v, .v] H1 kr fun gs2 w2 H2 => ?_
      exact rRe [.tmp 2] [] (v := .bool false) (v' := .bool (rightM s a)) H2 (bool_eq (by unfold rightM; rw [decide_eq_false h2]; simp)) kr
  · refine rS [.v, .l 0, .v, .e (v := .bool (decide (((s.size : Nat) : Int) ≤ 200000))) (v' := .bool false) (bool_eq (decide_eq_false (by omega))), .v, .n, .n, .n, .v, .v, .n, .n, .n, .n, .n, .n, .v, .v] H1 kr fun gs2 w2 H2 => ?_
    exact rRe [.tmp 2] [] (v := .bool false) (v' := .bool (rightM s a)) H2 (bool_eq (by unfold rightM; rw [decide_eq_false h1]; simp)) kr
theorem rightR_fn (s : ByteArray) (a : Int) : Fn Try.prog 17 #[dvV s a] (.bool (rightM s a)) := by
  refine Fn.intro (c := codeOf Try.f17) [.tmp 2] 20 Try.func17 kr kr kr fun w => ?_
  have H0 := St.start w
  refine rS [.b, .v] H0 kr fun gs1 w1 H1 => ?_
  by_cases h1 : s.size ≤ 200000
  · by_cases h2 : 0 ≤ a
    · refine rS [.v, .l 0, .v, .e (v := .bool (decide (((s.size : Nat) : Int) ≤ 200000))) (v' := .bool true) (bool_eq (decide_eq_true (by omega))), .v, .v, .l 0, .e (v := .bool (decide (a ≥ 0))) (v' := .bool true) (bool_eq (decide_eq_true h2)), .v, .v, .v, .l 0, .v, .l 0, .v, .e (v := .bool (decide (a ≤ ((s.size : Nat) : Int)))) (v' := .bool (rightM s a)) (bool_eq (by unfold rightM; rw [decide_eq_true h1, decide_eq_true h2]; rfl)), .v, .v] H1 kr fun gs2 w2 H2 => ?_
      exact rRe [.tmp 2] [] (v := .bool (rightM s a)) (v' := .bool (rightM s a)) H2 rfl kr
    · refine rS [.v, .l 0, .v, .e (v := .bool (decide (((s.size : Nat) : Int) ≤ 200000))) (v' := .bool true) (bool_eq (decide_eq_true (by omega))), .v, .v, .l 0, .e (v := .bool (decide (a ≥ 0))) (v' := .bool false) (bool_eq (decide_eq_false h2)), .v, .v, .n, .n, .n, .n, .n, .n, .v, .v] H1 kr fun gs2 w2 H2 => ?_
      exact rRe [.tmp 2] [] (v := .bool false) (v' := .bool (rightM s a)) H2 (bool_eq (by unfold rightM; rw [decide_eq_false h2]; simp)) kr
  · refine rS [.v, .l 0, .v, .e (v := .bool (decide (((s.size : Nat) : Int) ≤ 200000))) (v' := .bool false) (bool_eq (decide_eq_false (by omega))), .v, .n, .n, .n, .v, .v, .n, .n, .n, .n, .n, .n, .v, .v] H1 kr fun gs2 w2 H2 => ?_
    exact rRe [.tmp 2] [] (v := .bool false) (v' := .bool (rightM s a)) H2 (bool_eq (by unfold rightM; rw [decide_eq_false h1]; simp)) kr
theorem first_fn (s : ByteArray) (a : Int) (n : Nat) (hs : s.size ≤ 1000000) (hn : n ≤ s.size) : Fn Try.prog 36 #[dvV s a, iN n] (.string (s.extract 0 n)) := by
  refine Fn.intro (c := codeOf Try.f36) [.tmp 4] 10 Try.func36 kr kr kr fun w => ?_
  have H0 := St.start w
  refine rS [.b, .v] H0 kr fun gs1 w1 H1 => ?_
  refine rS [.v, .l 0, .v, .o (ins := [((.tmp 6), .string s), ((.tmp 7), iN n)]) (v := .string (s.extract 0 n)) (fun ρ o w ho hi => scut_run (t := 9) (kd := .i64) kr (x := (.tmp 6)) (y := (.tmp 7)) s n ho hi.1 hi.2.1 hn w), .c (cloneS_fn (s.extract 0 n) (by rw [ByteArray.size_extract]; omega)), .v] H1 kr fun gs2 w2 H2 => ?_
  exact rRe [.tmp 4] [] (v := .string (s.extract 0 n)) (v' := .string (s.extract 0 n)) H2 rfl kr
end Go.Proofs.Ythpiojejhellhaa

namespace Go.Proofs.Ythpiojejhellhaa
open Go Go.RowKit
set_option linter.unusedVariables false
abbrev dvR (s : ByteArray) (a e : Int) : Value := .tuple #[dvV s a, .int .i64 e]
theorem heap_old {w w' : World} {b : Nat} {o : Obj} (h : w.heap[b]? = some o) (hb : Below w.heap.size w w') : w'.heap[b]? = some o := by rw [hb.block b (lt_of_heap h)]; exact h
theorem checked_append (s : ByteArray) (a : Int) (c0 c1 : Value) (pre : World → Prop) (r : ByteArray) (q e : Int) (hc : FnP Try.prog 42 #[c0, c1] pre (dvR r q e)) (hst : ∀ w w', pre w → Below w.heap.size w w' → pre w') (hr : rightM s a = true) :
    FnP Try.prog 34 #[dvV s a, .func (.func 42) #[] #[c0, c1]] pre (dvR r q e) := by
  refine FnP.intro (c := codeOf Try.f34) [.cell 4 23, .tmp 5] 14 Try.func34 kr kr kr fun w hP => ?_
  have H0 := St.start w
  refine rS [.b, .a, .v] H0 kr fun gs1 w1 H1 => ?_
  refine g_seq kr ?_
  refine rS [.l 0, .c (right_fn s a), .e (v := .bool (!(rightM s a))) (v' := .bool false) (bool_eq (by rw [hr]; rfl))] H1 kr fun gs2 w2 H2 => ?_
  refine g_cond_f kr kr ?_
  refine g_skip kr ?_
  show WP _ _ _ _ _ _
  refine rS [.v, .cp (pre := pre) hc [] (fun w' hb hd => hst w w' hP hb), .v, .v, .s 1, .v] H2 kr fun gs3 w3 H3 => ?_
  exact rRe [.cell 4 23, .tmp 5] [1] (v := dvR r q e) (v' := dvR r q e) H3 rfl kr
theorem checked_sync (s : ByteArray) (a : Int) (c0 : Value) (pre : World → Prop) (r : ByteArray) (q e : Int) (hc : FnP Try.prog 37 #[c0] pre (dvR r q e)) (hst : ∀ w w', pre w → Below w.heap.size w w' → pre w') (hr : rightM s a = true) :
    FnP Try.prog 34 #[dvV s a, .func (.func 37) #[] #[c0]] pre (dvR r q e) := by
  refine FnP.intro (c := codeOf Try.f34) [.cell 4 23, .tmp 5] 14 Try.func34 kr kr kr fun w hP => ?_
  have H0 := St.start w
  refine rS [.b, .a, .v] H0 kr fun gs1 w1 H1 => ?_
  refine g_seq kr ?_
  refine rS [.l 0, .c (right_fn s a), .e (v := .bool (!(rightM s a))) (v' := .bool false) (bool_eq (by rw [hr]; rfl))] H1 kr fun gs2 w2 H2 => ?_
  refine g_cond_f kr kr ?_
  refine g_skip kr ?_
  show WP _ _ _ _ _ _
  refine rS [.v, .cp (pre := pre) hc [] (fun w' hb hd => hst w w' hP hb), .v, .v, .s 1, .v] H2 kr fun gs3 w3 H3 => ?_
  exact rRe [.cell 4 23, .tmp 5] [1] (v := dvR r q e) (v' := dvR r q e) H3 rfl kr
theorem checked_cut (s : ByteArray) (a : Int) (c0 c1 : Value) (pre : World → Prop) (r : ByteArray) (q e : Int) (hc : FnP Try.prog 47 #[c0, c1] pre (dvR r q e)) (hst : ∀ w w', pre w → Below w.heap.size w w' → pre w') (hr : rightM s a = true) :
    FnP Try.prog 34 #[dvV s a, .func (.func 47) #[] #[c0, c1]] pre (dvR r q e) := by
  refine FnP.intro (c := codeOf Try.f34) [.cell 4 23, .tmp 5] 14 Try.func34 kr kr kr fun w hP => ?_
  have H0 := St.start w
  refine rS [.b, .a, .v] H0 kr fun gs1 w1 H1 => ?_
  refine g_seq kr ?_
  refine rS [.l 0, .c (right_fn s a), .e (v := .bool (!(rightM s a))) (v' := .bool false) (bool_eq (by rw [hr]; rfl))] H1 kr fun gs2 w2 H2 => ?_
  refine g_cond_f kr kr ?_
  refine g_skip kr ?_
  show WP _ _ _ _ _ _
  refine rS [.v, .cp (pre := pre) hc [] (fun w' hb hd => hst w w' hP hb), .v, .v, .s 1, .v] H2 kr fun gs3 w3 H3 => ?_
  exact rRe [.cell 4 23, .tmp 5] [1] (v := dvR r q e) (v' := dvR r q e) H3 rfl kr
end Go.Proofs.Ythpiojejhellhaa

namespace Go.Proofs.Ythpiojejhellhaa
open Go Go.RowKit
set_option linter.unusedVariables false
abbrev pB (b : Nat) : Value := .pointer (some ⟨b, 0, none⟩)
abbrev stO (t : ByteArray) : Obj := .cells #[.string t] 9 (0, 0)
abbrev inO (n : Int) : Obj := .cells #[.int .i64 n] 3 (0, 0)
abbrev two (b1 : Nat) (o1 : Obj) (b2 : Nat) (o2 : Obj) : World → Prop := fun w => w.heap[b1]? = some o1 ∧ w.heap[b2]? = some o2
theorem two_st {b1 : Nat} {o1 : Obj} {b2 : Nat} {o2 : Obj} : ∀ w w', two b1 o1 b2 o2 w → Below w.heap.size w w' → two b1 o1 b2 o2 w' := fun w w' h hb => ⟨heap_old h.1 hb, heap_old h.2 hb⟩
/-! ### Append -/
theorem append1_ok (bs bd : Nat) (s t : ByteArray) (a : Int) (hs : s.size + t.size ≤ 200000) :
    FnP Try.prog 42 #[pB bs, pB bd] (two bs (stO t) bd (dvO s a)) (dvR (s ++ t) a 0) := by
  refine FnP.intro (c := codeOf Try.f42) [.cell 2 23, .tmp 3] 19 Try.func42 kr kr kr fun w hP => ?_
  have H0 := St.start w
  obtain ⟨h1, h2⟩ := hP
  refine rS [.a, .v] H0 kr fun gs1 w1 H1 => ?_
  refine g_seq kr ?_
  refine rS [.f h1 (lt_of_heap h1), .v, .v, .f h2 (lt_of_heap h2), .v, .e (v := .int .i64 (IntKind.i64.wrap (200000 - ((s.size : Nat) : Int)))) (v' := .int .i64 (200000 - ((s.size : Nat) : Int))) (int_eq (wrap_i64 (by omega) (by omega))), .e (v := .bool (decide (((t.size : Nat) : Int) > 200000 - ((s.size : Nat) : Int)))) (v' := .bool false) (bool_eq (decide_eq_false (by omega)))] H1 kr fun gs2 w2 H2 => ?_
  refine g_cond_f kr kr ?_
  refine g_skip kr ?_
  show WP _ _ _ _ _ _
  refine rS [.v, .f h2 (lt_of_heap h2), .f h1 (lt_of_heap h1), .o (ins := [((.tmp 13), .string s), ((.tmp 14), .string t)]) (v := .string (s ++ t)) (fun ρ o w ho hi => sadd_run (t := 9) (t' := 9) (x := (.tmp 13)) (y := (.tmp 14)) s t w ho hi.1 hi.2.1 (by omega)), .v, .f h2 (lt_of_heap h2), .v, .s 0, .v] H2 kr fun gs3 w3 H3 => ?_
  exact rRe [.cell 2 23, .tmp 3] [0] (v := dvR (s ++ t) a 0) (v' := dvR (s ++ t) a 0) H3 rfl kr
theorem append1_no (bs bd : Nat) (s t : ByteArray) (a : Int) (hs1 : s.size ≤ 200000) (hs : ¬ s.size + t.size ≤ 200000) :
    FnP Try.prog 42 #[pB bs, pB bd] (two bs (stO t) bd (dvO s a)) (dvR em 0 2) := by
  refine FnP.intro (c := codeOf Try.f42) [.cell 2 23, .tmp 3] 19 Try.func42 kr kr kr fun w hP => ?_
  have H0 := St.start w
  obtain ⟨h1, h2⟩ := hP
  refine rS [.a, .v] H0 kr fun gs1 w1 H1 => ?_
  refine g_seq kr ?_
  refine rS [.f h1 (lt_of_heap h1), .v, .v, .f h2 (lt_of_heap h2), .v, .e (v := .int .i64 (IntKind.i64.wrap (200000 - ((s.size : Nat) : Int)))) (v' := .int .i64 (200000 - ((s.size : Nat) : Int))) (int_eq (wrap_i64 (by omega) (by omega))), .e (v := .bool (decide (((t.size : Nat) : Int) > 200000 - ((s.size : Nat) : Int)))) (v' := .bool true) (bool_eq (decide_eq_true (by omega)))] H1 kr fun gs2 w2 H2 => ?_
  refine g_cond_t kr kr ?_
  refine rS [.v, .s 0, .v] H2 kr fun gs3 w3 H3 => ?_
  exact rRe [.cell 2 23, .tmp 3] [0] (v := dvR em 0 2) (v' := dvR em 0 2) H3 rfl kr
theorem append_of (s t r : ByteArray) (a q e : Int) (hr : rightM s a = true) (hc : ∀ bs bd, FnP Try.prog 42 #[pB bs, pB bd] (two bs (stO t) bd (dvO s a)) (dvR r q e)) : Fn Try.prog 26 #[dvV s a, .string t] (dvR r q e) := by
  refine Fn.intro (c := codeOf Try.f26) [.cell 4 23, .tmp 5] 11 Try.func26 kr kr kr fun w => ?_
  have H0 := St.start w
  refine rS [.b, .b, .a, .v] H0 kr fun gs1 w1 H1 => ?_
  refine rS [.l 0, .v, .cp (pre := two (gs1 1).b (stO t) (gs1 0).b (dvO s a)) (checked_append s a (pB (gs1 1).b) (pB (gs1 0).b) (two (gs1 1).b (stO t) (gs1 0).b (dvO s a)) r q e (hc (gs1 1).b (gs1 0).b) two_st hr) [(1, ((gs1 1).b, stO t)), (0, ((gs1 0).b, dvO s a))] (fun w' hb hd => ⟨hd.1, hd.2.1⟩), .v, .v, .s 2, .v] H1 kr fun gs2 w2 H2 => ?_
  exact rRe [.cell 4 23, .tmp 5] [2] (v := dvR r q e) (v' := dvR r q e) H2 rfl kr
theorem append_ok (s t : ByteArray) (a : Int) (hr : rightM s a = true) (hs : s.size + t.size ≤ 200000) : Fn Try.prog 26 #[dvV s a, .string t] (dvR (s ++ t) a 0) :=
  append_of s t _ a _ _ hr fun bs bd => append1_ok bs bd s t a hs
theorem append_long (s t : ByteArray) (a : Int) (hr : rightM s a = true) (hs : ¬ s.size + t.size ≤ 200000) : Fn Try.prog 26 #[dvV s a, .string t] (dvR em 0 2) :=
  append_of s t _ a _ _ hr fun bs bd => append1_no bs bd s t a (rightM_iff.1 hr).1 hs
/-! ### Sync -/
theorem sync1_ok (bd : Nat) (s : ByteArray) (a : Int) : FnP Try.prog 37 #[pB bd] (fun w => w.heap[bd]? = some (dvO s a)) (dvR s ((s.size : Nat) : Int) 0) := by
  refine FnP.intro (c := codeOf Try.f37) [.cell 1 23, .tmp 2] 9 Try.func37 kr kr kr fun w h2 => ?_
  have H0 := St.start w
  refine rS [.a, .v] H0 kr fun gs1 w1 H1 => ?_
  refine rS [.v, .f h2 (lt_of_heap h2), .v, .f h2 (lt_of_heap h2), .v, .v, .s 0, .v] H1 kr fun gs2 w2 H2 => ?_
  exact rRe [.cell 1 23, .tmp 2] [0] (v := dvR s ((s.size : Nat) : Int) 0) (v' := dvR s ((s.size : Nat) : Int) 0) H2 rfl kr
theorem sync_ok (s : ByteArray) (a : Int) (hr : rightM s a = true) : Fn Try.prog 23 #[dvV s a] (dvR s ((s.size : Nat) : Int) 0) := by
  refine Fn.intro (c := codeOf Try.f23) [.cell 2 23, .tmp 3] 9 Try.func23 kr kr kr fun w => ?_
  have H0 := St.start w
  refine rS [.b, .a, .v] H0 kr fun gs1 w1 H1 => ?_
  refine rS [.l 0, .v, .cp (pre := fun w => w.heap[(gs1 0).b]? = some (dvO s a)) (checked_sync s a (pB (gs1 0).b) (fun w => w.heap[(gs1 0).b]? = some (dvO s a)) s ((s.size : Nat) : Int) 0 (sync1_ok (gs1 0).b s a) (fun w w' h hb => heap_old h hb) hr) [(0, ((gs1 0).b, dvO s a))] (fun w' hb hd => hd.1), .v, .v, .s 1, .v] H1 kr fun gs2 w2 H2 => ?_
  exact rRe [.cell 2 23, .tmp 3] [1] (v := dvR s ((s.size : Nat) : Int) 0) (v' := dvR s ((s.size : Nat) : Int) 0) H2 rfl kr
/-! ### Crash -/
/-- How much a crash leaves. -/
def leftM (s : ByteArray) (k : Nat) (m : Int) : Nat := k + min m.toNat (s.size - k)
/-! ### Cut -/
theorem cut1_ok (bn bd : Nat) (s : ByteArray) (k n : Nat) (hs : s.size ≤ 200000) (hn : n ≤ s.size) :
    FnP Try.prog 47 #[pB bn, pB bd] (two bn (inO ((n : Nat) : Int)) bd (dvO s ((k : Nat) : Int))) (dvR (s.extract 0 n) ((min k n : Nat) : Int) 0) := by
  refine FnP.intro (c := codeOf Try.f47) [.cell 2 23, .tmp 3] 22 Try.func47 kr kr kr fun w hP => ?_
  have H0 := St.start w
  obtain ⟨h1, h2⟩ := hP
  refine rS [.a, .v] H0 kr fun gs1 w1 H1 => ?_
  refine g_seq kr ?_
  refine rS [.f h1 (lt_of_heap h1), .e (v := .bool (decide (((n : Nat) : Int) < 0))) (v' := .bool false) (bool_eq (decide_eq_false (by omega))), .v, .f h1 (lt_of_heap h1), .v, .f h2 (lt_of_heap h2), .v, .e (v := .bool (decide (((n : Nat) : Int) > ((s.size : Nat) : Int)))) (v' := .bool false) (bool_eq (decide_eq_false (by omega))), .v] H1 kr fun gs2 w2 H2 => ?_
  refine g_cond_f kr kr ?_
  refine g_skip kr ?_
  show WP _ _ _ _ _ _
  refine dS [.f h2 (lt_of_heap h2), .f h1 (lt_of_heap h1), .c (first_fn s ((k : Nat) : Int) n (by omega) hn), .v, .f h2 (lt_of_heap h2), .f h1 (lt_of_heap h1), .e (v := .int .i64 (if ((n : Nat) : Int) < ((k : Nat) : Int) then ((n : Nat) : Int) else ((k : Nat) : Int))) (v' := iN (min k n)) (int_eq (minN _ _)), .v, .s 0, .v] H2 kr fun w3 H3 => ?_
  exact rRe [.cell 2 23, .tmp 3] [0] (v := dvR (s.extract 0 n) ((min k n : Nat) : Int) 0) (v' := dvR (s.extract 0 n) ((min k n : Nat) : Int) 0) H3 rfl kr
theorem cut_of (s r : ByteArray) (a n q e : Int) (hr : rightM s a = true) (hc : ∀ bn bd, FnP Try.prog 47 #[pB bn, pB bd] (two bn (inO n) bd (dvO s a)) (dvR r q e)) : Fn Try.prog 32 #[dvV s a, .int .i64 n] (dvR r q e) := by
  refine Fn.intro (c := codeOf Try.f32) [.cell 4 23, .tmp 5] 11 Try.func32 kr kr kr fun w => ?_
  have H0 := St.start w
  refine rS [.b, .b, .a, .v] H0 kr fun gs1 w1 H1 => ?_
  refine rS [.l 0, .v, .cp (pre := two (gs1 1).b (inO n) (gs1 0).b (dvO s a)) (checked_cut s a (pB (gs1 1).b) (pB (gs1 0).b) (two (gs1 1).b (inO n) (gs1 0).b (dvO s a)) r q e (hc (gs1 1).b (gs1 0).b) two_st hr) [(1, ((gs1 1).b, inO n)), (0, ((gs1 0).b, dvO s a))] (fun w' hb hd => ⟨hd.1, hd.2.1⟩), .v, .v, .s 2, .v] H1 kr fun gs2 w2 H2 => ?_
  exact rRe [.cell 4 23, .tmp 5] [2] (v := dvR r q e) (v' := dvR r q e) H2 rfl kr
theorem cut_ok (s : ByteArray) (k n : Nat) (hs : s.size ≤ 200000) (hk : k ≤ s.size) (hn : n ≤ s.size) : Fn Try.prog 32 #[dvV s ((k : Nat) : Int), iN n] (dvR (s.extract 0 n) ((min k n : Nat) : Int) 0) :=
  cut_of s _ _ _ _ _ (rightM_iff.2 ⟨hs, by omega, by omega⟩) fun bn bd => cut1_ok bn bd s k n hs hn
end Go.Proofs.Ythpiojejhellhaa

namespace Go.Proofs.Ythpiojejhellhaa
open Go Go.RowKit
set_option linter.unusedVariables false
theorem eqF_cons {P : Program} {w : World} {d : Nat} {xs ys : Array Value} {f : Field} {fs : List Field} {a b : Value} {r : Bool} (hn : f.name ≠ "_") (ha : (part f.type xs f.offset).run P w = .ok a w) (hb : (part f.type ys f.offset).run P w = .ok b w) (hr : (Op.equalIn d f.type a b).run P w = .ok r w) {q : Bool} (hq : (Op.eqFields d xs ys fs).run P w = .ok q w) :
    (Op.eqFields d xs ys (f :: fs)).run P w = .ok (r && q) w := by
  unfold Op.eqFields
  rw [if_pos hn]
  simp only [Sem.run_bind, ha, hb, hr, Result.andThen_ok]
  cases r
  · simp
  · simpa using hq
theorem dv_eq (s : ByteArray) (a : Int) (w : World) : (Op.equalIn 10000 23 (dvV s a) (dvV s a)).run Try.prog w = .ok true w := by
  rw [run_equalIn_agg w 9999 23 _ _ kr kr]
  rw [show (Try.prog.fieldsOf 23).toList = [{ name := "Bytes", type := 9, offset := 0, embedded := false, tag := "", pkgPath := "", byteOffset := 0 }, { name := "Sure", type := 3, offset := 1, embedded := false, tag := "", pkgPath := "", byteOffset := 16 }] by kernel_rfl]
  have e4 : (Op.eqFields 9999 #[.string s, .int .i64 a] #[.string s, .int .i64 a] []).run Try.prog w = .ok true w := by simp [Op.eqFields]
  have h2 := eqF_cons (P := Try.prog) (w := w) (d := 9999) (xs := #[.string s, .int .i64 a]) (ys := #[.string s, .int .i64 a]) (f := { name := "Sure", type := 3, offset := 1, embedded := false, tag := "", pkgPath := "", byteOffset := 16 }) (a := .int .i64 a) (b := .int .i64 a) (by decide) (run_part_plain w kr rfl) (run_part_plain w kr rfl) (run_equalIn_int w 9998 3 .i64 .i64 _ _ Try.underlying3) e4
  have h3 := eqF_cons (P := Try.prog) (w := w) (d := 9999) (xs := #[.string s, .int .i64 a]) (ys := #[.string s, .int .i64 a]) (f := { name := "Bytes", type := 9, offset := 0, embedded := false, tag := "", pkgPath := "", byteOffset := 0 }) (a := .string s) (b := .string s) (by decide) (run_part_plain w kr rfl) (run_part_plain w kr rfl) (run_equalIn_string w 9998 _ _ _ Try.underlying9) h2
  rw [h3, str_self, beq_self_eq_true]; rfl
theorem dv_eql {ρ : Env} (s : ByteArray) (a : Int) {x y : Operand} {o : Oper} (w : World) (ho : o.op = .binOp .eql 23 x y 23) (hx : ev ρ x = dvV s a) (hy : ev ρ y = dvV s a) :
    (execOp (ev ρ) o).run Try.prog w = .ok (.value (.bool true)) w := by
  have q := dv_eq s a w
  have hg := fun X Y => run_eqGuard_agg (P := Try.prog) w .eql 23 x y X Y kr
  have hn := fun X Y => run_eql_struct (P := Try.prog) w 23 X Y
  unfold dvV at hx hy q
  generalize (#[.string s, .int .i64 a] : Array Value) = X at q hx hy
  unfold execOp
  simp only [ho, hx, hy, Sem.run_bind, hg, hn, q, Result.andThen_ok, Sem.run_pure]
end Go.Proofs.Ythpiojejhellhaa

namespace Go.Proofs.Ythpiojejhellhaa
open Go Go.RowKit Go.Proofs.Crc
set_option linter.unusedVariables false
/-- Texts, one behind the other. -/
def sS : Fl ByteArray where
  K := 1
  cs x := [.string x]
  pos := by decide
  len _ := rfl
  one _ := fun u hu => by obtain rfl := List.mem_singleton.1 hu; rfl
theorem cells_sS : ∀ L : List ByteArray, cellsF sS L = cellsS L
  | [] => rfl
  | x :: r => by
    show Value.string x :: cellsF sS r = _
    rw [cells_sS r]; rfl
abbrev lgV (s : ByteArray) (a : Int) (p : Option Addr) (n c : Nat) : Value := .agg #[.string s, .int .i64 a, .slice p n c]
abbrev lgO (s : ByteArray) (a : Int) (p : Option Addr) (n c : Nat) : Obj := .cells #[.string s, .int .i64 a, .slice p n c] 26 (0, 0)
def recB (r : ByteArray) : Bool := decide (1 ≤ r.size) && decide (r.size ≤ 4000)
theorem recB_iff {r : ByteArray} : recB r = true ↔ 1 ≤ r.size ∧ r.size ≤ 4000 := by unfold recB; simp
theorem recB_R {r : ByteArray} : recB r = true ↔ IsR (tl r) := by rw [recB_iff]; unfold IsR; rw [tl_len]
theorem all_R {A : List ByteArray} : A.all recB = true ↔ ∀ x ∈ A, IsR (tl x) := by
  rw [List.all_eq_true]
  exact ⟨fun h x hx => recB_R.1 (h x hx), fun h x hx => recB_R.2 (h x hx)⟩
/-- Which may be. -/
def rightL (s : ByteArray) (a : Int) (A : List ByteArray) : Bool := A.all recB && (rightM s a && decide (strB (flat A) = s))
theorem rightL_iff {s : ByteArray} {a : Int} {A : List ByteArray} : rightL s a A = true ↔ (∀ x ∈ A, IsR (tl x)) ∧ rightM s a = true ∧ strB (flat A) = s := by
  unfold rightL
  rw [Bool.and_eq_true, Bool.and_eq_true, all_R, decide_eq_true_iff]
theorem fst_nil0 : fst [] = [] := fst_short (by decide)
theorem sc_flat0 {A : List ByteArray} (h : ∀ x ∈ A, IsR (tl x)) : Sc (flat A) A (flat A).length := by
  have := Sc.mk' A [] h fst_nil0
  rwa [List.append_nil] at this
theorem right_scan {s : ByteArray} {a : Int} {A rs : List ByteArray} {p : Nat} (hr : rightM s a = true) (h : Sc (tl s) rs p) : rightL s a A = (decide (p = s.size) && decide (rs = A)) := by
  apply Bool.eq_iff_iff.2
  rw [rightL_iff, Bool.and_eq_true, decide_eq_true_iff, decide_eq_true_iff]
  constructor
  · rintro ⟨h1, _, h2⟩
    have e : tl s = flat A := by rw [← h2, tl_strB]
    rw [e] at h
    obtain ⟨rfl, rfl⟩ := h.uniq (sc_flat0 h1)
    exact ⟨by rw [← tl_len, e], rfl⟩
  · rintro ⟨h1, rfl⟩
    refine ⟨h.1, hr, ?_⟩
    apply tl_inj
    rw [tl_strB]
    have h3 := h.2.2.1
    rw [h1, ← tl_len, List.drop_length, List.append_nil] at h3
    exact h3.symm
/-- What a call answers. -/
structure LR where
  s : ByteArray
  a : Int
  A : List ByteArray
  e : Int
def errL (e : Int) : LR := ⟨em, 0, [], e⟩
def beginM (s : ByteArray) (a : Int) (A : List ByteArray) (r : ByteArray) : LR :=
  if recB r = true ∧ rightL s a A = true then (if s.size + (r.size + 6) ≤ 200000 then ⟨s ++ strB (frB (tl r)), a, A ++ [r], 0⟩ else errL 2) else errL 1
def appendM (s : ByteArray) (a : Int) (A : List ByteArray) (r : ByteArray) : LR :=
  if (beginM s a A r).e = 0 then ⟨(beginM s a A r).s, ((beginM s a A r).s.size : Nat), (beginM s a A r).A, 0⟩ else beginM s a A r
def okLog (m : LR) (v : Value) (T : List (Nat × Obj)) : Prop := ∃ (p : Option Addr) (n c : Nat), RowF sS 9 p n c T m.A ∧ v = .tuple #[lgV m.s m.a p n c, .int .i64 m.e]
def okLg (s : ByteArray) (a : Int) (A : List ByteArray) (v : Value) (T : List (Nat × Obj)) : Prop := ∃ (p : Option Addr) (n c : Nat), RowF sS 9 p n c T A ∧ v = lgV s a p n c
theorem okLog_err (e : Int) : okLog (errL e) (.tuple #[lgV em 0 none 0 0, .int .i64 e]) [] := ⟨none, 0, 0, .inl ⟨rfl, rfl, rfl, rfl, rfl⟩, rfl⟩
theorem begin_e {s : ByteArray} {a : Int} {A : List ByteArray} {r : ByteArray} : ((beginM s a A r).e = 0 ∧ beginM s a A r = ⟨s ++ strB (frB (tl r)), a, A ++ [r], 0⟩ ∧ recB r = true ∧ rightL s a A = true ∧ s.size + (r.size + 6) ≤ 200000) ∨ (beginM s a A r = errL 2 ∧ recB r = true ∧ rightL s a A = true ∧ ¬ s.size + (r.size + 6) ≤ 200000) ∨ (beginM s a A r = errL 1 ∧ ¬ (recB r = true ∧ rightL s a A = true)) := by
  unfold beginM
  by_cases h : recB r = true ∧ rightL s a A = true
  · rw [if_pos h]
    by_cases h2 : s.size + (r.size + 6) ≤ 200000
    · rw [if_pos h2]; exact .inl ⟨rfl, rfl, h.1, h.2, h2⟩
    · rw [if_neg h2]; exact .inr (.inl ⟨rfl, h.1, h.2, h2⟩)
  · rw [if_neg h]; exact .inr (.inr ⟨rfl, h⟩)
theorem flat_snoc1 (A : List ByteArray) (r : ByteArray) : strB (flat (A ++ [r])) = strB (flat A) ++ strB (frB (tl r)) := by
  apply tl_inj
  rw [tl_add, tl_strB, tl_strB, tl_strB, flat_snoc]
theorem right_next {s : ByteArray} {a : Int} {A : List ByteArray} {r : ByteArray} (hr : recB r = true) (h : rightL s a A = true) (hz : s.size + (r.size + 6) ≤ 200000) : rightL (s ++ strB (frB (tl r))) a (A ++ [r]) = true := by
  obtain ⟨h1, h2, h3⟩ := rightL_iff.1 h
  obtain ⟨q1, q2, q3⟩ := rightM_iff.1 h2
  have hs : (s ++ strB (frB (tl r))).size = s.size + (r.size + 6) := by rw [add_size, strB_size, frB_len, tl_len]
  refine rightL_iff.2 ⟨fun x hx => ?_, rightM_iff.2 ⟨by omega, q2, by omega⟩, by rw [flat_snoc1, h3]⟩
  rcases List.mem_append.1 hx with h9 | h9
  · exact h1 x h9
  · rw [List.mem_singleton.1 h9]; exact recB_R.1 hr
/-- What a scan leaves. -/
def okScan (s : ByteArray) (v : Value) (T : List (Nat × Obj)) : Prop := ∃ (rs : List ByteArray) (z : Nat) (p : Option Addr) (n c : Nat), Sc (tl s) rs z ∧ RowF sS 9 p n c T rs ∧ v = .tuple #[.slice p n c, .int .i64 ((z : Nat) : Int)]
theorem scan_of {P : Program} {f : Nat} {args : Array Value} {s : ByteArray} (h : FnR P f args (fun _ => True) (RetT 9 (fun rs p => Sc (tl s) rs p))) : FnT P f args (fun _ => True) (okScan s) := fun w hw => by
  refine (h w hw).mono ?_
  rintro e w' ⟨v, rfl, hb, rs, p, hS, ⟨rfl, rfl⟩ | ⟨b, cap, n, cur, rfl, hle, hh, hn, hr⟩⟩
  · exact ⟨_, [], rfl, ⟨[], p, none, 0, 0, hS, .inl ⟨rfl, rfl, rfl, rfl, rfl⟩, rfl⟩, (St.start w).call hb⟩
  · exact ⟨_, [(b, .cells cur 9 (0, 0))], rfl, ⟨rs, p, some ⟨b, 0, none⟩, n, cap, hS, .inr ⟨b, cur, rfl, rfl, by rw [cells_sS]; exact hr⟩, rfl⟩, (St.start w).add hb hle hh⟩
theorem scanT_fn (s : ByteArray) (hs : s.size ≤ 1000000) : FnT Try.prog 31 #[.string s] (fun _ => True) (okScan s) := scan_of (scan_fn s hs)
theorem scanTR_fn (s : ByteArray) (hs : s.size ≤ 1000000) : FnT Try.prog 33 #[.string s] (fun _ => True) (okScan s) := scan_of (scanR_fn s hs)
theorem sc_len {s : ByteArray} {rs : List ByteArray} {z : Nat} (h : Sc (tl s) rs z) : rs.length ≤ s.size ∧ z ≤ s.size := by
  have h1 := flat_ge rs
  have h2 := congrArg List.length h.2.2.1
  rw [List.length_append, tl_len] at h2
  have h3 := h.2.1
  omega
theorem isRec_fn (s : ByteArray) : Fn Try.prog 19 #[.string s] (.bool (recB s)) := by
  by_cases h : 1 ≤ s.size ∧ s.size ≤ 4000
  · rw [recB_iff.2 h]; exact isRec_yes s h
  · rw [show recB s = false from Bool.eq_false_iff.2 fun q => h (recB_iff.1 q)]; exact isRec_no s h
end Go.Proofs.Ythpiojejhellhaa

namespace Go.Proofs.Ythpiojejhellhaa
open Go Go.ChangeShapes Go.WideShapes Go.ChangeAt Go.RowKit
set_option linter.unusedVariables false
theorem cellsDv : Try.prog.cellsOf 23 = 2 := kr
theorem cellsStD : Try.prog.cellsOf 9 = 1 := kr
theorem cellsInD : Try.prog.cellsOf 3 = 1 := kr
theorem openDev {H : Type} {enc : TypeId × Value → H} {W : World} {base b0 : Nat} {v : Value} {sp : Nat → Bool} {held : Bool} {d : DataW H} {p : List MemPlace}
    (hv : Value.okWide Try.prog W .any base 23 v) (h : DataW.Trod enc Try.prog W b0 sp held 23 v d p) : ∃ (s : ByteArray) (a : Int), v = dvV s a ∧ s.size ≤ maxLen ∧ (Lit.int .i64 a).wf = true := by
  obtain ⟨cs, rfl, hsz, _⟩ : ∃ cs, v = .agg cs ∧ cs.size = Try.prog.cellsOf 23 ∧ Row.okWide Try.prog W .any base 23 cs := by
    simpa [Value.okWide, Try.underlying23] using hv
  rw [cellsDv] at hsz
  obtain ⟨l⟩ := cs
  obtain ⟨c0, c1, rfl⟩ : ∃ c0 c1, l = [c0, c1] := by
    match l, hsz with
    | [c0, c1], _ => exact ⟨c0, c1, rfl⟩
  obtain ⟨fuel, hf⟩ := h
  obtain ⟨xs, m, rfl, hxx, hl, hlen, hff⟩ := DataW.trod_struct Try.underlying23 hf
  obtain ⟨y0, y1, rfl⟩ : ∃ y0 y1, xs = [y0, y1] := by
    match xs, hlen with
    | [y0, y1], _ => exact ⟨y0, y1, rfl⟩
  have g0 := hff 0 _ rfl
  have g1 := hff 1 _ rfl
  change DataW.trod enc Try.prog W b0 sp held m 9 (([c0, c1].drop 0).take (Try.prog.cellsOf 9)) = some y0 at g0
  change DataW.trod enc Try.prog W b0 sp held m 3 (([c0, c1].drop 1).take (Try.prog.cellsOf 3)) = some y1 at g1
  rw [cellsStD] at g0
  rw [cellsInD] at g1
  obtain ⟨s, e0, rfl, hs⟩ := DataW.trod_string Try.underlying9 (show DataW.trod enc Try.prog W b0 sp held m 9 [c0] = some y0 from g0)
  obtain ⟨a, e1, e1', hw⟩ := DataW.trod_int Try.underlying3 (show DataW.trod enc Try.prog W b0 sp held m 3 [c1] = some y1 from g1)
  obtain rfl : c0 = .string s := by simpa using e0
  obtain rfl : c1 = .int .i64 a := by simpa using e1
  exact ⟨s, a, rfl, hs, hw⟩
end Go.Proofs.Ythpiojejhellhaa

namespace Go.Proofs.Ythpiojejhellhaa
open Go Go.ChangeShapes Go.WideShapes Go.ChangeAt Go.RowKit
set_option linter.unusedVariables false
set_option maxRecDepth 100000
theorem cellsLg : Try.prog.cellsOf 26 = 3 := kr
theorem cellsSl : Try.prog.cellsOf 24 = 1 := kr
theorem extract_ofL {C : Array Value} {o m : Nat} {l : List Value} (hl : l.length = m) (hm : 0 < m) (h : ∀ j, j < m → C[o + j]? = l[j]?) : o + m ≤ C.size ∧ C.extract o (o + m) = l.toArray := by
  have hs : o + m ≤ C.size := by
    have h1 := h (m - 1) (by omega)
    rw [List.getElem?_eq_getElem (by omega)] at h1
    have := (Array.getElem?_eq_some_iff.1 h1).1
    omega
  refine ⟨hs, ?_⟩
  apply Array.toList_inj.1
  apply List.ext_getElem?
  intro i
  rw [Array.getElem?_toList, Array.getElem?_extract, List.toList_toArray]
  by_cases hi : i < m
  · rw [if_pos (by omega), h i hi]
  · rw [if_neg (by omega), List.getElem?_eq_none (by omega)]
section
variable {H : Type} {enc : TypeId × Value → H} {W : World} {sp : Nat → Bool} {held : Bool}
theorem spot_noneL {a : Addr} {v : Value} (h : W.cell? a = some v) : a = ⟨a.block, a.off, none⟩ ∧ ∃ C T fz, W.heap[a.block]? = some (.cells C T fz) ∧ C[a.off]? = some v := by
  obtain ⟨b, o, sp⟩ := a
  unfold World.cell? at h
  split at h
  · rename_i C T fz hh
    cases sp with
    | none => simp at h; exact ⟨rfl, C, T, fz, hh, h⟩
    | some x => simp at h
  · cases h
theorem cell_atL {b o : Nat} {C : Array Value} {T : TypeId} {fz : Nat × Nat} {v : Option Value} (hh : W.heap[b]? = some (.cells C T fz)) (h : W.cell? ⟨b, o, none⟩ = v) : C[o]? = v := by
  unfold World.cell? at h; simp only [hh] at h; simpa using h
theorem trod_dev (fuel : Nat) (cs : List Value) (x : DataW H × List MemPlace) (h : DataW.trod enc Try.prog W 0 sp held fuel 23 cs = some x) : ∃ (s : ByteArray) (a : Int), cs = [.string s, .int .i64 a] := by
  obtain ⟨xs, m, rfl, hxx, hl, hlen, hff⟩ := DataW.trod_struct Try.underlying23 h
  rw [cellsDv] at hl
  obtain ⟨c0, c1, rfl⟩ : ∃ c0 c1, cs = [c0, c1] := by
    match cs, hl with
    | [c0, c1], _ => exact ⟨c0, c1, rfl⟩
  obtain ⟨y0, y1, rfl⟩ : ∃ y0 y1, xs = [y0, y1] := by
    match xs, hlen with
    | [y0, y1], _ => exact ⟨y0, y1, rfl⟩
  have g0 := hff 0 _ rfl
  have g1 := hff 1 _ rfl
  change DataW.trod enc Try.prog W 0 sp held m 9 (([c0, c1].drop 0).take (Try.prog.cellsOf 9)) = some y0 at g0
  change DataW.trod enc Try.prog W 0 sp held m 3 (([c0, c1].drop 1).take (Try.prog.cellsOf 3)) = some y1 at g1
  rw [cellsStD] at g0
  rw [cellsInD] at g1
  obtain ⟨s, e0, rfl, hs⟩ := DataW.trod_string Try.underlying9 (show DataW.trod enc Try.prog W 0 sp held m 9 [c0] = some y0 from g0)
  obtain ⟨a, e1, e1', hw⟩ := DataW.trod_int Try.underlying3 (show DataW.trod enc Try.prog W 0 sp held m 3 [c1] = some y1 from g1)
  obtain rfl : c0 = .string s := by simpa using e0
  obtain rfl : c1 = .int .i64 a := by simpa using e1
  exact ⟨s, a, rfl⟩
theorem trod_strs (m : Nat) (cs : List Value) (y2 : DataW H × List MemPlace) (h : DataW.trod enc Try.prog W 0 sp held m 24 cs = some y2) :
    ∃ (p : Option Addr) (n c : Nat) (A : List ByteArray), cs = [.slice p n c] ∧ SlOk p n c ∧ AtF sS W p n A := by
  rcases DataW.trod_slice Try.underlying24 h with ⟨hc, hx⟩ | ⟨a, len, cap, elems, rest, n', rfl, hc, hx, _, hlc, hcm, hel, hels, _, _⟩
  · exact ⟨none, 0, 0, [], hc, .inl ⟨rfl, rfl, rfl⟩, rfl, .inl rfl⟩
  · have rows : ∀ q, q ≤ len → ∃ L : List ByteArray, L.length = q ∧ ∀ (i : Nat) (z : ByteArray), L[i]? = some z → W.cells? 0 (a.add (i * 1)) 1 = some (sS.cs z) := by
      intro q
      induction q with
      | zero => exact fun _ => ⟨[], rfl, fun i z h => by simp at h⟩
      | succ q ihq =>
        intro hq
        obtain ⟨L, hL, hcc⟩ := ihq (by omega)
        have hi := hels q (by omega)
        rw [cellsStD] at hi
        have hlt : q < elems.length := by omega
        rw [List.getElem?_eq_getElem hlt] at hi
        obtain ⟨cs', hcs, ht⟩ := Option.bind_eq_some_iff.1 hi
        obtain ⟨s, e0, _, _⟩ := DataW.trod_string Try.underlying9 ht
        have e1 : cs' = [.string s] := by simpa using e0
        subst e1
        refine ⟨L ++ [s], by simp [hL], fun i z hz => ?_⟩
        by_cases hiq : i < L.length
        · rw [List.getElem?_append_left hiq] at hz; exact hcc i z hz
        · rw [List.getElem?_append_right (by omega)] at hz
          have : i - L.length = 0 := by
            have := (List.getElem?_eq_some_iff.1 hz).1; simp at this; omega
          rw [this] at hz
          simp at hz; subst hz
          obtain rfl : i = q := by omega
          exact hcs
    obtain ⟨L, hL, hcl⟩ := rows len (Nat.le_refl _)
    refine ⟨some a, len, cap, L, hc, .inr ⟨⟨a, rfl⟩, hlc⟩, hL.symm, ?_⟩
    cases L with
    | nil => exact .inl rfl
    | cons z0 L0 =>
      have f0 := (World.cells?_some (hcl 0 z0 rfl)).2.2 0 (by omega)
      rw [Nat.zero_mul] at f0
      have e0 : (a.add 0).add 0 = a := rfl
      rw [e0] at f0
      obtain ⟨ea, C, T, fz, hh, hC0⟩ := spot_noneL (v := .string z0) (by rw [f0]; rfl)
      refine .inr ⟨a.block, a.off, C, T, fz, congrArg some ea, hh, fun i z hz => ?_⟩
      refine extract_ofL (sS.len z) (by decide) fun j hj => ?_
      have h9 := (World.cells?_some (hcl i z hz)).2.2 j hj
      rw [ea, addr_add, addr_add] at h9
      exact cell_atL hh h9
theorem openLog {v : Value} {d : DataW H} {p : List MemPlace} {base : Nat} (hv : Value.okWide Try.prog W .any base 26 v) (h : DataW.Trod enc Try.prog W 0 sp held 26 v d p) :
    ∃ (s : ByteArray) (a : Int) (q : Option Addr) (n c : Nat) (A : List ByteArray), v = lgV s a q n c ∧ SlOk q n c ∧ AtF sS W q n A := by
  obtain ⟨cs, rfl, hsz, _⟩ : ∃ cs, v = .agg cs ∧ cs.size = Try.prog.cellsOf 26 ∧ Row.okWide Try.prog W .any base 26 cs := by
    simpa [Value.okWide, Try.underlying26] using hv
  rw [cellsLg] at hsz
  obtain ⟨l⟩ := cs
  obtain ⟨c0, c1, c2, rfl⟩ : ∃ c0 c1 c2, l = [c0, c1, c2] := by
    match l, hsz with
    | [c0, c1, c2], _ => exact ⟨c0, c1, c2, rfl⟩
  obtain ⟨fuel, hf⟩ := h
  obtain ⟨xs, m, rfl, hx, _, hlen, hfs⟩ := DataW.trod_struct Try.underlying26 hf
  obtain ⟨y0, y1, rfl⟩ : ∃ y0 y1, xs = [y0, y1] := by
    match xs, hlen with
    | [y0, y1], _ => exact ⟨y0, y1, rfl⟩
  have g0 := hfs 0 _ rfl
  have g1 := hfs 1 _ rfl
  change DataW.trod enc Try.prog W 0 sp held m 23 (([c0, c1, c2].drop 0).take (Try.prog.cellsOf 23)) = some y0 at g0
  change DataW.trod enc Try.prog W 0 sp held m 24 (([c0, c1, c2].drop 2).take (Try.prog.cellsOf 24)) = some y1 at g1
  rw [cellsDv] at g0
  rw [cellsSl] at g1
  obtain ⟨s, a, e0⟩ := trod_dev m [c0, c1] y0 g0
  obtain ⟨q, n, c, A, e1, hok, hA⟩ := trod_strs m [c2] y1 g1
  obtain ⟨rfl, rfl⟩ : c0 = .string s ∧ c1 = .int .i64 a := by simpa using e0
  obtain rfl : c2 = .slice q n c := by simpa using e1
  exact ⟨s, a, q, n, c, A, rfl, hok, hA⟩
end
end Go.Proofs.Ythpiojejhellhaa

namespace Go.Proofs.Ythpiojejhellhaa
open Go Go.RowKit Go.Proofs.Crc
set_option linter.unusedVariables false
theorem take_next {A B : List ByteArray} {i : Nat} (h : A.take i = B.take i) (hA : i < A.length) (hB : i < B.length) (he : A[i] = B[i]) : A.take (i + 1) = B.take (i + 1) := by
  rw [List.take_succ_eq_append_getElem hA, List.take_succ_eq_append_getElem hB, h, he]
set_option maxRecDepth 100000 in
set_option maxHeartbeats 4000000 in
theorem equal_fn (p q : Option Addr) (n c m k : Nat) (A B : List ByteArray) (hn9 : n ≤ 1000000000) : FnP Try.prog 41 #[.slice p n c, .slice q m k] (fun w => AtF sS w p n A ∧ AtF sS w q m B) (.bool (decide (A = B))) := by
  refine FnP.intro (c := codeOf Try.f41) [.tmp 4] 26 Try.func41 kr kr kr fun w hP => ?_
  obtain ⟨⟨hA, hA2⟩, hB, hB2⟩ := hP
  have H0 := St.start w
  refine rS [.v] H0 kr fun gs1 w1 H1 => ?_
  refine g_seq kr ?_
  by_cases hl : n = m
  · subst hl
    refine rS [.v, .v, .v, .v, .e (v := .bool (!(((n : Nat) : Int) == ((n : Nat) : Int)))) (v' := .bool false) (bool_eq (by rw [beq_self_eq_true]; rfl))] H1 kr fun gs2 w2 H2 => ?_
    refine g_cond_f kr kr ?_
    refine g_skip kr ?_
    show WP _ _ _ _ _ _
    refine g_seq kr ?_
    refine rS [.v, .v, .v] H2 kr fun gs3 w3 H3 => ?_
    refine g_block 0 kr ?_
    have H4 : St w.heap.size w w3 [] := H3.as kr
    clear H0 H1 H2 H3
    refine g_loop kr (fun mz ρ ww => ∃ (i : Nat), n - i = mz ∧ i ≤ n ∧ A.take i = B.take i ∧ St w.heap.size w ww [] ∧ Is [(0, .slice p n c), (1, .slice q n k), (11, .slice p n c), (12, iN n), (13, iN i)] ρ) (n - 0) ⟨0, rfl, Nat.zero_le _, rfl, H4, (Is.of ⟨kr, kr, kr, kr, kr, trivial⟩)⟩ ?_
    clear H4
    rintro _ _ w4 ⟨i, rfl, him, htk, H5, _, rfl⟩
    by_cases hi : i < n
    · have hiA : i < A.length := by omega
      have hiB : i < B.length := by omega
      rcases hA2 with rfl | ⟨ba, oa, CA, TA, fa, rfl, hha, hRa⟩
      · exact absurd hiA (Nat.not_lt_zero _)
      rcases hB2 with rfl | ⟨bb, ob', CB, TB, fb, rfl, hhb, hRb⟩
      · exact absurd hiB (Nat.not_lt_zero _)
      have ca : CA[oa + i * 1]? = some (.string A[i]) := hRa.cell (List.getElem?_eq_getElem hiA) 0 (by decide)
      have cb : CB[ob' + i * 1]? = some (.string B[i]) := hRb.cell (List.getElem?_eq_getElem hiB) 0 (by decide)
      refine rS [.e (v := .bool (decide (((i : Nat) : Int) < ((n : Nat) : Int)))) (v' := .bool true) (bool_eq (decide_eq_true (by omega)))] H5 kr fun gs4 w5 H6 => ?_
      refine g_seq kr ?_
      refine g_cond_t kr kr ?_
      refine g_skip kr ?_
      show WP _ _ _ _ _ _
      refine g_seq kr ?_
      refine g_block 1 kr ?_
      refine rS [.v, .v] H6 kr fun gs5 w6 H7 => ?_
      by_cases he : A[i] = B[i]
      · refine dS [.v, .v, .o (ins := [((.tmp 16), .slice (some ⟨ba, oa, none⟩) n c), ((.tmp 17), iN i)]) (v := .pointer (some ⟨ba, oa + i * 1, none⟩)) (fun ρ o w ho hi2 => idxQ_run (kd := .i64) (t := 24) (e := 9) (K := 1) (bytes := 16) kr (x := (.tmp 16)) (y := (.tmp 17)) ba oa n c i rfl ho hi2.1 hi2.2.1 (by omega) w), .fs (off := oa + i * 1) (v := .string A[i]) hha (lt_of_heap hha) ca, .v, .v, .o (ins := [((.tmp 20), .slice (some ⟨bb, ob', none⟩) n k), ((.tmp 21), iN i)]) (v := .pointer (some ⟨bb, ob' + i * 1, none⟩)) (fun ρ o w ho hi2 => idxQ_run (kd := .i64) (t := 24) (e := 9) (K := 1) (bytes := 16) kr (x := (.tmp 20)) (y := (.tmp 21)) bb ob' n k i rfl ho hi2.1 hi2.2.1 (by omega) w), .fs (off := ob' + i * 1) (v := .string B[i]) hhb (lt_of_heap hhb) cb, .e (v := .bool (!((A[i]).toList == (B[i]).toList))) (v' := .bool false) (bool_eq (by rw [str_same _ _ he]; rfl))] H7 kr fun w7 H8 => ?_
        refine g_cond_f kr kr ?_
        refine g_skip kr ?_
        show WP _ _ _ _ _ _
        refine rL [.e (v := .int .i64 (IntKind.i64.wrap (((i : Nat) : Int) + 1))) (v' := iN (i + 1)) (int_eq (wrapAdd_i64 (a := i) (b := 1) (by omega))), .v] H8 kr fun gs7 w8 H9 => ?_
        show ∃ m, _ ∧ _
        exact ⟨_, (by omega), i + 1, rfl, hi, take_next htk hiA hiB he, H9.as kr, (Is.of ⟨kr, kr, kr, kr, kr, trivial⟩)⟩
      · refine dS [.v, .v, .o (ins := [((.tmp 16), .slice (some ⟨ba, oa, none⟩) n c), ((.tmp 17), iN i)]) (v := .pointer (some ⟨ba, oa + i * 1, none⟩)) (fun ρ o w ho hi2 => idxQ_run (kd := .i64) (t := 24) (e := 9) (K := 1) (bytes := 16) kr (x := (.tmp 16)) (y := (.tmp 17)) ba oa n c i rfl ho hi2.1 hi2.2.1 (by omega) w), .fs (off := oa + i * 1) (v := .string A[i]) hha (lt_of_heap hha) ca, .v, .v, .o (ins := [((.tmp 20), .slice (some ⟨bb, ob', none⟩) n k), ((.tmp 21), iN i)]) (v := .pointer (some ⟨bb, ob' + i * 1, none⟩)) (fun ρ o w ho hi2 => idxQ_run (kd := .i64) (t := 24) (e := 9) (K := 1) (bytes := 16) kr (x := (.tmp 20)) (y := (.tmp 21)) bb ob' n k i rfl ho hi2.1 hi2.2.1 (by omega) w), .fs (off := ob' + i * 1) (v := .string B[i]) hhb (lt_of_heap hhb) cb, .e (v := .bool (!((A[i]).toList == (B[i]).toList))) (v' := .bool true) (bool_eq (by rw [str_other _ _ he]; rfl))] H7 kr fun w7 H8 => ?_
        refine g_cond_t kr kr ?_
        refine rS [.v] H8 kr fun gs7 w8 H9 => ?_
        exact rRe [.tmp 4] [] (v := .bool false) (v' := .bool (decide (A = B))) H9 (bool_eq (decide_eq_false fun h => he (by subst h; rfl)).symm) kr
    · obtain rfl : i = n := by omega
      have hAB : A = B := by rw [← List.take_length (l := A), ← List.take_length (l := B), ← hA, ← hB]; exact htk
      refine rS [.e (v := .bool (decide (((i : Nat) : Int) < ((i : Nat) : Int)))) (v' := .bool false) (bool_eq (decide_eq_false (by omega)))] H5 kr fun gs4 w5 H6 => ?_
      refine g_seq kr ?_
      refine g_cond_f kr kr ?_
      refine g_exit 0 kr ?_
      show WP _ _ _ _ _ _
      refine rS [.v] H6 kr fun gs5 w6 H7 => ?_
      exact rRe [.tmp 4] [] (v := .bool true) (v' := .bool (decide (A = B))) H7 (bool_eq (decide_eq_true hAB).symm) kr
  · refine rS [.v, .v, .v, .v, .e (v := .bool (!(((n : Nat) : Int) == ((m : Nat) : Int)))) (v' := .bool true) (bool_eq (by rw [beq_eq_false_iff_ne.2 (by omega)]; rfl))] H1 kr fun gs2 w2 H2 => ?_
    refine g_cond_t kr kr ?_
    refine rS [.v] H2 kr fun gs3 w3 H3 => ?_
    exact rRe [.tmp 4] [] (v := .bool false) (v' := .bool (decide (A = B))) H3 (bool_eq (decide_eq_false fun h => hl (by rw [hA, hB, h])).symm) kr
set_option maxRecDepth 100000 in
set_option maxHeartbeats 4000000 in
theorem same_fn (p q : Option Addr) (n c m k : Nat) (A B : List ByteArray) (hn9 : n ≤ 1000000000) : FnP Try.prog 21 #[.slice p n c, .slice q m k] (fun w => AtF sS w p n A ∧ AtF sS w q m B) (.bool (decide (A = B))) := by
  refine FnP.intro (c := codeOf Try.f21) [.tmp 4] 26 Try.func21 kr kr kr fun w hP => ?_
  obtain ⟨⟨hA, hA2⟩, hB, hB2⟩ := hP
  have H0 := St.start w
  refine rS [.v] H0 kr fun gs1 w1 H1 => ?_
  refine g_seq kr ?_
  by_cases hl : n = m
  · subst hl
    refine rS [.v, .v, .v, .v, .e (v := .bool (!(((n : Nat) : Int) == ((n : Nat) : Int)))) (v' := .bool false) (bool_eq (by rw [beq_self_eq_true]; rfl))] H1 kr fun gs2 w2 H2 => ?_
    refine g_cond_f kr kr ?_
    refine g_skip kr ?_
    show WP _ _ _ _ _ _
    refine g_seq kr ?_
    refine rS [.v, .v, .v] H2 kr fun gs3 w3 H3 => ?_
    refine g_block 0 kr ?_
    have H4 : St w.heap.size w w3 [] := H3.as kr
    clear H0 H1 H2 H3
    refine g_loop kr (fun mz ρ ww => ∃ (i : Nat), n - i = mz ∧ i ≤ n ∧ A.take i = B.take i ∧ St w.heap.size w ww [] ∧ Is [(0, .slice p n c), (1, .slice q n k), (11, .slice p n c), (12, iN n), (13, iN i)] ρ) (n - 0) ⟨0, rfl, Nat.zero_le _, rfl, H4, (Is.of ⟨kr, kr, kr, kr, kr, trivial⟩)⟩ ?_
    clear H4
    rintro _ _ w4 ⟨i, rfl, him, htk, H5, _, rfl⟩
    by_cases hi : i < n
    · have hiA : i < A.length := by omega
      have hiB : i < B.length := by omega
      rcases hA2 with rfl | ⟨ba, oa, CA, TA, fa, rfl, hha, hRa⟩
      · exact absurd hiA (Nat.not_lt_zero _)
      rcases hB2 with rfl | ⟨bb, ob', CB, TB, fb, rfl, hhb, hRb⟩
      · exact absurd hiB (Nat.not_lt_zero _)
      have ca : CA[oa + i * 1]? = some (.string A[i]) := hRa.cell (List.getElem?_eq_getElem hiA) 0 (by decide)
      have cb : CB[ob' + i * 1]? = some (.string B[i]) := hRb.cell (List.getElem?_eq_getElem hiB) 0 (by decide)
      refine rS [.e (v := .bool (decide (((i : Nat) : Int) < ((n : Nat) : Int)))) (v' := .bool true) (bool_eq (decide_eq_true (by omega)))] H5 kr fun gs4 w5 H6 => ?_
      refine g_seq kr ?_
      refine g_cond_t kr kr ?_
      refine g_skip kr ?_
      show WP _ _ _ _ _ _
      refine g_seq kr ?_
      refine g_block 1 kr ?_
      refine rS [.v, .v] H6 kr fun gs5 w6 H7 => ?_
      by_cases he : A[i] = B[i]
      · refine dS [.v, .v, .o (ins := [((.tmp 16), .slice (some ⟨ba, oa, none⟩) n c), ((.tmp 17), iN i)]) (v := .pointer (some ⟨ba, oa + i * 1, none⟩)) (fun ρ o w ho hi2 => idxQ_run (kd := .i64) (t := 24) (e := 9) (K := 1) (bytes := 16) kr (x := (.tmp 16)) (y := (.tmp 17)) ba oa n c i rfl ho hi2.1 hi2.2.1 (by omega) w), .fs (off := oa + i * 1) (v := .string A[i]) hha (lt_of_heap hha) ca, .v, .v, .o (ins := [((.tmp 20), .slice (some ⟨bb, ob', none⟩) n k), ((.tmp 21), iN i)]) (v := .pointer (some ⟨bb, ob' + i * 1, none⟩)) (fun ρ o w ho hi2 => idxQ_run (kd := .i64) (t := 24) (e := 9) (K := 1) (bytes := 16) kr (x := (.tmp 20)) (y := (.tmp 21)) bb ob' n k i rfl ho hi2.1 hi2.2.1 (by omega) w), .fs (off := ob' + i * 1) (v := .string B[i]) hhb (lt_of_heap hhb) cb, .e (v := .bool (!((A[i]).toList == (B[i]).toList))) (v' := .bool false) (bool_eq (by rw [str_same _ _ he]; rfl))] H7 kr fun w7 H8 => ?_
        refine g_cond_f kr kr ?_
        refine g_skip kr ?_
        show WP _ _ _ _ _ _
        refine rL [.e (v := .int .i64 (IntKind.i64.wrap (((i : Nat) : Int) + 1))) (v' := iN (i + 1)) (int_eq (wrapAdd_i64 (a := i) (b := 1) (by omega))), .v] H8 kr fun gs7 w8 H9 => ?_
        show ∃ m, _ ∧ _
        exact ⟨_, (by omega), i + 1, rfl, hi, take_next htk hiA hiB he, H9.as kr, (Is.of ⟨kr, kr, kr, kr, kr, trivial⟩)⟩
      · refine dS [.v, .v, .o (ins := [((.tmp 16), .slice (some ⟨ba, oa, none⟩) n c), ((.tmp 17), iN i)]) (v := .pointer (some ⟨ba, oa + i * 1, none⟩)) (fun ρ o w ho hi2 => idxQ_run (kd := .i64) (t := 24) (e := 9) (K := 1) (bytes := 16) kr (x := (.tmp 16)) (y := (.tmp 17)) ba oa n c i rfl ho hi2.1 hi2.2.1 (by omega) w), .fs (off := oa + i * 1) (v := .string A[i]) hha (lt_of_heap hha) ca, .v, .v, .o (ins := [((.tmp 20), .slice (some ⟨bb, ob', none⟩) n k), ((.tmp 21), iN i)]) (v := .pointer (some ⟨bb, ob' + i * 1, none⟩)) (fun ρ o w ho hi2 => idxQ_run (kd := .i64) (t := 24) (e := 9) (K := 1) (bytes := 16) kr (x := (.tmp 20)) (y := (.tmp 21)) bb ob' n k i rfl ho hi2.1 hi2.2.1 (by omega) w), .fs (off := ob' + i * 1) (v := .string B[i]) hhb (lt_of_heap hhb) cb, .e (v := .bool (!((A[i]).toList == (B[i]).toList))) (v' := .bool true) (bool_eq (by rw [str_other _ _ he]; rfl))] H7 kr fun w7 H8 => ?_
        refine g_cond_t kr kr ?_
        refine rS [.v] H8 kr fun gs7 w8 H9 => ?_
        exact rRe [.tmp 4] [] (v := .bool false) (v' := .bool (decide (A = B))) H9 (bool_eq (decide_eq_false fun h => he (by subst h; rfl)).symm) kr
    · obtain rfl : i = n := by omega
      have hAB : A = B := by rw [← List.take_length (l := A), ← List.take_length (l := B), ← hA, ← hB]; exact htk
      refine rS [.e (v := .bool (decide (((i : Nat) : Int) < ((i : Nat) : Int)))) (v' := .bool false) (bool_eq (decide_eq_false (by omega)))] H5 kr fun gs4 w5 H6 => ?_
      refine g_seq kr ?_
      refine g_cond_f kr kr ?_
      refine g_exit 0 kr ?_
      show WP _ _ _ _ _ _
      refine rS [.v] H6 kr fun gs5 w6 H7 => ?_
      exact rRe [.tmp 4] [] (v := .bool true) (v' := .bool (decide (A = B))) H7 (bool_eq (decide_eq_true hAB).symm) kr
  · refine rS [.v, .v, .v, .v, .e (v := .bool (!(((n : Nat) : Int) == ((m : Nat) : Int)))) (v' := .bool true) (bool_eq (by rw [beq_eq_false_iff_ne.2 (by omega)]; rfl))] H1 kr fun gs2 w2 H2 => ?_
    refine g_cond_t kr kr ?_
    refine rS [.v] H2 kr fun gs3 w3 H3 => ?_
    exact rRe [.tmp 4] [] (v := .bool false) (v' := .bool (decide (A = B))) H3 (bool_eq (decide_eq_false fun h => hl (by rw [hA, hB, h])).symm) kr
end Go.Proofs.Ythpiojejhellhaa

namespace Go.Proofs.Ythpiojejhellhaa
open Go Go.RowKit Go.Proofs.Crc
open D2 (Gh)
set_option linter.unusedVariables false
theorem new_fn : Fn Try.prog 15 #[] (lgV em 0 none 0 0) := by
  refine Fn.intro (c := codeOf Try.f15) [.cell 0 26] 2 Try.func15 kr kr kr fun w => ?_
  have H0 := St.start w
  refine rS [.a] H0 kr fun gs1 w1 H1 => ?_
  refine rS [.v, .s 0] H1 kr fun gs2 w2 H2 => ?_
  exact rRe [.cell 0 26] [0] (v := lgV em 0 none 0 0) (v' := lgV em 0 none 0 0) H2 rfl kr
theorem sure_fn (s : ByteArray) (a : Int) (p : Option Addr) (n c : Nat) (hr : rightM s a = true) : Fn Try.prog 29 #[lgV s a p n c] (lgV s ((s.size : Nat) : Int) p n c) := by
  refine Fn.intro (c := codeOf Try.f29) [.cell 2 26] 11 Try.func29 kr kr kr fun w => ?_
  have H0 := St.start w
  refine rS [.b, .a] H0 kr fun gs1 w1 H1 => ?_
  refine rS [.v, .l 0, .c (sync_ok s a hr), .v, .v, .v, .v, .s 0] H1 kr fun gs2 w2 H2 => ?_
  refine rS [.l 0, .s 1] H2 kr fun gs3 w3 H3 => ?_
  exact rRe [.cell 2 26] [1] (v := lgV s ((s.size : Nat) : Int) p n c) (v' := lgV s ((s.size : Nat) : Int) p n c) H3 rfl kr
def okRd (b : Bool) (A : List ByteArray) (v : Value) (T : List (Nat × Obj)) : Prop := match b with
  | true => ∃ (q : Option Addr) (m k : Nat), RowF sS 9 q m k T A ∧ v = .tuple #[.slice q m k, .bool true]
  | false => v = .tuple #[.slice none 0 0, .bool false] ∧ T = []
set_option maxRecDepth 100000 in
set_option maxHeartbeats 4000000 in
theorem read_fn (s : ByteArray) (a : Int) (p : Option Addr) (n c : Nat) (A : List ByteArray) : FnT Try.prog 25 #[lgV s a p n c] (fun w => AtF sS w p n A) (okRd (rightL s a A) A) := by
  refine FnT.intro (c := codeOf Try.f25) [.tmp 2, .tmp 3] 31 Try.func25 kr kr kr fun w hP => ?_
  have H0 := St.start w
  refine rS [.b, .v, .v] H0 kr fun gs1 w1 H1 => ?_
  refine g_seq kr ?_
  cases hr : rightM s a with
  | false =>
    have hL : rightL s a A = false := Bool.eq_false_iff.2 fun h => by rw [(rightL_iff.1 h).2.1] at hr; cases hr
    refine rS [.v, .l 0, .c (right_fn s a), .e (v := .bool (!(rightM s a))) (v' := .bool true) (bool_eq (by rw [hr]; rfl))] H1 kr fun gs2 w2 H2 => ?_
    refine g_cond_t kr kr ?_
    refine rS [.v, .v] H2 kr fun gs3 w3 H3 => ?_
    refine rRr [.tmp 2, .tmp 3] [] (.tuple #[.slice none 0 0, .bool false]) (outT w.heap.size w (okRd (rightL s a A) A)) H3 kr ?_
    exact ⟨[], by rw [hL]; exact ⟨rfl, rfl⟩, H3.sub (List.nil_sublist _)⟩
  | true =>
    have hz : s.size ≤ 200000 := (rightM_iff.1 hr).1
    refine rS [.v, .l 0, .c (right_fn s a), .e (v := .bool (!(rightM s a))) (v' := .bool false) (bool_eq (by rw [hr]; rfl))] H1 kr fun gs2 w2 H2 => ?_
    refine g_cond_f kr kr ?_
    refine g_skip kr ?_
    show WP _ _ _ _ _ _
    refine g_sreg [0, 1, 2, 3, 4, 5, 6, 7, 8] kr kr ?_
    refine rp [.v, .v, .l 0] H2 kr fun gs3 w3 H3 => ?_
    show WPs _ _ _ _ [3, 4, 5, 6, 7, 8] _ _
    have H4 : St w.heap.size w w3 [((gs1 0).b, lgO s a p n c)] := H3.as kr
    refine s_callFT H4 (some 14) 31 #[.string s] (scanT_fn s (by omega)) trivial kr kr ?_
    rintro _ T w4 ⟨rs, z, q, m, k, hsc, hrow, rfl⟩ H5
    have H6 : St w.heap.size w w4 (((gs1 0).b, lgO s a p n c) :: T) := H5.perm (List.perm_append_comm (l₁ := [((gs1 0).b, lgO s a p n c)]) (l₂ := T))
    refine rp [.v, .v, .v, .v, .v] H6 kr fun gs4 w5 H7 => ?_
    show WPs _ _ _ _ [] _ _
    refine s_nil ?_
    have H8 : St w.heap.size w w5 (((gs1 0).b, lgO s a p n c) :: T) := H7.as kr
    have hsl := sc_len hsc
    have hlen := hrow.len
    have hR := right_scan (A := A) hr hsc
    refine g_seq kr ?_
    by_cases hz1 : z = s.size
    · refine g_sreg [0, 1, 2, 3, 4, 5, 6, 7, 8, 9, 10, 11, 12] kr kr ?_
      refine rp [.v, .v, .v, .l 0, .v, .e (v := .bool (!(((z : Nat) : Int) == ((s.size : Nat) : Int)))) (v' := .bool false) (bool_eq (by rw [hz1, beq_self_eq_true]; rfl)), .v, .v, .v, .l 0] H8 kr fun gs5 w6 H9 => ?_
      show WPs _ _ _ _ [10, 11, 12] _ _
      have H10 : St w.heap.size w w6 (((gs1 0).b, lgO s a p n c) :: T) := H9.as kr
      refine s_callP H10 (some 27) 41 #[.slice q m k, .slice p n c] _ _ (equal_fn q p m k n c rs A (by omega)) ⟨hrow.atF H10 fun e he => by simp [he], hP.call H10.below⟩ (fun w => by kernel_rfl) kr ?_
      intro w7 H11
      by_cases hq : rs = A
      · have hL : rightL s a A = true := by rw [hR, hz1, hq]; simp
        refine rp [.e (v := .bool (!(decide (rs = A)))) (v' := .bool false) (bool_eq (by rw [decide_eq_true hq]; rfl)), .v] H11 kr fun gs6 w8 H12 => ?_
        show WPs _ _ _ _ [] _ _
        refine s_nil ?_
        show WP _ _ _ _ _ _
        refine g_cond_f kr kr ?_
        refine g_skip kr ?_
        show WP _ _ _ _ _ _
        refine rS [.v, .v, .v] H12 kr fun gs7 w9 H13 => ?_
        refine rRr [.tmp 2, .tmp 3] [] (.tuple #[.slice q m k, .bool true]) (outT w.heap.size w (okRd (rightL s a A) A)) H13 kr ?_
        have H14 : St w.heap.size w w9 (((gs1 0).b, lgO s a p n c) :: T) := H13.as kr
        exact ⟨T, by rw [hL]; exact ⟨q, m, k, hq ▸ hrow, rfl⟩, H14.sub (List.sublist_cons_self ..)⟩
      · have hL : rightL s a A = false := by rw [hR, decide_eq_false hq, Bool.and_false]
        refine rp [.e (v := .bool (!(decide (rs = A)))) (v' := .bool true) (bool_eq (by rw [decide_eq_false hq]; rfl)), .v] H11 kr fun gs6 w8 H12 => ?_
        show WPs _ _ _ _ [] _ _
        refine s_nil ?_
        show WP _ _ _ _ _ _
        refine g_cond_t kr kr ?_
        refine rS [.v, .v] H12 kr fun gs7 w9 H13 => ?_
        refine rRr [.tmp 2, .tmp 3] [] (.tuple #[.slice none 0 0, .bool false]) (outT w.heap.size w (okRd (rightL s a A) A)) H13 kr ?_
        exact ⟨[], by rw [hL]; exact ⟨rfl, rfl⟩, H13.sub (List.nil_sublist _)⟩
    · have hL : rightL s a A = false := by rw [hR, decide_eq_false hz1, Bool.false_and]
      refine rS [.v, .v, .v, .l 0, .v, .e (v := .bool (!(((z : Nat) : Int) == ((s.size : Nat) : Int)))) (v' := .bool true) (bool_eq (by rw [beq_eq_false_iff_ne.2 (by omega)]; rfl)), .v, .n, .n, .n, .n, .n, .v] H8 kr fun gs5 w6 H9 => ?_
      refine g_cond_t kr kr ?_
      refine rS [.v, .v] H9 kr fun gs7 w9 H13 => ?_
      refine rRr [.tmp 2, .tmp 3] [] (.tuple #[.slice none 0 0, .bool false]) (outT w.heap.size w (okRd (rightL s a A) A)) H13 kr ?_
      exact ⟨[], by rw [hL]; exact ⟨rfl, rfl⟩, H13.sub (List.nil_sublist _)⟩
theorem rightW_fn (s : ByteArray) (a : Int) (p : Option Addr) (n c : Nat) (A : List ByteArray) : FnP Try.prog 12 #[lgV s a p n c] (fun w => AtF sS w p n A) (.bool (rightL s a A)) := by
  refine FnP.intro (c := codeOf Try.f12) [.tmp 2] 11 Try.func12 kr kr kr fun w hP => ?_
  have H0 := St.start w
  refine rS [.b, .v] H0 kr fun gs1 w1 H1 => ?_
  refine g_sreg [0, 1, 2, 3, 4, 5, 6] kr kr ?_
  refine rp [.l 0] H1 kr fun gs2 w2 H2 => ?_
  show WPs _ _ _ _ [1, 2, 3, 4, 5, 6] _ _
  refine s_callFT H2 (some 7) 25 #[lgV s a p n c] (read_fn s a p n c A) (hP.call H2.below) kr kr ?_
  intro v T w3 hok H3
  have H4 := H3.sub (List.nil_sublist _)
  cases hL : rightL s a A with
  | true =>
    rw [hL] at hok
    obtain ⟨q, m, k, _, rfl⟩ := hok
    refine rp [.v, .v, .v, .v, .v] H4 kr fun gs3 w4 H5 => ?_
    show WPs _ _ _ _ [] _ _
    refine s_nil ?_
    show WP _ _ _ _ _ _
    refine rS [.v, .v] H5 kr fun gs4 w5 H6 => ?_
    exact rRe [.tmp 2] [] (v := .bool true) (v' := .bool true) H6 rfl kr
  | false =>
    rw [hL] at hok
    obtain ⟨rfl, _⟩ := hok
    refine rp [.v, .v, .v, .v, .v] H4 kr fun gs3 w4 H5 => ?_
    show WPs _ _ _ _ [] _ _
    refine s_nil ?_
    show WP _ _ _ _ _ _
    refine rS [.v, .v] H5 kr fun gs4 w5 H6 => ?_
    exact rRe [.tmp 2] [] (v := .bool false) (v' := .bool false) H6 rfl kr
end Go.Proofs.Ythpiojejhellhaa

namespace Go.Proofs.Ythpiojejhellhaa
open Go Go.RowKit Go.Proofs.Crc
open D2 (Gh)
set_option linter.unusedVariables false
set_option maxRecDepth 100000 in
set_option maxHeartbeats 4000000 in
theorem begin_fn (s : ByteArray) (a : Int) (p : Option Addr) (n c : Nat) (A : List ByteArray) (r : ByteArray) : FnT Try.prog 7 #[lgV s a p n c, .string r] (fun w => AtF sS w p n A) (okLog (beginM s a A r)) := by
  refine FnT.intro (c := codeOf Try.f7) [.cell 4 26, .tmp 5] 46 Try.func7 kr kr kr fun w hP => ?_
  have H0 := St.start w
  refine rS [.b, .a, .v] H0 kr fun gs1 w1 H1 => ?_
  by_cases hr : recB r = true
  · have hr2 := recB_iff.1 hr
    refine rS [.v, .c (frame_fn r hr2), .v, .v, .v, .v, .v] H1 kr fun gs2 w2 H2 => ?_
    refine g_seq kr ?_
    refine rS [.v, .v] H2 kr fun gs3 w3 H3 => ?_
    refine g_cond_f kr kr ?_
    refine g_skip kr ?_
    show WP _ _ _ _ _ _
    refine g_sreg [0, 1, 2, 3, 4, 5, 6] kr kr ?_
    refine rp [.l 0] H3 kr fun gs4 w4 H4 => ?_
    show WPs _ _ _ _ [1, 2, 3, 4, 5, 6] _ _
    have H5 : St w.heap.size w w4 [((gs1 0).b, lgO s a p n c), ((gs1 1).b, lgO em 0 none 0 0)] := H4.as kr
    refine s_callFT H5 (some 22) 25 #[lgV s a p n c] (read_fn s a p n c A) (hP.call H5.below) kr kr ?_
    intro v T w5 hok H6
    have H7 : St w.heap.size w w5 (((gs1 0).b, lgO s a p n c) :: ((gs1 1).b, lgO em 0 none 0 0) :: T) := H6.perm (List.perm_append_comm (l₁ := [((gs1 0).b, lgO s a p n c), ((gs1 1).b, lgO em 0 none 0 0)]) (l₂ := T))
    cases hL : rightL s a A with
    | false =>
      rw [hL] at hok
      obtain ⟨rfl, rfl⟩ := hok
      refine rp [.v, .v, .v, .v, .v] H7 kr fun gs5 w6 H8 => ?_
      show WPs _ _ _ _ [] _ _
      refine s_nil ?_
      show WP _ _ _ _ _ _
      refine g_seq kr ?_
      refine rS [.v, .v] H8 kr fun gs6 w7 H9 => ?_
      refine g_cond_t kr kr ?_
      refine rS [.v, .s 1, .v] H9 kr fun gs7 w8 H10 => ?_
      refine rRr [.cell 4 26, .tmp 5] [1] (.tuple #[lgV em 0 none 0 0, .int .i64 1]) (outT w.heap.size w (okLog (beginM s a A r))) H10 kr ?_
      refine ⟨[], ?_, H10.sub (List.nil_sublist _)⟩
      rw [show beginM s a A r = errL 1 by unfold beginM; rw [hL, if_neg (by simp)]]
      exact okLog_err 1
    | true =>
      rw [hL] at hok
      obtain ⟨q, m, k, hrow, rfl⟩ := hok
      obtain ⟨hA, hM, hfl⟩ := rightL_iff.1 hL
      obtain ⟨hz, ha0, ha1⟩ := rightM_iff.1 hM
      have hfz : (strB (frB (tl r))).size = r.size + 6 := by rw [strB_size, frB_len, tl_len]
      have hm := hrow.len
      have hml : m ≤ 1000000 := by
        have h1 := flat_ge A
        have h2 : (flat A).length = s.size := by rw [← hfl, strB_size]
        omega
      refine rp [.v, .v, .v, .v, .v] H7 kr fun gs5 w6 H8 => ?_
      show WPs _ _ _ _ [] _ _
      refine s_nil ?_
      show WP _ _ _ _ _ _
      refine g_seq kr ?_
      refine rS [.v, .v] H8 kr fun gs6 w7 H9 => ?_
      refine g_cond_f kr kr ?_
      refine g_skip kr ?_
      show WP _ _ _ _ _ _
      by_cases hl : s.size + (r.size + 6) ≤ 200000
      · obtain ⟨S, hS⟩ : ∃ S, s ++ strB (frB (tl r)) = S := ⟨_, rfl⟩
        have hap : Fn Try.prog 26 #[dvV s a, .string (strB (frB (tl r)))] (dvR S a 0) := by rw [← hS]; exact append_ok s (strB (frB (tl r))) a hM (by omega)
        refine g_sreg [0, 1, 2, 3, 4, 5, 6, 7, 8, 9] kr kr ?_
        refine rp [.v, .l 0, .v, .c hap, .v, .v, .v] H9 kr fun gs7 w8 H10 => ?_
        show WPs _ _ _ _ [7, 8, 9] _ _
        have H11 : St w.heap.size w w8 (((gs1 0).b, lgO s a p n c) :: ((gs1 1).b, lgO em 0 none 0 0) :: T) := H10.as kr
        refine s_alloc H11 (some 10) 23 (dvV em 0) kr kr kr ?_
        intro bg w9 H12
        refine rp [.s 0, .v] H12 kr fun gs8 w10 H13 => ?_
        show WPs _ _ _ _ [] _ _
        refine s_nil ?_
        show WP _ _ _ _ _ _
        have H14 : St w.heap.size w w10 ((bg, dvO S a) :: ((gs1 0).b, lgO s a p n c) :: ((gs1 1).b, lgO em 0 none 0 0) :: T) := H13.as kr
        refine g_seq kr ?_
        refine rS [.v, .v] H14 kr fun gs9 w11 H15 => ?_
        refine g_cond_f kr kr ?_
        refine g_skip kr ?_
        show WP _ _ _ _ _ _
        have H16 : St w.heap.size w w11 (T ++ [(bg, dvO S a), ((gs1 1).b, lgO em 0 none 0 0)]) := by
          have h9 : St w.heap.size w w11 ((bg, dvO S a) :: ((gs1 0).b, lgO s a p n c) :: ((gs1 1).b, lgO em 0 none 0 0) :: T) := H15.as kr
          exact (h9.sub (List.Sublist.cons_cons _ (List.sublist_cons_self ..))).perm (List.perm_append_comm (l₁ := T) (l₂ := [(bg, dvO S a), ((gs1 1).b, lgO em 0 none 0 0)]))
        generalize hb4 : (gs1 1).b = b4 at *
        refine g_seq kr ?_
        refine D2.g_draw0 [0, 1, 2, 3, 4, 5, 6, 7, 8] [(some 39, fun _ => dvV S a), (some 40, fun _ => .slice q m k), (some 41, fun _ => .string r), (some 42, fun _ => .string r), (some 43, fun y => .slice (some ⟨y.b, 0, none⟩) 1 1), (some 44, fun y => .slice (some ⟨y.b, 0, none⟩) (m + 1) y.cap), (some 45, fun y => .agg #[.string S, .int .i64 a, .slice (some ⟨y.b, 0, none⟩) (m + 1) y.cap]), (none, fun _ => undef), (some 5, fun _ => .int .i64 0)]
          (D2.chn [4, 5, 6, 7] fun j g ww => match j with
            | 0 => St w.heap.size w ww (T ++ [(bg, dvO S a), (b4, lgO em 0 none 0 0)])
            | 1 => St w.heap.size w ww (((g 4).b, .cells (sS.cs r).toArray 9 (0, 0)) :: (T ++ [(bg, dvO S a), (b4, lgO em 0 none 0 0)]))
            | 2 => St w.heap.size w ww (((g 5).b, .cells (g 5).cur 9 (0, 0)) :: [(bg, dvO S a), (b4, lgO em 0 none 0 0)]) ∧ Rw 1 (g 5).cur (g 5).cap (m + 1) (cellsF sS (A ++ [r]))
            | 3 => St w.heap.size w ww (((g 6).b, .cells (g 6).cur 9 (0, 0)) :: [(bg, dvO S a), (b4, lgO em 0 none 0 0)]) ∧ Rw 1 (g 6).cur (g 6).cap (m + 1) (cellsF sS (A ++ [r]))
            | _ => St w.heap.size w ww (((g 6).b, .cells (g 6).cur 9 (0, 0)) :: [(bg, dvO S a), (b4, lgO S a (some ⟨(g 6).b, 0, none⟩) (m + 1) (g 6).cap)]) ∧ Rw 1 (g 6).cur (g 6).cap (m + 1) (cellsF sS (A ++ [r])))
          kr kr kr H16.drew ⟨?_, ?_, ?_, ?_, ?_, ?_, ?_, ?_, ?_, trivial⟩ ?_
        · exact D2.gv_ld (fun _ _ _ h => h) 23 (.tmp 10) (fun _ => bg) 0 #[.string S, .int .i64 a] 23 (0, 0) (fun g => by kernel_rfl) (fun g => by kernel_rfl) (fun L g w hN hp => hp.get fun j hj h => by
      match j, h with
      | 0, h => exact (h.own (bg, dvO S a) (by simp)).2
      | 1, h => exact (h.own (bg, dvO S a) (by simp)).2
      | 2, h => exact (h.1.own (bg, dvO S a) (by simp)).2
      | 3, h => exact (h.1.own (bg, dvO S a) (by simp)).2
      | _ + 4, h => exact (h.1.own (bg, dvO S a) (by simp)).2) kr kr
        · exact D2.gv_val (fun _ _ _ h => h) (fun g w => by kernel_rfl)
        · exact D2.gv_val (fun _ _ _ h => h) (fun g w => by kernel_rfl)
        · exact D2.gv_cW (fun _ _ _ h => h) 27 #[.string r] (cloneS_fn r (by omega)) (fun L g w w' hN hp hb => by
      revert hp; unfold D2.chn
      generalize D2.stg [4, 5, 6, 7] L = j
      intro hp
      match j, hp with
      | 0, h => exact h.call hb
      | 1, h => exact h.call hb
      | 2, h => exact ⟨h.1.call hb, h.2⟩
      | 3, h => exact ⟨h.1.call hb, h.2⟩
      | _ + 4, h => exact ⟨h.1.call hb, h.2⟩) (fun g w => by kernel_rfl)
        · refine D2.gv_chn 4 0 (fun L hN => by
      have e4 := hN.1
      have e5 := hN.post 5 kr
      have e6 := hN.fwd e5 (show D2.edge _ 5 6 = true by kernel_rfl)
      have e7 := hN.fwd e6 (show D2.edge _ 6 7 = true by kernel_rfl)
      exact ⟨by (simp [D2.stg, e4, e5, e6, e7]) <;> rfl, by (simp [D2.stg, D2.put1, e4, e5, e6, e7]) <;> rfl⟩) fun g ww hq => ?_
          exact D2.run_new (F := fun b => .slice (some ⟨b, 0, none⟩) 1 1) (ob := .cells (sS.cs r).toArray 9 (0, 0)) kr ⟨{ b := ww.heap.size }, rfl, St.alloc hq _⟩
        · refine D2.gv_chn 5 1 (fun L hN => by
      have e5 := hN.1
      have e4 := hN.bef 4 kr
      have e6 := hN.post 6 kr
      have e7 := hN.fwd e6 (show D2.edge _ 6 7 = true by kernel_rfl)
      exact ⟨by (simp [D2.stg, e4, e5, e6, e7]) <;> rfl, by (simp [D2.stg, D2.put1, e4, e5, e6, e7]) <;> rfl⟩) fun g ww hq => ?_
          refine D2.run_of (op := appendOp 24 (.tmp 40) (.tmp 43)) kr fun o ho => ?_
          obtain ⟨b', cap', cur', w', hrun, HS', hr'⟩ := grow_one (S := sS) (bx := (g 4).b) (M0 := A) (y := r) (row := T) (Z := [(bg, dvO S a), (b4, lgO em 0 none 0 0)]) (n := m) (c := k) (p := q) (mc := 1) hq hrow (t := 24) (bytes := 16) kr ho kr kr (by omega) (by unfold maxLen; omega)
          exact ⟨_, w', hrun, { b := b', cap := cap', cur := cur' }, rfl, HS', hr'⟩
        · refine D2.gv_chn 6 2 (fun L hN => by
      have e6 := hN.1
      have e5 := hN.bef 5 kr
      have e4 := hN.back e5 (show D2.edge _ 4 5 = true by kernel_rfl)
      have e7 := hN.post 7 kr
      exact ⟨by (simp [D2.stg, e4, e5, e6, e7]) <;> rfl, by (simp [D2.stg, D2.put1, e4, e5, e6, e7]) <;> rfl⟩) fun g ww hq => ?_
          exact D2.run_val kr ⟨g 5, rfl, hq⟩
        · refine D2.gv_chn 7 3 (fun L hN => by
      have e7 := hN.1
      have e6 := hN.bef 6 kr
      have e5 := hN.back e6 (show D2.edge _ 5 6 = true by kernel_rfl)
      have e4 := hN.back e5 (show D2.edge _ 4 5 = true by kernel_rfl)
      exact ⟨by (simp [D2.stg, e4, e5, e6, e7]) <;> rfl, by (simp [D2.stg, D2.put1, e4, e5, e6, e7]) <;> rfl⟩) fun g ww hq => ?_
          exact D2.run_sto (t := 26) (x := .tmp 4) (y := .tmp 45) (C := #[.string em, .int .i64 0, .slice none 0 0]) (C' := #[.string S, .int .i64 a, .slice (some ⟨(g 6).b, 0, none⟩) (m + 1) (g 6).cap]) (T := 26) (off := 0) (b := b4) (v := .agg #[.string S, .int .i64 a, .slice (some ⟨(g 6).b, 0, none⟩) (m + 1) (g 6).cap]) kr (by subst hb4; kernel_rfl) kr kr kr (St.get hq.1 2 kr) (Nat.le_of_ble_eq_true kr) kr ⟨g 7, rfl, St.store (C := #[.string em, .int .i64 0, .slice none 0 0]) (T := 26) hq.1 2 kr, hq.2⟩
        · exact D2.gv_val (fun _ _ _ h => h) (fun g w => by kernel_rfl)
        · intro L1 g w12 hall hp
          have hq := hp.fin (fun k hk => hall k (by simp at hk; rcases hk with rfl | rfl | rfl | rfl <;> exact Nat.le_of_ble_eq_true kr))
          show WP _ _ _ _ _ _
          subst hb4
          refine rRr [.cell 4 26, .tmp 5] [2] (.tuple #[lgV S a (some ⟨(g 6).b, 0, none⟩) (m + 1) (g 6).cap, .int .i64 0]) (outT w.heap.size w (okLog (beginM s a A r))) hq.1 kr ?_
          refine ⟨[((g 6).b, .cells (g 6).cur 9 (0, 0))], ?_, hq.1.sub (List.Sublist.cons_cons _ (List.nil_sublist _))⟩
          rw [show beginM s a A r = ⟨S, a, A ++ [r], 0⟩ by unfold beginM; rw [if_pos ⟨hr, hL⟩, if_pos hl, hS]]
          exact ⟨_, _, _, .inr ⟨_, _, rfl, rfl, hq.2⟩, rfl⟩
      · refine g_sreg [0, 1, 2, 3, 4, 5, 6, 7, 8, 9] kr kr ?_
        refine rp [.v, .l 0, .v, .c (append_long s (strB (frB (tl r))) a hM (by omega)), .v, .v, .v] H9 kr fun gs7 w8 H10 => ?_
        show WPs _ _ _ _ [7, 8, 9] _ _
        have H11 : St w.heap.size w w8 (((gs1 0).b, lgO s a p n c) :: ((gs1 1).b, lgO em 0 none 0 0) :: T) := H10.as kr
        refine s_alloc H11 (some 10) 23 (dvV em 0) kr kr kr ?_
        intro bg w9 H12
        refine rp [.s 0, .v] H12 kr fun gs8 w10 H13 => ?_
        show WPs _ _ _ _ [] _ _
        refine s_nil ?_
        show WP _ _ _ _ _ _
        refine g_seq kr ?_
        refine rS [.v, .v] H13 kr fun gs9 w11 H15 => ?_
        refine g_cond_t kr kr ?_
        refine rS [.v, .v, .s 2, .v] H15 kr fun gs10 w12 H16 => ?_
        refine rRr [.cell 4 26, .tmp 5] [2] (.tuple #[lgV em 0 none 0 0, .int .i64 2]) (outT w.heap.size w (okLog (beginM s a A r))) H16 kr ?_
        refine ⟨[], ?_, H16.sub (List.nil_sublist _)⟩
        rw [show beginM s a A r = errL 2 by unfold beginM; rw [if_pos ⟨hr, hL⟩, if_neg hl]]
        exact okLog_err 2
  · refine rS [.v, .c (frameNo_fn r fun h => hr (recB_iff.2 h)), .v, .v, .v, .v, .v] H1 kr fun gs2 w2 H2 => ?_
    refine g_seq kr ?_
    refine rS [.v, .v] H2 kr fun gs3 w3 H3 => ?_
    refine g_cond_t kr kr ?_
    refine rS [.v, .v, .s 1, .v] H3 kr fun gs4 w4 H4 => ?_
    refine rRr [.cell 4 26, .tmp 5] [1] (.tuple #[lgV em 0 none 0 0, .int .i64 1]) (outT w.heap.size w (okLog (beginM s a A r))) H4 kr ?_
    refine ⟨[], ?_, H4.sub (List.nil_sublist _)⟩
    rw [show beginM s a A r = errL 1 by unfold beginM; rw [if_neg (fun h => hr h.1)]]
    exact okLog_err 1
set_option maxRecDepth 100000 in
set_option maxHeartbeats 4000000 in
theorem append_fn (s : ByteArray) (a : Int) (p : Option Addr) (n c : Nat) (A : List ByteArray) (r : ByteArray) : FnT Try.prog 9 #[lgV s a p n c, .string r] (fun w => AtF sS w p n A) (okLog (appendM s a A r)) := by
  refine FnT.intro (c := codeOf Try.f9) [.cell 4 26, .tmp 5] 20 Try.func9 kr kr kr fun w hP => ?_
  have H0 := St.start w
  refine rS [.b, .a, .v] H0 kr fun gs1 w1 H1 => ?_
  refine g_sreg [0, 1, 2, 3, 4, 5, 6, 7, 8] kr kr ?_
  refine rp [.l 0, .v] H1 kr fun gs2 w2 H2 => ?_
  show WPs _ _ _ _ [2, 3, 4, 5, 6, 7, 8] _ _
  have H3 : St w.heap.size w w2 [((gs1 0).b, lgO s a p n c), ((gs1 1).b, lgO em 0 none 0 0)] := H2.as kr
  refine s_callFT H3 (some 11) 7 #[lgV s a p n c, .string r] (begin_fn s a p n c A r) (hP.call H3.below) kr kr ?_
  rintro _ T w3 ⟨q, m, k, hrow, rfl⟩ H4
  have H5 : St w.heap.size w w3 (((gs1 0).b, lgO s a p n c) :: ((gs1 1).b, lgO em 0 none 0 0) :: T) := H4.perm (List.perm_append_comm (l₁ := [((gs1 0).b, lgO s a p n c), ((gs1 1).b, lgO em 0 none 0 0)]) (l₂ := T))
  rcases begin_e (s := s) (a := a) (A := A) (r := r) with ⟨_, hB, h1, h2, h3⟩ | ⟨hB, _⟩ | ⟨hB, _⟩
  · rw [hB] at hrow
    rw [hB]
    have hnext := right_next h1 h2 h3
    have hM := (rightL_iff.1 hnext).2.1
    generalize hS : s ++ strB (frB (tl r)) = S at *
    refine rp [.v, .v, .v] H5 kr fun gs3 w4 H6 => ?_
    show WPs _ _ _ _ [6, 7, 8] _ _
    have H7 : St w.heap.size w w4 (((gs1 0).b, lgO s a p n c) :: ((gs1 1).b, lgO em 0 none 0 0) :: T) := H6.as kr
    refine s_alloc H7 (some 6) 26 (lgV em 0 none 0 0) kr kr kr ?_
    intro bg w5 H8
    refine rp [.s 0, .v] H8 kr fun gs4 w6 H9 => ?_
    show WPs _ _ _ _ [] _ _
    refine s_nil ?_
    show WP _ _ _ _ _ _
    refine g_seq kr ?_
    refine rS [.v, .v] H9 kr fun gs5 w7 H10 => ?_
    refine g_cond_f kr kr ?_
    refine g_skip kr ?_
    show WP _ _ _ _ _ _
    refine rS [.l 0, .c (sure_fn S a q m k hM), .s 2, .v] H10 kr fun gs6 w8 H11 => ?_
    refine rRr [.cell 4 26, .tmp 5] [2] (.tuple #[lgV S ((S.size : Nat) : Int) q m k, .int .i64 0]) (outT w.heap.size w (okLog (appendM s a A r))) H11 kr ?_
    have H12 : St w.heap.size w w8 ((bg, lgO S a q m k) :: ((gs1 0).b, lgO s a p n c) :: ((gs1 1).b, lgO S ((S.size : Nat) : Int) q m k) :: T) := H11.as kr
    refine ⟨T, ?_, H12.sub ((List.sublist_cons_self ..).trans ((List.sublist_cons_self ..).trans (List.sublist_cons_self ..)))⟩
    rw [show appendM s a A r = ⟨S, ((S.size : Nat) : Int), A ++ [r], 0⟩ by unfold appendM; rw [hB, if_pos rfl]]
    exact ⟨q, m, k, hrow, rfl⟩
  · rw [hB] at hrow
    rw [hB]
    refine rp [.v, .v, .v] H5 kr fun gs3 w4 H6 => ?_
    show WPs _ _ _ _ [6, 7, 8] _ _
    have H7 : St w.heap.size w w4 (((gs1 0).b, lgO s a p n c) :: ((gs1 1).b, lgO em 0 none 0 0) :: T) := H6.as kr
    refine s_alloc H7 (some 6) 26 (lgV em 0 none 0 0) kr kr kr ?_
    intro bg w5 H8
    refine rp [.s 0, .v] H8 kr fun gs4 w6 H9 => ?_
    show WPs _ _ _ _ [] _ _
    refine s_nil ?_
    show WP _ _ _ _ _ _
    refine g_seq kr ?_
    refine rS [.v, .v] H9 kr fun gs5 w7 H10 => ?_
    refine g_cond_t kr kr ?_
    refine rS [.v, .v, .s 2, .v] H10 kr fun gs6 w8 H11 => ?_
    refine rRr [.cell 4 26, .tmp 5] [2] (.tuple #[lgV em 0 none 0 0, .int .i64 2]) (outT w.heap.size w (okLog (appendM s a A r))) H11 kr ?_
    refine ⟨[], ?_, H11.sub (List.nil_sublist _)⟩
    rw [show appendM s a A r = errL 2 by unfold appendM; rw [hB, if_neg (by decide)]]
    exact okLog_err 2
  · rw [hB] at hrow
    rw [hB]
    refine rp [.v, .v, .v] H5 kr fun gs3 w4 H6 => ?_
    show WPs _ _ _ _ [6, 7, 8] _ _
    have H7 : St w.heap.size w w4 (((gs1 0).b, lgO s a p n c) :: ((gs1 1).b, lgO em 0 none 0 0) :: T) := H6.as kr
    refine s_alloc H7 (some 6) 26 (lgV em 0 none 0 0) kr kr kr ?_
    intro bg w5 H8
    refine rp [.s 0, .v] H8 kr fun gs4 w6 H9 => ?_
    show WPs _ _ _ _ [] _ _
    refine s_nil ?_
    show WP _ _ _ _ _ _
    refine g_seq kr ?_
    refine rS [.v, .v] H9 kr fun gs5 w7 H10 => ?_
    refine g_cond_t kr kr ?_
    refine rS [.v, .v, .s 2, .v] H10 kr fun gs6 w8 H11 => ?_
    refine rRr [.cell 4 26, .tmp 5] [2] (.tuple #[lgV em 0 none 0 0, .int .i64 1]) (outT w.heap.size w (okLog (appendM s a A r))) H11 kr ?_
    refine ⟨[], ?_, H11.sub (List.nil_sublist _)⟩
    rw [show appendM s a A r = errL 1 by unfold appendM; rw [hB, if_neg (by decide)]]
    exact okLog_err 1
/-- What is opened. -/
def okOpen (s : ByteArray) (a : Int) (v : Value) (T : List (Nat × Obj)) : Prop := match rightM s a with
  | true => ∃ (rs : List ByteArray) (z : Nat), Sc (tl s) rs z ∧ okLog ⟨s.extract 0 z, ((z : Nat) : Int), rs, 0⟩ v T
  | false => okLog (errL 1) v T
set_option maxRecDepth 100000 in
set_option maxHeartbeats 4000000 in
theorem open_fn (s : ByteArray) (a : Int) : FnT Try.prog 11 #[dvV s a] (fun _ => True) (okOpen s a) := by
  refine FnT.intro (c := codeOf Try.f11) [.cell 2 26, .tmp 3] 28 Try.func11 kr kr kr fun w hP => ?_
  have H0 := St.start w
  refine rS [.b, .a, .v] H0 kr fun gs1 w1 H1 => ?_
  refine g_seq kr ?_
  cases hr : rightM s a with
  | false =>
    refine rS [.l 0, .c (right_fn s a), .e (v := .bool (!(rightM s a))) (v' := .bool true) (bool_eq (by rw [hr]; rfl))] H1 kr fun gs2 w2 H2 => ?_
    refine g_cond_t kr kr ?_
    refine rS [.v, .s 1, .v] H2 kr fun gs3 w3 H3 => ?_
    refine rRr [.cell 2 26, .tmp 3] [1] (.tuple #[lgV em 0 none 0 0, .int .i64 1]) (outT w.heap.size w (okOpen s a)) H3 kr ?_
    refine ⟨[], ?_, H3.sub (List.nil_sublist _)⟩
    unfold okOpen; rw [hr]; exact okLog_err 1
  | true =>
    obtain ⟨hz, ha0, ha1⟩ := rightM_iff.1 hr
    obtain ⟨k0, rfl⟩ : ∃ k0 : Nat, a = (k0 : Int) := ⟨a.toNat, by omega⟩
    refine rS [.l 0, .c (right_fn s ((k0 : Nat) : Int)), .e (v := .bool (!(rightM s ((k0 : Nat) : Int)))) (v' := .bool false) (bool_eq (by rw [hr]; rfl))] H1 kr fun gs2 w2 H2 => ?_
    refine g_cond_f kr kr ?_
    refine g_skip kr ?_
    show WP _ _ _ _ _ _
    refine g_sreg [0, 1, 2, 3, 4, 5, 6, 7] kr kr ?_
    refine rp [.v, .l 0] H2 kr fun gs3 w3 H3 => ?_
    show WPs _ _ _ _ [2, 3, 4, 5, 6, 7] _ _
    have H4 : St w.heap.size w w3 [((gs1 0).b, dvO s ((k0 : Nat) : Int)), ((gs1 1).b, lgO em 0 none 0 0)] := H3.as kr
    refine s_callFT H4 (some 15) 31 #[.string s] (scanT_fn s (by omega)) trivial kr kr ?_
    rintro _ T w4 ⟨rs, z, q, m, k, hsc, hrow, rfl⟩ H5
    have H6 : St w.heap.size w w4 (((gs1 0).b, dvO s ((k0 : Nat) : Int)) :: ((gs1 1).b, lgO em 0 none 0 0) :: T) := H5.perm (List.perm_append_comm (l₁ := [((gs1 0).b, dvO s ((k0 : Nat) : Int)), ((gs1 1).b, lgO em 0 none 0 0)]) (l₂ := T))
    have hsl := sc_len hsc
    refine rp [.v, .v, .v, .v, .v] H6 kr fun gs4 w5 H7 => ?_
    show WPs _ _ _ _ [] _ _
    refine s_nil ?_
    show WP _ _ _ _ _ _
    have hx : (s.extract 0 z).size = z := by rw [ByteArray.size_extract]; omega
    refine g_sreg [0, 1, 2, 3, 4, 5, 6, 7, 8] kr kr ?_
    refine rp [.l 0, .v, .c (cut_ok s k0 z hz (by omega) hsl.2), .v, .v, .v] H7 kr fun gs5 w6 H8 => ?_
    show WPs _ _ _ _ [6, 7, 8] _ _
    have H9 : St w.heap.size w w6 (((gs1 0).b, dvO s ((k0 : Nat) : Int)) :: ((gs1 1).b, lgO em 0 none 0 0) :: T) := H8.as kr
    refine s_alloc H9 (some 6) 23 (dvV em 0) kr kr kr ?_
    intro bg w7 H10
    refine rp [.s 0, .v] H10 kr fun gs6 w8 H11 => ?_
    show WPs _ _ _ _ [] _ _
    refine s_nil ?_
    show WP _ _ _ _ _ _
    have hX : rightM (s.extract 0 z) ((min k0 z : Nat) : Int) = true := rightM_iff.2 ⟨by omega, by omega, by omega⟩
    have hsure := sure_fn (s.extract 0 z) ((min k0 z : Nat) : Int) q m k hX
    rw [hx] at hsure
    refine rS [.l 0, .v, .v, .c hsure, .s 2, .v] H11 kr fun gs7 w9 H12 => ?_
    refine rRr [.cell 2 26, .tmp 3] [2] (.tuple #[lgV (s.extract 0 z) ((z : Nat) : Int) q m k, .int .i64 0]) (outT w.heap.size w (okOpen s ((k0 : Nat) : Int))) H12 kr ?_
    have H13 : St w.heap.size w w9 ((bg, dvO (s.extract 0 z) ((min k0 z : Nat) : Int)) :: ((gs1 0).b, dvO s ((k0 : Nat) : Int)) :: ((gs1 1).b, lgO (s.extract 0 z) ((z : Nat) : Int) q m k) :: T) := H12.as kr
    refine ⟨T, ?_, H13.sub ((List.sublist_cons_self ..).trans ((List.sublist_cons_self ..).trans (List.sublist_cons_self ..)))⟩
    unfold okOpen; rw [hr]
    exact ⟨rs, z, hsc, q, m, k, hrow, rfl⟩
end Go.Proofs.Ythpiojejhellhaa

namespace Go.Proofs.Ythpiojejhellhaa
open Go Go.RowKit Go.Proofs.Crc
open D2 (Gh)
set_option linter.unusedVariables false
theorem flat_next {A : List ByteArray} {i : Nat} (hi : i < A.length) : strB (flat (A.take i)) ++ strB (frB (tl A[i])) = strB (flat (A.take (i + 1))) := by
  rw [← flat_snoc1, List.take_succ_eq_append_getElem hi]
theorem flat_next_len {A : List ByteArray} {i : Nat} (hi : i < A.length) : (flat (A.take (i + 1))).length = (flat (A.take i)).length + (A[i].size + 6) := by
  rw [List.take_succ_eq_append_getElem hi, flat_snoc, List.length_append, frB_len, tl_len]
set_option maxRecDepth 100000 in
set_option maxHeartbeats 4000000 in
theorem framesR_fn (p : Option Addr) (n c : Nat) (A : List ByteArray) (hn9 : n ≤ 1000) : FnP Try.prog 22 #[.slice p n c] (fun w => AtF sS w p n A) (.tuple #[.string (if A.all recB = true then strB (flat A) else em), .bool (A.all recB)]) := by
  refine FnP.intro (c := codeOf Try.f22) [.tmp 2, .tmp 3] 22 Try.func22 kr kr kr fun w hP => ?_
  obtain ⟨hA, hA2⟩ := hP
  have H0 := St.start w
  refine rS [.v, .v] H0 kr fun gs1 w1 H1 => ?_
  refine rS [.v] H1 kr fun gs2 w2 H2 => ?_
  refine g_seq kr ?_
  refine rS [.v, .v, .v] H2 kr fun gs3 w3 H3 => ?_
  refine g_block 0 kr ?_
  have H4 : St w.heap.size w w3 [] := H3.as kr
  clear H0 H1 H2 H3
  refine g_loop kr (fun mz ρ ww => ∃ (i : Nat), n - i = mz ∧ i ≤ n ∧ (∀ x ∈ A.take i, recB x = true) ∧ (flat (A.take i)).length ≤ 4006 * i ∧ St w.heap.size w ww [] ∧ Is [(4, .string (strB (flat (A.take i)))), (7, .slice p n c), (8, iN n), (9, iN i)] ρ) (n - 0) ⟨0, rfl, Nat.zero_le _, fun x h => by simp at h, Nat.le_refl _, H4, (Is.of ⟨kr, kr, kr, kr, trivial⟩)⟩ ?_
  clear H4
  rintro _ _ w4 ⟨i, rfl, him, hall, hsz, H5, _, rfl⟩
  by_cases hi : i < n
  · have hiA : i < A.length := by omega
    rcases hA2 with rfl | ⟨ba, oa, CA, TA, fa, rfl, hha, hRa⟩
    · exact absurd hiA (Nat.not_lt_zero _)
    have ca : CA[oa + i * 1]? = some (.string A[i]) := hRa.cell (List.getElem?_eq_getElem hiA) 0 (by decide)
    refine rS [.e (v := .bool (decide (((i : Nat) : Int) < ((n : Nat) : Int)))) (v' := .bool true) (bool_eq (decide_eq_true (by omega)))] H5 kr fun gs4 w5 H6 => ?_
    refine g_seq kr ?_
    refine g_cond_t kr kr ?_
    refine g_skip kr ?_
    show WP _ _ _ _ _ _
    refine g_seq kr ?_
    refine g_block 1 kr ?_
    refine rS [.o (ins := [((.tmp 7), .slice (some ⟨ba, oa, none⟩) n c), ((.tmp 9), iN i)]) (v := .pointer (some ⟨ba, oa + i * 1, none⟩)) (fun ρ o w ho hi2 => idxQ_run (kd := .i64) (t := 24) (e := 9) (K := 1) (bytes := 16) kr (x := (.tmp 7)) (y := (.tmp 9)) ba oa n c i rfl ho hi2.1 hi2.2.1 (by omega) w), .fs (off := oa + i * 1) (v := .string A[i]) hha (lt_of_heap hha) ca, .v] H6 kr fun gs5 w6 H7 => ?_
    refine g_seq kr ?_
    cases hr : recB A[i] with
    | true =>
      have hr2 := recB_iff.1 hr
      have hs1 : (strB (flat (A.take i))).size ≤ 4006 * i := by rw [strB_size]; exact hsz
      have hs2 : (strB (frB (tl A[i]))).size = A[i].size + 6 := by rw [strB_size, frB_len, tl_len]
      refine rS [.v, .c (isRec_fn A[i]), .e (v := .bool (!(recB A[i]))) (v' := .bool false) (bool_eq (by rw [hr]; rfl))] H7 kr fun gs6 w7 H8 => ?_
      refine g_cond_f kr kr ?_
      refine g_skip kr ?_
      show WP _ _ _ _ _ _
      refine rL [.v, .v, .c (frameR_fn A[i] hr2.2), .oe (ins := [((.tmp 16), .string (strB (flat (A.take i)))), ((.tmp 18), .string (strB (frB (tl A[i]))))]) (v := .string (strB (flat (A.take i)) ++ strB (frB (tl A[i])))) (v' := .string (strB (flat (A.take (i + 1))))) (fun ρ o w ho hi => sadd_run (t := 9) (t' := 9) (x := (.tmp 16)) (y := (.tmp 18)) (strB (flat (A.take i))) (strB (frB (tl A[i]))) w ho hi.1 hi.2.1 (by omega)) (congrArg Value.string (flat_next hiA)), .v] H8 kr fun gs7 w8 H9 => ?_
      show WP _ _ _ _ _ _
      refine rL [.e (v := .int .i64 (IntKind.i64.wrap (((i : Nat) : Int) + 1))) (v' := iN (i + 1)) (int_eq (wrapAdd_i64 (a := i) (b := 1) (by omega))), .v] H9 kr fun gs8 w9 H10 => ?_
      show ∃ m, _ ∧ _
      refine ⟨_, (by omega), i + 1, rfl, hi, fun x hx => ?_, by rw [flat_next_len hiA]; omega, H10.as kr, (Is.of ⟨kr, kr, kr, kr, trivial⟩)⟩
      rw [List.take_succ_eq_append_getElem hiA] at hx
      rcases List.mem_append.1 hx with h | h
      · exact hall x h
      · rw [List.mem_singleton.1 h]; exact hr
    | false =>
      have hno : A.all recB = false := by
        rw [List.all_eq_false]
        exact ⟨A[i], List.getElem_mem hiA, by rw [hr]; decide⟩
      refine rS [.v, .c (isRec_fn A[i]), .e (v := .bool (!(recB A[i]))) (v' := .bool true) (bool_eq (by rw [hr]; rfl))] H7 kr fun gs6 w7 H8 => ?_
      refine g_cond_t kr kr ?_
      refine rS [.v, .v] H8 kr fun gs7 w8 H9 => ?_
      exact rRe [.tmp 2, .tmp 3] [] (v := .tuple #[.string em, .bool false]) (v' := .tuple #[.string (if A.all recB = true then strB (flat A) else em), .bool (A.all recB)]) H9 (by rw [hno]; rfl) kr
  · obtain rfl : i = n := by omega
    have hall2 : A.all recB = true := by
      rw [hA, List.take_length] at hall
      exact List.all_eq_true.2 hall
    refine rS [.e (v := .bool (decide (((i : Nat) : Int) < ((i : Nat) : Int)))) (v' := .bool false) (bool_eq (decide_eq_false (by omega)))] H5 kr fun gs4 w5 H6 => ?_
    refine g_seq kr ?_
    refine g_cond_f kr kr ?_
    refine g_exit 0 kr ?_
    show WP _ _ _ _ _ _
    refine rS [.v, .v, .v] H6 kr fun gs5 w6 H7 => ?_
    exact rRe [.tmp 2, .tmp 3] [] (v := .tuple #[.string (strB (flat (A.take i))), .bool true]) (v' := .tuple #[.string (if A.all recB = true then strB (flat A) else em), .bool (A.all recB)]) H7 (by rw [if_pos hall2, hall2, hA, List.take_length]) kr
set_option maxRecDepth 100000 in
set_option maxHeartbeats 4000000 in
theorem rightLR_fn (s : ByteArray) (a : Int) (p : Option Addr) (n c : Nat) (A : List ByteArray) (hn9 : n ≤ 1000) : FnP Try.prog 13 #[lgV s a p n c] (fun w => AtF sS w p n A) (.bool (rightL s a A)) := by
  refine FnP.intro (c := codeOf Try.f13) [.tmp 2] 24 Try.func13 kr kr kr fun w hP => ?_
  have H0 := St.start w
  have hfr := framesR_fn p n c A hn9
  have hri := rightR_fn s a
  refine rS [.b, .v] H0 kr fun gs1 w1 H1 => ?_
  cases hall : A.all recB with
  | false =>
    rw [hall] at hfr
    have hL : rightL s a A = false := by unfold rightL; rw [hall]; rfl
    refine rS [.v, .l 0, .cp (pre := fun w => AtF sS w p n A) hfr [] (fun w' hb hd => hP.call hb), .v, .v, .v, .v, .v] H1 kr fun gs2 w2 H2 => ?_
    refine rS [.v, .v, .n, .n, .n, .v, .v, .n, .n, .n, .n, .n, .v, .v] H2 kr fun gs3 w3 H3 => ?_
    exact rRe [.tmp 2] [] (v := .bool false) (v' := .bool (rightL s a A)) H3 (by rw [hL]) kr
  | true =>
    rw [hall, if_pos rfl] at hfr
    refine rS [.v, .l 0, .cp (pre := fun w => AtF sS w p n A) hfr [] (fun w' hb hd => hP.call hb), .v, .v, .v, .v, .v] H1 kr fun gs2 w2 H2 => ?_
    cases hr : rightM s a with
    | false =>
      rw [hr] at hri
      have hL : rightL s a A = false := by unfold rightL; rw [hr]; simp
      refine rS [.v, .v, .v, .l 0, .c hri, .v, .v, .n, .n, .n, .n, .n, .v, .v] H2 kr fun gs3 w3 H3 => ?_
      exact rRe [.tmp 2] [] (v := .bool false) (v' := .bool (rightL s a A)) H3 (by rw [hL]) kr
    | true =>
      rw [hr] at hri
      have hL : rightL s a A = decide (strB (flat A) = s) := by unfold rightL; rw [hr, hall]; simp
      refine rS [.v, .v, .v, .l 0, .c hri, .v, .v, .v, .v, .v, .l 0, .e (v := .bool ((strB (flat A)).toList == s.toList)) (v' := .bool (decide (strB (flat A) = s))) (bool_eq (by
        by_cases h : strB (flat A) = s
        · rw [str_same _ _ h, decide_eq_true h]
        · rw [str_other _ _ h, decide_eq_false h])), .v, .v] H2 kr fun gs3 w3 H3 => ?_
      exact rRe [.tmp 2] [] (v := .bool (decide (strB (flat A) = s))) (v' := .bool (rightL s a A)) H3 (by rw [hL]) kr
theorem like_fn (s : ByteArray) (a : Int) (p q : Option Addr) (n c m k : Nat) (A : List ByteArray) (hn9 : n ≤ 1000000000) : FnP Try.prog 14 #[lgV s a p n c, lgV s a q m k] (fun w => AtF sS w p n A ∧ AtF sS w q m A) (.bool true) := by
  refine FnP.intro (c := codeOf Try.f14) [.tmp 4] 17 Try.func14 kr kr kr fun w hP => ?_
  have H0 := St.start w
  have hsame := same_fn p q n c m k A A hn9
  rw [decide_eq_true rfl] at hsame
  refine rS [.b, .b, .v] H0 kr fun gs1 w1 H1 => ?_
  refine rS [.v, .l 0, .v, .l 1, .o (ins := [((.tmp 6), dvV s a), ((.tmp 8), dvV s a)]) (v := .bool true) (fun ρ o w ho hi => dv_eql (x := (.tmp 6)) (y := (.tmp 8)) s a w ho hi.1 hi.2.1), .v, .v, .l 0, .v, .l 1, .cp (pre := fun w => AtF sS w p n A ∧ AtF sS w q m A) hsame [] (fun w' hb hd => ⟨hP.1.call hb, hP.2.call hb⟩), .v, .v] H1 kr fun gs2 w2 H2 => ?_
  exact rRe [.tmp 4] [] (v := .bool true) (v' := .bool true) H2 rfl kr
set_option maxRecDepth 100000 in
set_option maxHeartbeats 4000000 in
theorem openR_fn (s : ByteArray) (a : Int) (hs : s.size ≤ 1000000) : FnT Try.prog 18 #[dvV s a] (fun _ => True) (fun v T => ∃ (rs : List ByteArray) (z : Nat), Sc (tl s) rs z ∧ okLg (s.extract 0 z) ((z : Nat) : Int) rs v T) := by
  refine FnT.intro (c := codeOf Try.f18) [.cell 2 26] 19 Try.func18 kr kr kr fun w hP => ?_
  have H0 := St.start w
  refine rS [.b, .a] H0 kr fun gs1 w1 H1 => ?_
  refine g_sreg [0, 1, 2, 3, 4, 5, 6, 7] kr kr ?_
  refine rp [.v, .l 0] H1 kr fun gs3 w3 H3 => ?_
  show WPs _ _ _ _ [2, 3, 4, 5, 6, 7] _ _
  have H4 : St w.heap.size w w3 [((gs1 0).b, dvO s a), ((gs1 1).b, lgO em 0 none 0 0)] := H3.as kr
  refine s_callFT H4 (some 8) 33 #[.string s] (scanTR_fn s (by omega)) trivial kr kr ?_
  rintro _ T w4 ⟨rs, z, q, m, k, hsc, hrow, rfl⟩ H5
  have H6 : St w.heap.size w w4 (((gs1 0).b, dvO s a) :: ((gs1 1).b, lgO em 0 none 0 0) :: T) := H5.perm (List.perm_append_comm (l₁ := [((gs1 0).b, dvO s a), ((gs1 1).b, lgO em 0 none 0 0)]) (l₂ := T))
  have hsl := sc_len hsc
  refine rp [.v, .v, .v, .v, .v] H6 kr fun gs4 w5 H7 => ?_
  show WPs _ _ _ _ [] _ _
  refine s_nil ?_
  show WP _ _ _ _ _ _
  refine rS [.v, .l 0, .v, .o (ins := [((.tmp 12), .string s), ((.tmp 13), iN z)]) (v := .string (s.extract 0 z)) (fun ρ o w ho hi => scut_run (t := 9) (kd := .i64) kr (x := (.tmp 12)) (y := (.tmp 13)) s z ho hi.1 hi.2.1 hsl.2 w), .v, .v, .v, .v, .s 1] H7 kr fun gs5 w6 H8 => ?_
  refine rRr [.cell 2 26] [1] (lgV (s.extract 0 z) ((z : Nat) : Int) q m k) (outT w.heap.size w (fun v T => ∃ (rs : List ByteArray) (z : Nat), Sc (tl s) rs z ∧ okLg (s.extract 0 z) ((z : Nat) : Int) rs v T)) H8 kr ?_
  have H9 : St w.heap.size w w6 (((gs1 0).b, dvO s a) :: ((gs1 1).b, lgO (s.extract 0 z) ((z : Nat) : Int) q m k) :: T) := H8.as kr
  exact ⟨T, ⟨rs, z, hsc, q, m, k, hrow, rfl⟩, H9.sub ((List.sublist_cons_self ..).trans (List.sublist_cons_self ..))⟩
set_option maxRecDepth 100000 in
set_option maxHeartbeats 4000000 in
theorem beginR_fn (s : ByteArray) (a : Int) (p : Option Addr) (n c : Nat) (A : List ByteArray) (r : ByteArray) (hn9 : n ≤ 1000) (hp : SlOk p n c) : FnT Try.prog 8 #[lgV s a p n c, .string r] (fun w => AtF sS w p n A) (okLog (beginM s a A r)) := by
  refine FnT.intro (c := codeOf Try.f8) [.cell 4 26, .tmp 5] 51 Try.func8 kr kr kr fun w hP => ?_
  have H0 := St.start w
  have hri := rightLR_fn s a p n c A hn9
  have hrec := isRec_fn r
  refine rS [.b, .a, .v] H0 kr fun gs1 w1 H1 => ?_
  refine g_seq kr ?_
  cases hL : rightL s a A with
  | false =>
    rw [hL] at hri
    refine rS [.l 0, .cp (pre := fun w => AtF sS w p n A) hri [] (fun w' hb hd => hP.call hb), .v, .v, .n, .n, .n, .v] H1 kr fun gs2 w2 H2 => ?_
    refine g_cond_t kr kr ?_
    refine rS [.v, .s 1, .v] H2 kr fun gs3 w3 H3 => ?_
    refine rRr [.cell 4 26, .tmp 5] [1] (.tuple #[lgV em 0 none 0 0, .int .i64 1]) (outT w.heap.size w (okLog (beginM s a A r))) H3 kr ?_
    refine ⟨[], ?_, H3.sub (List.nil_sublist _)⟩
    rw [show beginM s a A r = errL 1 by unfold beginM; rw [hL, if_neg (by simp)]]
    exact okLog_err 1
  | true =>
    rw [hL] at hri
    cases hr : recB r with
    | false =>
      rw [hr] at hrec
      refine rS [.l 0, .cp (pre := fun w => AtF sS w p n A) hri [] (fun w' hb hd => hP.call hb), .v, .v, .v, .c hrec, .v, .v] H1 kr fun gs2 w2 H2 => ?_
      refine g_cond_t kr kr ?_
      refine rS [.v, .s 1, .v] H2 kr fun gs3 w3 H3 => ?_
      refine rRr [.cell 4 26, .tmp 5] [1] (.tuple #[lgV em 0 none 0 0, .int .i64 1]) (outT w.heap.size w (okLog (beginM s a A r))) H3 kr ?_
      refine ⟨[], ?_, H3.sub (List.nil_sublist _)⟩
      rw [show beginM s a A r = errL 1 by unfold beginM; rw [hr, if_neg (by simp)]]
      exact okLog_err 1
    | true =>
      rw [hr] at hrec
      obtain ⟨hz, ha0, ha1⟩ := rightM_iff.1 (rightL_iff.1 hL).2.1
      have hr2 := recB_iff.1 hr
      have hfz : (strB (frB (tl r))).size = r.size + 6 := by rw [strB_size, frB_len, tl_len]
      refine rS [.l 0, .cp (pre := fun w => AtF sS w p n A) hri [] (fun w' hb hd => hP.call hb), .v, .v, .v, .c hrec, .v, .v] H1 kr fun gs2 w2 H2 => ?_
      refine g_cond_f kr kr ?_
      refine g_skip kr ?_
      show WP _ _ _ _ _ _
      refine rS [.v, .c (frameR_fn r hr2.2), .v] H2 kr fun gs3 w3 H3 => ?_
      refine g_seq kr ?_
      by_cases hl : s.size + (r.size + 6) ≤ 200000
      · refine rS [.v, .v, .l 0, .v, .v, .e (v := iN (strB (frB (tl r))).size) (v' := iN (r.size + 6)) (by rw [hfz]), .e (v := .int .i64 (IntKind.i64.wrap (((s.size : Nat) : Int) + ((r.size + 6 : Nat) : Int)))) (v' := iN (s.size + (r.size + 6))) (int_eq (wrapAdd_i64 (by omega))), .e (v := .bool (decide (((s.size + (r.size + 6) : Nat) : Int) > 200000))) (v' := .bool false) (bool_eq (decide_eq_false (by omega)))] H3 kr fun gs4 w4 H4 => ?_
        refine g_cond_f kr kr ?_
        refine g_skip kr ?_
        show WP _ _ _ _ _ _
        obtain ⟨S, hS⟩ : ∃ S, s ++ strB (frB (tl r)) = S := ⟨_, rfl⟩
        refine rS [.v, .v, .l 0, .v, .oe (ins := [((.tmp 30), .string s), ((.tmp 31), .string (strB (frB (tl r))))]) (v := .string (s ++ strB (frB (tl r)))) (v' := .string S) (fun ρ o w ho hi => sadd_run (t := 9) (t' := 9) (x := (.tmp 30)) (y := (.tmp 31)) s (strB (frB (tl r))) w ho hi.1 hi.2.1 (by omega)) (congrArg Value.string hS), .v, .v, .l 0, .v, .v, .a, .s 2] H4 kr fun gs5 w5 H5 => ?_
        refine g_sreg [0, 1, 2, 3, 4, 5, 6] kr kr ?_
        refine rp [.v, .l 2, .v, .l 0] H5 kr fun gs6 w6 H6 => ?_
        show WPs _ _ _ _ [4, 5, 6] _ _
        have H7 : St w.heap.size w w6 [((gs1 0).b, lgO s a p n c), ((gs1 1).b, lgO em 0 none 0 0), ((gs5 10).b, lgO S a none 0 0)] := H6.as kr
        refine s_copyAny (S := sS) H7 (some 42) 24 9 16 (.tmp 39) (.tmp 41) (M := A) kr kr kr kr kr (hP.call H7.below) hp (by omega) (by unfold maxLen; omega) ?_
        intro q k row w7 hrow H8
        have H9 : St w.heap.size w w7 (((gs1 0).b, lgO s a p n c) :: ((gs1 1).b, lgO em 0 none 0 0) :: ((gs5 10).b, lgO S a none 0 0) :: row) := H8.perm (List.perm_append_comm (l₁ := [((gs1 0).b, lgO s a p n c), ((gs1 1).b, lgO em 0 none 0 0), ((gs5 10).b, lgO S a none 0 0)]) (l₂ := row))
        refine rp [.v, .s 2] H9 kr fun gs7 w8 H10 => ?_
        show WPs _ _ _ _ [] _ _
        refine s_nil ?_
        show WP _ _ _ _ _ _
        refine g_sreg [0, 1, 2, 3, 4, 5, 6] kr kr ?_
        refine rp [.v, .l 2, .v] H10 kr fun gs8 w9 H11 => ?_
        show WPs _ _ _ _ [3, 4, 5, 6] _ _
        have H12 : St w.heap.size w w9 (((gs1 0).b, lgO s a p n c) :: ((gs1 1).b, lgO em 0 none 0 0) :: ((gs5 10).b, lgO S a q n k) :: row) := H11.as kr
        refine s_newA H12 (some 47) (fun b => .slice (some ⟨b, 0, none⟩) 1 1) (sS.cs r).toArray 9 kr kr ?_
        intro nb w10 H13
        have H14 : St w.heap.size w w10 ((nb, .cells (sS.cs r).toArray 9 (0, 0)) :: (row ++ [((gs1 0).b, lgO s a p n c), ((gs1 1).b, lgO em 0 none 0 0), ((gs5 10).b, lgO S a q n k)])) := H13.perm (List.Perm.cons _ (List.perm_append_comm (l₁ := row) (l₂ := [((gs1 0).b, lgO s a p n c), ((gs1 1).b, lgO em 0 none 0 0), ((gs5 10).b, lgO S a q n k)])))
        refine s_growA (S := sS) (M := A) (y := r) (some 48) 24 9 16 (.tmp 45) (.tmp 47) H14 hrow kr kr kr kr kr (by omega) (by unfold maxLen; omega) ?_
        intro b' cap' cur' w11 H15 hr'
        refine rp [.v, .s 3] H15 kr fun gs9 w12 H16 => ?_
        show WPs _ _ _ _ [] _ _
        refine s_nil ?_
        show WP _ _ _ _ _ _
        refine rS [.l 3, .s 2, .v] H16 kr fun gs10 w13 H17 => ?_
        refine rRr [.cell 4 26, .tmp 5] [2] (.tuple #[lgV S a (some ⟨b', 0, none⟩) (n + 1) cap', .int .i64 0]) (outT w.heap.size w (okLog (beginM s a A r))) H17 kr ?_
        have H18 : St w.heap.size w w13 [(b', .cells cur' 9 (0, 0)), ((gs1 0).b, lgO s a p n c), ((gs1 1).b, lgO S a (some ⟨b', 0, none⟩) (n + 1) cap'), ((gs5 10).b, lgO S a (some ⟨b', 0, none⟩) (n + 1) cap')] := H17.as kr
        refine ⟨[(b', .cells cur' 9 (0, 0))], ?_, H18.sub (List.Sublist.cons_cons _ (List.nil_sublist _))⟩
        rw [show beginM s a A r = ⟨S, a, A ++ [r], 0⟩ by unfold beginM; rw [if_pos ⟨hr, hL⟩, if_pos hl, hS]]
        exact ⟨_, _, _, .inr ⟨_, _, rfl, rfl, hr'⟩, rfl⟩
      · refine rS [.v, .v, .l 0, .v, .v, .e (v := iN (strB (frB (tl r))).size) (v' := iN (r.size + 6)) (by rw [hfz]), .e (v := .int .i64 (IntKind.i64.wrap (((s.size : Nat) : Int) + ((r.size + 6 : Nat) : Int)))) (v' := iN (s.size + (r.size + 6))) (int_eq (wrapAdd_i64 (by omega))), .e (v := .bool (decide (((s.size + (r.size + 6) : Nat) : Int) > 200000))) (v' := .bool true) (bool_eq (decide_eq_true (by omega)))] H3 kr fun gs4 w4 H4 => ?_
        refine g_cond_t kr kr ?_
        refine rS [.v, .s 1, .v] H4 kr fun gs5 w5 H5 => ?_
        refine rRr [.cell 4 26, .tmp 5] [1] (.tuple #[lgV em 0 none 0 0, .int .i64 2]) (outT w.heap.size w (okLog (beginM s a A r))) H5 kr ?_
        refine ⟨[], ?_, H5.sub (List.nil_sublist _)⟩
        rw [show beginM s a A r = errL 2 by unfold beginM; rw [if_pos ⟨hr, hL⟩, if_neg hl]]
        exact okLog_err 2
set_option maxRecDepth 100000 in
set_option maxHeartbeats 4000000 in
theorem appendR_fn (s : ByteArray) (a : Int) (p : Option Addr) (n c : Nat) (A : List ByteArray) (r : ByteArray) (hn9 : n ≤ 1000) (hp : SlOk p n c) : FnT Try.prog 10 #[lgV s a p n c, .string r] (fun w => AtF sS w p n A) (okLog (appendM s a A r)) := by
  refine FnT.intro (c := codeOf Try.f10) [.cell 4 26, .tmp 5] 29 Try.func10 kr kr kr fun w hP => ?_
  have H0 := St.start w
  refine rS [.b, .a, .v] H0 kr fun gs1 w1 H1 => ?_
  refine g_sreg [0, 1, 2, 3, 4, 5, 6, 7, 8] kr kr ?_
  refine rp [.l 0, .v] H1 kr fun gs2 w2 H2 => ?_
  show WPs _ _ _ _ [2, 3, 4, 5, 6, 7, 8] _ _
  have H3 : St w.heap.size w w2 [((gs1 0).b, lgO s a p n c), ((gs1 1).b, lgO em 0 none 0 0)] := H2.as kr
  refine s_callFT H3 (some 11) 8 #[lgV s a p n c, .string r] (beginR_fn s a p n c A r hn9 hp) (hP.call H3.below) kr kr ?_
  rintro _ T w3 ⟨q, m, k, hrow, rfl⟩ H4
  have H5 : St w.heap.size w w3 (((gs1 0).b, lgO s a p n c) :: ((gs1 1).b, lgO em 0 none 0 0) :: T) := H4.perm (List.perm_append_comm (l₁ := [((gs1 0).b, lgO s a p n c), ((gs1 1).b, lgO em 0 none 0 0)]) (l₂ := T))
  rcases begin_e (s := s) (a := a) (A := A) (r := r) with ⟨_, hB, h1, h2, h3⟩ | ⟨hB, _⟩ | ⟨hB, _⟩
  · rw [hB] at hrow
    rw [hB]
    generalize hS : s ++ strB (frB (tl r)) = S at *
    refine rp [.v, .v, .v] H5 kr fun gs3 w4 H6 => ?_
    show WPs _ _ _ _ [6, 7, 8] _ _
    have H7 : St w.heap.size w w4 (((gs1 0).b, lgO s a p n c) :: ((gs1 1).b, lgO em 0 none 0 0) :: T) := H6.as kr
    refine s_alloc H7 (some 6) 26 (lgV em 0 none 0 0) kr kr kr ?_
    intro bg w5 H8
    refine rp [.s 0, .v] H8 kr fun gs4 w6 H9 => ?_
    show WPs _ _ _ _ [] _ _
    refine s_nil ?_
    show WP _ _ _ _ _ _
    refine g_seq kr ?_
    refine rS [.v, .v] H9 kr fun gs5 w7 H10 => ?_
    refine g_cond_f kr kr ?_
    refine g_skip kr ?_
    show WP _ _ _ _ _ _
    refine rS [.v, .v, .l 0, .v, .v, .l 0, .v, .v, .v, .l 0, .v, .s 2, .v] H10 kr fun gs6 w8 H11 => ?_
    refine rRr [.cell 4 26, .tmp 5] [2] (.tuple #[lgV S ((S.size : Nat) : Int) q m k, .int .i64 0]) (outT w.heap.size w (okLog (appendM s a A r))) H11 kr ?_
    have H12 : St w.heap.size w w8 ((bg, lgO S a q m k) :: ((gs1 0).b, lgO s a p n c) :: ((gs1 1).b, lgO S ((S.size : Nat) : Int) q m k) :: T) := H11.as kr
    refine ⟨T, ?_, H12.sub ((List.sublist_cons_self ..).trans ((List.sublist_cons_self ..).trans (List.sublist_cons_self ..)))⟩
    rw [show appendM s a A r = ⟨S, ((S.size : Nat) : Int), A ++ [r], 0⟩ by unfold appendM; rw [hB, if_pos rfl]]
    exact ⟨q, m, k, hrow, rfl⟩
  · rw [hB] at hrow
    rw [hB]
    refine rp [.v, .v, .v] H5 kr fun gs3 w4 H6 => ?_
    show WPs _ _ _ _ [6, 7, 8] _ _
    have H7 : St w.heap.size w w4 (((gs1 0).b, lgO s a p n c) :: ((gs1 1).b, lgO em 0 none 0 0) :: T) := H6.as kr
    refine s_alloc H7 (some 6) 26 (lgV em 0 none 0 0) kr kr kr ?_
    intro bg w5 H8
    refine rp [.s 0, .v] H8 kr fun gs4 w6 H9 => ?_
    show WPs _ _ _ _ [] _ _
    refine s_nil ?_
    show WP _ _ _ _ _ _
    refine g_seq kr ?_
    refine rS [.v, .v] H9 kr fun gs5 w7 H10 => ?_
    refine g_cond_t kr kr ?_
    refine rS [.l 0, .v, .s 2, .v] H10 kr fun gs6 w8 H11 => ?_
    refine rRr [.cell 4 26, .tmp 5] [2] (.tuple #[lgV em 0 q m k, .int .i64 2]) (outT w.heap.size w (okLog (appendM s a A r))) H11 kr ?_
    have H12 : St w.heap.size w w8 ((bg, lgO em 0 q m k) :: ((gs1 0).b, lgO s a p n c) :: ((gs1 1).b, lgO em 0 q m k) :: T) := H11.as kr
    refine ⟨T, ?_, H12.sub ((List.sublist_cons_self ..).trans ((List.sublist_cons_self ..).trans (List.sublist_cons_self ..)))⟩
    rw [show appendM s a A r = errL 2 by unfold appendM; rw [hB, if_neg (by decide)]]
    exact ⟨q, m, k, hrow, rfl⟩
  · rw [hB] at hrow
    rw [hB]
    refine rp [.v, .v, .v] H5 kr fun gs3 w4 H6 => ?_
    show WPs _ _ _ _ [6, 7, 8] _ _
    have H7 : St w.heap.size w w4 (((gs1 0).b, lgO s a p n c) :: ((gs1 1).b, lgO em 0 none 0 0) :: T) := H6.as kr
    refine s_alloc H7 (some 6) 26 (lgV em 0 none 0 0) kr kr kr ?_
    intro bg w5 H8
    refine rp [.s 0, .v] H8 kr fun gs4 w6 H9 => ?_
    show WPs _ _ _ _ [] _ _
    refine s_nil ?_
    show WP _ _ _ _ _ _
    refine g_seq kr ?_
    refine rS [.v, .v] H9 kr fun gs5 w7 H10 => ?_
    refine g_cond_t kr kr ?_
    refine rS [.l 0, .v, .s 2, .v] H10 kr fun gs6 w8 H11 => ?_
    refine rRr [.cell 4 26, .tmp 5] [2] (.tuple #[lgV em 0 q m k, .int .i64 1]) (outT w.heap.size w (okLog (appendM s a A r))) H11 kr ?_
    have H12 : St w.heap.size w w8 ((bg, lgO em 0 q m k) :: ((gs1 0).b, lgO s a p n c) :: ((gs1 1).b, lgO em 0 q m k) :: T) := H11.as kr
    refine ⟨T, ?_, H12.sub ((List.sublist_cons_self ..).trans ((List.sublist_cons_self ..).trans (List.sublist_cons_self ..)))⟩
    rw [show appendM s a A r = errL 1 by unfold appendM; rw [hB, if_neg (by decide)]]
    exact ⟨q, m, k, hrow, rfl⟩
end Go.Proofs.Ythpiojejhellhaa

namespace Go.Proofs.Ythpiojejhellhaa
open Go Go.RowKit Go.Proofs.Crc
open D2 (Gh)
set_option linter.unusedVariables false
set_option maxRecDepth 100000 in
set_option maxHeartbeats 4000000 in
theorem few_fn (s : ByteArray) (a : Int) (p : Option Addr) (n c : Nat) (hp : SlOk p n c) : Fn Try.prog 6 #[lgV s a p n c] (lgV (s.extract 0 (min s.size 6000)) a p (min n 60) c) := by
  refine Fn.intro (c := codeOf Try.f6) [.cell 2 26] 23 Try.func6 kr kr kr fun w => ?_
  have H0 := St.start w
  refine rS [.b, .a] H0 kr fun gs1 w1 H1 => ?_
  refine dS [.v, .v, .l 0, .v, .v, .l 0, .v, .e (v := .int .i64 (if (6000 : Int) < ((s.size : Nat) : Int) then (6000 : Int) else ((s.size : Nat) : Int))) (v' := iN (min s.size 6000)) (int_eq (by split <;> omega)), .o (ins := [((.tmp 5), .string s), ((.tmp 10), iN (min s.size 6000))]) (v := .string (s.extract 0 (min s.size 6000))) (fun ρ o w ho hi => scut_run (t := 9) (kd := .i64) kr (x := (.tmp 5)) (y := (.tmp 10)) s (min s.size 6000) ho hi.1 hi.2.1 (Nat.min_le_left _ _) w), .v, .l 0, .v, .l 0, .v, .e (v := .int .i64 (if (60 : Int) < ((n : Nat) : Int) then (60 : Int) else ((n : Nat) : Int))) (v' := iN (min n 60)) (int_eq (by split <;> omega)), .o (ins := [((.tmp 13), .slice p n c), ((.tmp 17), iN (min n 60))]) (v := .slice p (min n 60) c) (fun ρ o w ho hi => cutK_run (t := 24) (e := 9) (size := 1) (bytes := 16) (kd := .i64) kr (x := (.tmp 13)) (y := (.tmp 17)) hp (Nat.min_le_left _ _) ho hi.1 hi.2.1 w), .v, .v, .s 0, .v, .s 0] H1 kr fun w2 H2 => ?_
  refine rS [.l 0, .s 1] H2 kr fun gs3 w3 H3 => ?_
  exact rRe [.cell 2 26] [1] (v := lgV (s.extract 0 (min s.size 6000)) a p (min n 60) c) (v' := lgV (s.extract 0 (min s.size 6000)) a p (min n 60) c) H3 rfl kr
abbrev oneA : ByteArray := ⟨#[97]⟩
theorem right_em : rightL em 0 [] = true := by decide
theorem append_a : appendM em 0 [] oneA = ⟨strB (frB (tl oneA)), (((strB (frB (tl oneA))).size : Nat) : Int), [oneA], 0⟩ := by
  have h : beginM em 0 [] oneA = ⟨em ++ strB (frB (tl oneA)), 0, [] ++ [oneA], 0⟩ := by
    unfold beginM
    rw [if_pos ⟨by decide, right_em⟩, if_pos (by decide)]
  have e : em ++ strB (frB (tl oneA)) = strB (frB (tl oneA)) := by
    apply tl_inj
    rw [tl_add]; rfl
  unfold appendM
  rw [h, if_pos rfl, e]; rfl
set_option maxRecDepth 100000 in
set_option maxHeartbeats 4000000 in
theorem aliveW_fn : Fn Try.prog 16 #[] (.bool true) := by
  refine Fn.intro (c := codeOf Try.f16) [.tmp 0] 39 Try.func16 kr kr kr fun w => ?_
  have H0 := St.start w
  refine rS [.v] H0 kr fun gs1 w1 H1 => ?_
  refine g_sreg [0, 1, 2, 3, 4, 5, 6, 7] kr kr ?_
  refine rp [.c new_fn] H1 kr fun gs101 v1 K1 => ?_
  show WPs _ _ _ _ [1, 2, 3, 4, 5, 6, 7] _ _
  have K2 : St w.heap.size w v1 ([]) := K1.as kr
  refine s_callFT K2 (some 5) 9 #[lgV em 0 none 0 0, .string oneA] (append_fn em 0 none 0 0 [] oneA) ⟨rfl, .inl rfl⟩ kr kr ?_
  rintro _ T v2 ⟨q, m, k, hrow, rfl⟩ K3
  have K4 : St w.heap.size w v2 ((T ++ [])) := K3.perm (List.perm_append_comm_assoc [] T [])
  rw [append_a] at hrow
  rw [append_a]
  obtain ⟨S, hS⟩ : ∃ S, strB (frB (tl oneA)) = S := ⟨_, rfl⟩
  have hsz : S.size = 7 := by rw [← hS, strB_size, frB_len]; rfl
  rw [hS]
  rw [hS] at hrow
  rcases hrow with ⟨_, _, _, _, h0⟩ | ⟨bq, cur, rfl, rfl, hrw⟩
  · cases h0
  obtain rfl : 1 = m := hrw.lenF
  have hc : cur[0 + 0 * 1]? = some (.string oneA) := hrw.rowAt.cell (i := 0) rfl 0 (by decide)
  refine rp [.v, .v, .v] K4 kr fun gs102 v3 K5 => ?_
  show WPs _ _ _ _ [5, 6, 7] _ _
  have K6 : St w.heap.size w v3 ([(bq, .cells cur 9 (0, 0))]) := K5.as kr
  refine s_alloc K6 (some 1) 26 (lgV em 0 none 0 0) kr kr kr ?_
  intro bg v4 K7
  refine rp [.s 0, .v] K7 kr fun gs103 v5 K8 => ?_
  show WPs _ _ _ _ [] _ _
  refine s_nil ?_
  show WP _ _ _ _ _ _
  refine rS [.v, .v, .v, .v, .l 0, .v, .v, .v, .v, .v, .l 0, .o (ins := [((.tmp 18), .slice (some ⟨bq, 0, none⟩) 1 k), ((.const (.int .i64 0)), .int .i64 0)]) (v := .pointer (some ⟨bq, 0 + 0 * 1, none⟩)) (fun ρ o w ho hi2 => idxQ_run (kd := .i64) (t := 24) (e := 9) (K := 1) (bytes := 16) kr (x := (.tmp 18)) (y := (.const (.int .i64 0))) bq 0 1 k 0 rfl ho hi2.1 hi2.2.1 (by decide) w), .ls 1 (C := cur) (off := 0 + 0 * 1) (v := .string oneA) hc, .v, .v, .v, .v, .v, .l 0, .v, .v, .l 0, .v, .e (v := .bool (((S.size : Nat) : Int) == ((S.size : Nat) : Int))) (v' := .bool true) (bool_eq (beq_self_eq_true _)), .v, .v, .v, .v, .l 0, .e (v := .bool (decide (((S.size : Nat) : Int) > 0))) (v' := .bool true) (bool_eq (decide_eq_true (by omega))), .v, .v] K8 kr fun gs104 v6 K9 => ?_
  exact rRe [.tmp 0] [] (v := .bool true) (v' := .bool true) K9 rfl kr
end Go.Proofs.Ythpiojejhellhaa

namespace Go.Proofs.Ythpiojejhellhaa
open Go Go.RowKit Go.Proofs.Crc
open D2 (Gh)
set_option linter.unusedVariables false
theorem begin_len {S : ByteArray} {a : Int} {A : List ByteArray} {U : ByteArray} {n : Nat} (hn : n ≤ 60) (hA : n = A.length) : (beginM S a A U).A.length ≤ 61 := by
  rcases begin_e (s := S) (a := a) (A := A) (r := U) with ⟨_, h, _⟩ | ⟨h, _⟩ | ⟨h, _⟩
  · rw [h]; show (A ++ [U]).length ≤ 61; rw [List.length_append, List.length_singleton]; omega
  · rw [h]; exact Nat.zero_le _
  · rw [h]; exact Nat.zero_le _
theorem append_len {S : ByteArray} {a : Int} {A : List ByteArray} {U : ByteArray} {n : Nat} (hn : n ≤ 60) (hA : n = A.length) : (appendM S a A U).A.length ≤ 61 := by
  have h := begin_len (S := S) (a := a) (U := U) hn hA
  unfold appendM
  split
  · exact h
  · exact h
set_option maxRecDepth 100000 in
set_option maxHeartbeats 8000000 in
theorem walCalls_v (s : ByteArray) (a : Int) (p : Option Addr) (n c : Nat) (A : List ByteArray) (hp : SlOk p n c) (r : ByteArray) (d : ByteArray) (k : Int) : FnP Try.prog 3 #[lgV s a p n c, .string r, dvV d k] (fun w => AtF sS w p n A) (.bool true) := by
  refine FnP.intro (c := codeOf Try.f3) [.tmp 6] 116 Try.func3 kr kr kr fun w hP => ?_
  have H0 := St.start w
  refine rS [.b, .b, .v] H0 kr fun gs1 w1 H1 => ?_
  obtain ⟨S, hS⟩ : ∃ S, s.extract 0 (min s.size 6000) = S := ⟨_, rfl⟩
  obtain ⟨U, hU⟩ : ∃ U, r.extract 0 (min r.size 4100) = U := ⟨_, rfl⟩
  obtain ⟨D, hD⟩ : ∃ D, d.extract 0 (min d.size 6000) = D := ⟨_, rfl⟩
  obtain ⟨n', hn⟩ : ∃ n', min n 60 = n' := ⟨_, rfl⟩
  obtain ⟨A', hA⟩ : ∃ A', A.take n' = A' := ⟨_, rfl⟩
  have hp2 : SlOk p n' c := by rw [← hn]; exact hp.cut (Nat.min_le_left _ _)
  have hP2 : AtF sS w p n' A' := by rw [← hA]; exact hP.take n' (by rw [← hn]; exact Nat.min_le_left _ _)
  have hn60 : n' ≤ 60 := by omega
  have hlenA := hP2.1
  have zD : D.size ≤ 6000 := by rw [← hD, ByteArray.size_extract]; omega
  have hfew := few_fn s a p n c hp
  rw [hS, hn] at hfew
  have cB1 := begin_fn S a p n' c A' U
  have cB2 := beginR_fn S a p n' c A' U (by omega) hp2
  have cG1 := append_fn S a p n' c A' U
  have cG2 := appendR_fn S a p n' c A' U (by omega) hp2
  obtain ⟨B, hB⟩ : ∃ B, beginM S a A' U = B := ⟨_, rfl⟩
  obtain ⟨G, hG⟩ : ∃ G, appendM S a A' U = G := ⟨_, rfl⟩
  rw [hB] at cB1 cB2
  rw [hG] at cG1 cG2
  refine dS [.l 0, .c hfew, .v, .v, .v, .e (v := .int .i64 (if (4100 : Int) < ((r.size : Nat) : Int) then (4100 : Int) else ((r.size : Nat) : Int))) (v' := iN (min r.size 4100)) (int_eq (by split <;> omega)), .oe (ins := [((.tmp 19), .string r), ((.tmp 22), iN (min r.size 4100))]) (v := .string (r.extract 0 (min r.size 4100))) (v' := .string U) (fun ρ o w ho hi => scut_run (t := 9) (kd := .i64) kr (x := (.tmp 19)) (y := (.tmp 22)) r (min r.size 4100) ho hi.1 hi.2.1 (Nat.min_le_left _ _) w) (congrArg Value.string hU), .s 0, .v] H1 kr fun w2 H2 => ?_
  refine rS [.v, .l 1, .v, .l 1, .v, .e (v := .int .i64 (if (6000 : Int) < ((d.size : Nat) : Int) then (6000 : Int) else ((d.size : Nat) : Int))) (v' := iN (min d.size 6000)) (int_eq (by split <;> omega)), .oe (ins := [((.tmp 25), .string d), ((.tmp 29), iN (min d.size 6000))]) (v := .string (d.extract 0 (min d.size 6000))) (v' := .string D) (fun ρ o w ho hi => scut_run (t := 9) (kd := .i64) kr (x := (.tmp 25)) (y := (.tmp 29)) d (min d.size 6000) ho hi.1 hi.2.1 (Nat.min_le_left _ _) w) (congrArg Value.string hD), .v, .s 1] H2 kr fun gs3 w3 H3 => ?_
  refine g_sreg [0, 1, 2, 3, 4, 5, 6, 7, 8] kr kr ?_
  refine rp [.l 0, .v] H3 kr fun gs101 v1 K1 => ?_
  show WPs _ _ _ _ [2, 3, 4, 5, 6, 7, 8] _ _
  have K2 : St w.heap.size w v1 (((gs1 0).b, lgO S a p n' c) :: ((gs1 1).b, dvO D k) :: []) := K1.as kr
  refine s_callFT K2 (some 35) 7 #[lgV S a p n' c, .string U] (cB1) (hP2.call K2.below) kr kr ?_
  rintro _ T1 v2 ⟨q1, m1, k1, hrow1, rfl⟩ K3
  have K4 : St w.heap.size w v2 (((gs1 0).b, lgO S a p n' c) :: ((gs1 1).b, dvO D k) :: (T1 ++ [])) := K3.perm (List.perm_append_comm_assoc [((gs1 0).b, lgO S a p n' c), ((gs1 1).b, dvO D k)] T1 [])
  refine rp [.v, .v, .v] K4 kr fun gs102 v3 K5 => ?_
  show WPs _ _ _ _ [6, 7, 8] _ _
  have K6 : St w.heap.size w v3 (((gs1 0).b, lgO S a p n' c) :: ((gs1 1).b, dvO D k) :: (T1 ++ [])) := K5.as kr
  refine s_alloc K6 (some 7) 26 (lgV em 0 none 0 0) kr kr kr ?_
  intro b7 v4 K7
  refine rp [.s 0, .v] K7 kr fun gs103 v5 K8 => ?_
  show WPs _ _ _ _ [] _ _
  refine s_nil ?_
  show WP _ _ _ _ _ _
  refine g_sreg [0, 1, 2, 3, 4, 5, 6, 7, 8] kr kr ?_
  refine rp [.l 1, .v] K8 kr fun gs104 v6 K9 => ?_
  show WPs _ _ _ _ [2, 3, 4, 5, 6, 7, 8] _ _
  have K10 : St w.heap.size w v6 ((b7, lgO B.s B.a q1 m1 k1) :: ((gs1 0).b, lgO S a p n' c) :: ((gs1 1).b, dvO D k) :: (T1 ++ [])) := K9.as kr
  refine s_callFT K10 (some 41) 8 #[lgV S a p n' c, .string U] (cB2) (hP2.call K10.below) kr kr ?_
  rintro _ T2 v7 ⟨q2, m2, k2, hrow2, rfl⟩ K11
  have K12 : St w.heap.size w v7 ((b7, lgO B.s B.a q1 m1 k1) :: ((gs1 0).b, lgO S a p n' c) :: ((gs1 1).b, dvO D k) :: (T2 ++ (T1 ++ []))) := K11.perm (List.perm_append_comm_assoc [(b7, lgO B.s B.a q1 m1 k1), ((gs1 0).b, lgO S a p n' c), ((gs1 1).b, dvO D k)] T2 (T1 ++ []))
  refine rp [.v, .v, .v] K12 kr fun gs105 v8 K13 => ?_
  show WPs _ _ _ _ [6, 7, 8] _ _
  have K14 : St w.heap.size w v8 ((b7, lgO B.s B.a q1 m1 k1) :: ((gs1 0).b, lgO S a p n' c) :: ((gs1 1).b, dvO D k) :: (T2 ++ (T1 ++ []))) := K13.as kr
  refine s_alloc K14 (some 9) 26 (lgV em 0 none 0 0) kr kr kr ?_
  intro b9 v9 K15
  refine rp [.s 0, .v] K15 kr fun gs106 v10 K16 => ?_
  show WPs _ _ _ _ [] _ _
  refine s_nil ?_
  show WP _ _ _ _ _ _
  refine g_sreg [0, 1, 2, 3, 4, 5, 6, 7, 8] kr kr ?_
  refine rp [.l 2, .v] K16 kr fun gs107 v11 K17 => ?_
  show WPs _ _ _ _ [2, 3, 4, 5, 6, 7, 8] _ _
  have K18 : St w.heap.size w v11 ((b9, lgO B.s B.a q2 m2 k2) :: (b7, lgO B.s B.a q1 m1 k1) :: ((gs1 0).b, lgO S a p n' c) :: ((gs1 1).b, dvO D k) :: (T2 ++ (T1 ++ []))) := K17.as kr
  refine s_callFT K18 (some 47) 9 #[lgV S a p n' c, .string U] (cG1) (hP2.call K18.below) kr kr ?_
  rintro _ T3 v12 ⟨q3, m3, k3, hrow3, rfl⟩ K19
  have K20 : St w.heap.size w v12 ((b9, lgO B.s B.a q2 m2 k2) :: (b7, lgO B.s B.a q1 m1 k1) :: ((gs1 0).b, lgO S a p n' c) :: ((gs1 1).b, dvO D k) :: (T3 ++ (T2 ++ (T1 ++ [])))) := K19.perm (List.perm_append_comm_assoc [(b9, lgO B.s B.a q2 m2 k2), (b7, lgO B.s B.a q1 m1 k1), ((gs1 0).b, lgO S a p n' c), ((gs1 1).b, dvO D k)] T3 (T2 ++ (T1 ++ [])))
  refine rp [.v, .v, .v] K20 kr fun gs108 v13 K21 => ?_
  show WPs _ _ _ _ [6, 7, 8] _ _
  have K22 : St w.heap.size w v13 ((b9, lgO B.s B.a q2 m2 k2) :: (b7, lgO B.s B.a q1 m1 k1) :: ((gs1 0).b, lgO S a p n' c) :: ((gs1 1).b, dvO D k) :: (T3 ++ (T2 ++ (T1 ++ [])))) := K21.as kr
  refine s_alloc K22 (some 11) 26 (lgV em 0 none 0 0) kr kr kr ?_
  intro b11 v14 K23
  refine rp [.s 0, .v] K23 kr fun gs109 v15 K24 => ?_
  show WPs _ _ _ _ [] _ _
  refine s_nil ?_
  show WP _ _ _ _ _ _
  refine g_sreg [0, 1, 2, 3, 4, 5, 6, 7, 8] kr kr ?_
  refine rp [.l 3, .v] K24 kr fun gs110 v16 K25 => ?_
  show WPs _ _ _ _ [2, 3, 4, 5, 6, 7, 8] _ _
  have K26 : St w.heap.size w v16 ((b11, lgO G.s G.a q3 m3 k3) :: (b9, lgO B.s B.a q2 m2 k2) :: (b7, lgO B.s B.a q1 m1 k1) :: ((gs1 0).b, lgO S a p n' c) :: ((gs1 1).b, dvO D k) :: (T3 ++ (T2 ++ (T1 ++ [])))) := K25.as kr
  refine s_callFT K26 (some 53) 10 #[lgV S a p n' c, .string U] (cG2) (hP2.call K26.below) kr kr ?_
  rintro _ T4 v17 ⟨q4, m4, k4, hrow4, rfl⟩ K27
  have K28 : St w.heap.size w v17 ((b11, lgO G.s G.a q3 m3 k3) :: (b9, lgO B.s B.a q2 m2 k2) :: (b7, lgO B.s B.a q1 m1 k1) :: ((gs1 0).b, lgO S a p n' c) :: ((gs1 1).b, dvO D k) :: (T4 ++ (T3 ++ (T2 ++ (T1 ++ []))))) := K27.perm (List.perm_append_comm_assoc [(b11, lgO G.s G.a q3 m3 k3), (b9, lgO B.s B.a q2 m2 k2), (b7, lgO B.s B.a q1 m1 k1), ((gs1 0).b, lgO S a p n' c), ((gs1 1).b, dvO D k)] T4 (T3 ++ (T2 ++ (T1 ++ []))))
  refine rp [.v, .v, .v] K28 kr fun gs111 v18 K29 => ?_
  show WPs _ _ _ _ [6, 7, 8] _ _
  have K30 : St w.heap.size w v18 ((b11, lgO G.s G.a q3 m3 k3) :: (b9, lgO B.s B.a q2 m2 k2) :: (b7, lgO B.s B.a q1 m1 k1) :: ((gs1 0).b, lgO S a p n' c) :: ((gs1 1).b, dvO D k) :: (T4 ++ (T3 ++ (T2 ++ (T1 ++ []))))) := K29.as kr
  refine s_alloc K30 (some 13) 26 (lgV em 0 none 0 0) kr kr kr ?_
  intro b13 v19 K31
  refine rp [.s 0, .v] K31 kr fun gs112 v20 K32 => ?_
  show WPs _ _ _ _ [] _ _
  refine s_nil ?_
  show WP _ _ _ _ _ _
  refine g_sreg [0, 1, 2, 3, 4, 5, 6, 7] kr kr ?_
  refine rp [.l 5] K32 kr fun gs113 v21 K33 => ?_
  show WPs _ _ _ _ [1, 2, 3, 4, 5, 6, 7] _ _
  have K34 : St w.heap.size w v21 ((b13, lgO G.s G.a q4 m4 k4) :: (b11, lgO G.s G.a q3 m3 k3) :: (b9, lgO B.s B.a q2 m2 k2) :: (b7, lgO B.s B.a q1 m1 k1) :: ((gs1 0).b, lgO S a p n' c) :: ((gs1 1).b, dvO D k) :: (T4 ++ (T3 ++ (T2 ++ (T1 ++ []))))) := K33.as kr
  refine s_callFT K34 (some 58) 11 #[dvV D k] (open_fn D k) trivial kr kr ?_
  rintro v T5 v22 hop K35
  have K36 : St w.heap.size w v22 ((b13, lgO G.s G.a q4 m4 k4) :: (b11, lgO G.s G.a q3 m3 k3) :: (b9, lgO B.s B.a q2 m2 k2) :: (b7, lgO B.s B.a q1 m1 k1) :: ((gs1 0).b, lgO S a p n' c) :: ((gs1 1).b, dvO D k) :: (T5 ++ (T4 ++ (T3 ++ (T2 ++ (T1 ++ [])))))) := K35.perm (List.perm_append_comm_assoc [(b13, lgO G.s G.a q4 m4 k4), (b11, lgO G.s G.a q3 m3 k3), (b9, lgO B.s B.a q2 m2 k2), (b7, lgO B.s B.a q1 m1 k1), ((gs1 0).b, lgO S a p n' c), ((gs1 1).b, dvO D k)] T5 (T4 ++ (T3 ++ (T2 ++ (T1 ++ [])))))
  have g1 := hrow1.len
  have g3 := hrow3.len
  have gB : B.A.length ≤ 61 := by rw [← hB]; exact begin_len hn60 hlenA
  have gG : G.A.length ≤ 61 := by rw [← hG]; exact append_len hn60 hlenA
  unfold okOpen at hop
  cases hrD : rightM D k with
  | false =>
    rw [hrD] at hop
    obtain ⟨q5, m5, k5, hrow5, rfl⟩ := hop
    have g5 := hrow5.len
    replace hrow5 : RowF sS 9 q5 m5 k5 T5 [] := hrow5
    replace g5 : 0 = m5 := g5
    refine rp [.v, .v, .v] K36 kr fun gs114 v23 K37 => ?_
    show WPs _ _ _ _ [5, 6, 7] _ _
    have K38 : St w.heap.size w v23 ((b13, lgO G.s G.a q4 m4 k4) :: (b11, lgO G.s G.a q3 m3 k3) :: (b9, lgO B.s B.a q2 m2 k2) :: (b7, lgO B.s B.a q1 m1 k1) :: ((gs1 0).b, lgO S a p n' c) :: ((gs1 1).b, dvO D k) :: (T5 ++ (T4 ++ (T3 ++ (T2 ++ (T1 ++ [])))))) := K37.as kr
    refine s_alloc K38 (some 15) 26 (lgV em 0 none 0 0) kr kr kr ?_
    intro b15 v24 K39
    refine rp [.s 0, .v] K39 kr fun gs115 v25 K40 => ?_
    show WPs _ _ _ _ [] _ _
    refine s_nil ?_
    show WP _ _ _ _ _ _
    refine g_seq kr ?_
    refine g_seq kr ?_
    have K41 : St w.heap.size w v25 ((b15, lgO em 0 q5 m5 k5) :: (b13, lgO G.s G.a q4 m4 k4) :: (b11, lgO G.s G.a q3 m3 k3) :: (b9, lgO B.s B.a q2 m2 k2) :: (b7, lgO B.s B.a q1 m1 k1) :: ((gs1 0).b, lgO S a p n' c) :: ((gs1 1).b, dvO D k) :: (T5 ++ (T4 ++ (T3 ++ (T2 ++ (T1 ++ [])))))) := K40.as kr
    refine D2.g_draw0 [0, 1, 2, 3, 4, 5, 6, 7, 8, 9, 10, 11, 12, 13, 14, 15, 16, 17, 18, 19, 20, 21, 22, 23, 24, 25, 26, 27, 28, 29, 30, 31, 32, 33, 34, 35, 36] [(some 61, fun _ => lgV S a p n' c), (some 62, fun _ => (.bool (rightL S a A'))), (some 63, fun _ => lgV S a p n' c), (some 64, fun _ => (.bool (rightL S a A'))), (some 65, fun _ => .bool false), (some 66, fun _ => .bool false), (some 67, fun _ => lgV B.s B.a q1 m1 k1), (some 68, fun _ => lgV B.s B.a q2 m2 k2), (some 69, fun _ => .bool true), (some 70, fun _ => .bool false), (some 71, fun _ => .bool false), (some 72, fun _ => .bool false), (some 73, fun _ => .int .i64 B.e), (some 74, fun _ => .int .i64 B.e), (some 75, fun _ => .bool false), (some 76, fun _ => .bool false), (some 77, fun _ => .bool false), (some 78, fun _ => lgV G.s G.a q3 m3 k3), (some 79, fun _ => lgV G.s G.a q4 m4 k4), (some 80, fun _ => .bool true), (some 81, fun _ => .bool false), (some 82, fun _ => .bool false), (some 83, fun _ => .bool false), (some 84, fun _ => .int .i64 G.e), (some 85, fun _ => .int .i64 G.e), (some 86, fun _ => .bool false), (some 87, fun _ => .bool false), (some 88, fun _ => .bool false), (some 89, fun _ => lgV em 0 none 0 0), (some 90, fun _ => lgV em 0 none 0 0), (some 91, fun _ => .bool true), (some 92, fun _ => .bool false), (some 93, fun _ => .bool false), (some 94, fun _ => .bool false), (some 95, fun _ => .bool true), (some 96, fun _ => .bool false), (some 97, fun _ => .bool false)]
        (fun _ _ ww => St w.heap.size w ww ((b15, lgO em 0 q5 m5 k5) :: (b13, lgO G.s G.a q4 m4 k4) :: (b11, lgO G.s G.a q3 m3 k3) :: (b9, lgO B.s B.a q2 m2 k2) :: (b7, lgO B.s B.a q1 m1 k1) :: ((gs1 0).b, lgO S a p n' c) :: ((gs1 1).b, dvO D k) :: (T5 ++ (T4 ++ (T3 ++ (T2 ++ (T1 ++ []))))))) kr kr kr K41.drew ⟨?_, ?_, ?_, ?_, ?_, ?_, ?_, ?_, ?_, ?_, ?_, ?_, ?_, ?_, ?_, ?_, ?_, ?_, ?_, ?_, ?_, ?_, ?_, ?_, ?_, ?_, ?_, ?_, ?_, ?_, ?_, ?_, ?_, ?_, ?_, ?_, ?_, trivial⟩ ?_
    · exact D2.gv_ld (fun _ _ _ h => h) 26 (.tmp 3) (fun _ => (gs1 0).b) 0 #[.string S, .int .i64 a, .slice p n' c] 26 (0, 0) (fun g => by kernel_rfl) (fun g => by kernel_rfl) (fun L g w hN hp => (hp.own ((gs1 0).b, lgO S a p n' c) (by simp)).2) kr kr
    · exact D2.gv_cpW (fun _ _ _ h => h) 12 #[lgV S a p n' c] (rightW_fn S a p n' c A') (fun L g w hN hp => hP2.call hp.below) (fun L g w w' hN hp hb => hp.call hb) (fun g w => by kernel_rfl)
    · exact D2.gv_ld (fun _ _ _ h => h) 26 (.tmp 3) (fun _ => (gs1 0).b) 0 #[.string S, .int .i64 a, .slice p n' c] 26 (0, 0) (fun g => by kernel_rfl) (fun g => by kernel_rfl) (fun L g w hN hp => (hp.own ((gs1 0).b, lgO S a p n' c) (by simp)).2) kr kr
    · exact D2.gv_cpW (fun _ _ _ h => h) 13 #[lgV S a p n' c] (rightLR_fn S a p n' c A' (by omega)) (fun L g w hN hp => hP2.call hp.below) (fun L g w w' hN hp hb => hp.call hb) (fun g w => by kernel_rfl)
    · exact D2.gv_valE (V' := (.bool (!(rightL S a A' == rightL S a A')))) (fun _ _ _ h => h) (fun g w => by kernel_rfl) (bool_eq (by rw [beq_self_eq_true]; rfl))
    · exact D2.gv_val (fun _ _ _ h => h) (fun g w => by kernel_rfl)
    · exact D2.gv_ld (fun _ _ _ h => h) 26 (.tmp 7) (fun _ => b7) 0 #[.string B.s, .int .i64 B.a, .slice q1 m1 k1] 26 (0, 0) (fun g => by kernel_rfl) (fun g => by kernel_rfl) (fun L g w hN hp => (hp.own (b7, lgO B.s B.a q1 m1 k1) (by simp)).2) kr kr
    · exact D2.gv_ld (fun _ _ _ h => h) 26 (.tmp 9) (fun _ => b9) 0 #[.string B.s, .int .i64 B.a, .slice q2 m2 k2] 26 (0, 0) (fun g => by kernel_rfl) (fun g => by kernel_rfl) (fun L g w hN hp => (hp.own (b9, lgO B.s B.a q2 m2 k2) (by simp)).2) kr kr
    · exact D2.gv_cpW (fun _ _ _ h => h) 14 #[lgV B.s B.a q1 m1 k1, lgV B.s B.a q2 m2 k2] (like_fn B.s B.a q1 q2 m1 k1 m2 k2 B.A (by omega)) (fun L g w hN hp => ⟨hrow1.atF hp (fun e he => by simp [he]), hrow2.atF hp (fun e he => by simp [he])⟩) (fun L g w w' hN hp hb => hp.call hb) (fun g w => by kernel_rfl)
    · exact D2.gv_val (fun _ _ _ h => h) (fun g w => by kernel_rfl)
    · exact D2.gv_val (fun _ _ _ h => h) (fun g w => by kernel_rfl)
    · exact D2.gv_val (fun _ _ _ h => h) (fun g w => by kernel_rfl)
    · exact D2.gv_val (fun _ _ _ h => h) (fun g w => by kernel_rfl)
    · exact D2.gv_val (fun _ _ _ h => h) (fun g w => by kernel_rfl)
    · exact D2.gv_valE (V' := (.bool (!(B.e == B.e)))) (fun _ _ _ h => h) (fun g w => by kernel_rfl) (bool_eq (by rw [beq_self_eq_true]; rfl))
    · exact D2.gv_val (fun _ _ _ h => h) (fun g w => by kernel_rfl)
    · exact D2.gv_val (fun _ _ _ h => h) (fun g w => by kernel_rfl)
    · exact D2.gv_ld (fun _ _ _ h => h) 26 (.tmp 11) (fun _ => b11) 0 #[.string G.s, .int .i64 G.a, .slice q3 m3 k3] 26 (0, 0) (fun g => by kernel_rfl) (fun g => by kernel_rfl) (fun L g w hN hp => (hp.own (b11, lgO G.s G.a q3 m3 k3) (by simp)).2) kr kr
    · exact D2.gv_ld (fun _ _ _ h => h) 26 (.tmp 13) (fun _ => b13) 0 #[.string G.s, .int .i64 G.a, .slice q4 m4 k4] 26 (0, 0) (fun g => by kernel_rfl) (fun g => by kernel_rfl) (fun L g w hN hp => (hp.own (b13, lgO G.s G.a q4 m4 k4) (by simp)).2) kr kr
    · exact D2.gv_cpW (fun _ _ _ h => h) 14 #[lgV G.s G.a q3 m3 k3, lgV G.s G.a q4 m4 k4] (like_fn G.s G.a q3 q4 m3 k3 m4 k4 G.A (by omega)) (fun L g w hN hp => ⟨hrow3.atF hp (fun e he => by simp [he]), hrow4.atF hp (fun e he => by simp [he])⟩) (fun L g w w' hN hp hb => hp.call hb) (fun g w => by kernel_rfl)
    · exact D2.gv_val (fun _ _ _ h => h) (fun g w => by kernel_rfl)
    · exact D2.gv_val (fun _ _ _ h => h) (fun g w => by kernel_rfl)
    · exact D2.gv_val (fun _ _ _ h => h) (fun g w => by kernel_rfl)
    · exact D2.gv_val (fun _ _ _ h => h) (fun g w => by kernel_rfl)
    · exact D2.gv_val (fun _ _ _ h => h) (fun g w => by kernel_rfl)
    · exact D2.gv_valE (V' := (.bool (!(G.e == G.e)))) (fun _ _ _ h => h) (fun g w => by kernel_rfl) (bool_eq (by rw [beq_self_eq_true]; rfl))
    · exact D2.gv_val (fun _ _ _ h => h) (fun g w => by kernel_rfl)
    · exact D2.gv_val (fun _ _ _ h => h) (fun g w => by kernel_rfl)
    · exact D2.gv_cW (fun _ _ _ h => h) 15 #[] (new_fn) (fun L g w w' hN hp hb => hp.call hb) (fun g w => by kernel_rfl)
    · exact D2.gv_val (fun _ _ _ h => h) (fun g w => by kernel_rfl)
    · exact D2.gv_cpW (fun _ _ _ h => h) 14 #[lgV em 0 none 0 0, lgV em 0 none 0 0] (like_fn em 0 none none 0 0 0 0 [] (by decide)) (fun L g w hN hp => ⟨⟨rfl, .inl rfl⟩, ⟨rfl, .inl rfl⟩⟩) (fun L g w w' hN hp hb => hp.call hb) (fun g w => by kernel_rfl)
    · exact D2.gv_val (fun _ _ _ h => h) (fun g w => by kernel_rfl)
    · exact D2.gv_val (fun _ _ _ h => h) (fun g w => by kernel_rfl)
    · exact D2.gv_val (fun _ _ _ h => h) (fun g w => by kernel_rfl)
    · exact D2.gv_cW (fun _ _ _ h => h) 16 #[] (aliveW_fn) (fun L g w w' hN hp hb => hp.call hb) (fun g w => by kernel_rfl)
    · exact D2.gv_val (fun _ _ _ h => h) (fun g w => by kernel_rfl)
    · exact D2.gv_val (fun _ _ _ h => h) (fun g w => by kernel_rfl)
    intro L9 g9 v26 _ K42
    show WP _ _ _ _ _ _
    refine g_cond_f kr kr ?_
    refine g_skip kr ?_
    show WP _ _ _ _ _ _
    refine g_seq kr ?_
    refine rS [.l 6, .c (rightR_fn D k), .e (v := .bool (!(rightM D k))) (v' := .bool true) (bool_eq (by rw [hrD]; rfl))] K42 kr fun gs116 v27 K43 => ?_
    refine g_cond_t kr kr ?_
    refine g_sreg [0, 1, 2, 3, 4, 5, 6, 7] kr kr ?_
    refine rp [.v, .v, .v, .l 0, .v] K43 kr fun gs117 v28 K44 => ?_
    show WPs _ _ _ _ [5, 6, 7] _ _
    have K45 : St w.heap.size w v28 ((b15, lgO em 0 q5 m5 k5) :: (b13, lgO G.s G.a q4 m4 k4) :: (b11, lgO G.s G.a q3 m3 k3) :: (b9, lgO B.s B.a q2 m2 k2) :: (b7, lgO B.s B.a q1 m1 k1) :: ((gs1 0).b, lgO S a p n' c) :: ((gs1 1).b, dvO D k) :: (T5 ++ (T4 ++ (T3 ++ (T2 ++ (T1 ++ [])))))) := K44.as kr
    refine s_callP K45 (some 106) 14 #[lgV em 0 q5 m5 k5, lgV em 0 none 0 0] _ _ (like_fn em 0 q5 none m5 k5 0 0 [] (by omega)) ⟨hrow5.atF K45 (fun e he => by simp [he]), ⟨rfl, .inl rfl⟩⟩ (fun w => by kernel_rfl) kr ?_
    intro v29 K46
    refine rp [.v, .v] K46 kr fun gs118 v30 K47 => ?_
    show WPs _ _ _ _ [] _ _
    refine s_nil ?_
    exact rRe [.tmp 6] [] (v := .bool true) (v' := .bool true) K47 rfl kr
  | true =>
    rw [hrD] at hop
    obtain ⟨rs, z, hsc, q5, m5, k5, hrow5, rfl⟩ := hop
    obtain ⟨X, hX⟩ : ∃ X, D.extract 0 z = X := ⟨_, rfl⟩
    have hsl := sc_len hsc
    have g5 := hrow5.len
    replace hrow5 : RowF sS 9 q5 m5 k5 T5 rs := hrow5
    replace g5 : rs.length = m5 := g5
    rw [hX]
    refine rp [.v, .v, .v] K36 kr fun gs114 v23 K37 => ?_
    show WPs _ _ _ _ [5, 6, 7] _ _
    have K38 : St w.heap.size w v23 ((b13, lgO G.s G.a q4 m4 k4) :: (b11, lgO G.s G.a q3 m3 k3) :: (b9, lgO B.s B.a q2 m2 k2) :: (b7, lgO B.s B.a q1 m1 k1) :: ((gs1 0).b, lgO S a p n' c) :: ((gs1 1).b, dvO D k) :: (T5 ++ (T4 ++ (T3 ++ (T2 ++ (T1 ++ [])))))) := K37.as kr
    refine s_alloc K38 (some 15) 26 (lgV em 0 none 0 0) kr kr kr ?_
    intro b15 v24 K39
    refine rp [.s 0, .v] K39 kr fun gs115 v25 K40 => ?_
    show WPs _ _ _ _ [] _ _
    refine s_nil ?_
    show WP _ _ _ _ _ _
    refine g_seq kr ?_
    refine g_seq kr ?_
    have K41 : St w.heap.size w v25 ((b15, lgO X ((z : Nat) : Int) q5 m5 k5) :: (b13, lgO G.s G.a q4 m4 k4) :: (b11, lgO G.s G.a q3 m3 k3) :: (b9, lgO B.s B.a q2 m2 k2) :: (b7, lgO B.s B.a q1 m1 k1) :: ((gs1 0).b, lgO S a p n' c) :: ((gs1 1).b, dvO D k) :: (T5 ++ (T4 ++ (T3 ++ (T2 ++ (T1 ++ [])))))) := K40.as kr
    refine D2.g_draw0 [0, 1, 2, 3, 4, 5, 6, 7, 8, 9, 10, 11, 12, 13, 14, 15, 16, 17, 18, 19, 20, 21, 22, 23, 24, 25, 26, 27, 28, 29, 30, 31, 32, 33, 34, 35, 36] [(some 61, fun _ => lgV S a p n' c), (some 62, fun _ => (.bool (rightL S a A'))), (some 63, fun _ => lgV S a p n' c), (some 64, fun _ => (.bool (rightL S a A'))), (some 65, fun _ => .bool false), (some 66, fun _ => .bool false), (some 67, fun _ => lgV B.s B.a q1 m1 k1), (some 68, fun _ => lgV B.s B.a q2 m2 k2), (some 69, fun _ => .bool true), (some 70, fun _ => .bool false), (some 71, fun _ => .bool false), (some 72, fun _ => .bool false), (some 73, fun _ => .int .i64 B.e), (some 74, fun _ => .int .i64 B.e), (some 75, fun _ => .bool false), (some 76, fun _ => .bool false), (some 77, fun _ => .bool false), (some 78, fun _ => lgV G.s G.a q3 m3 k3), (some 79, fun _ => lgV G.s G.a q4 m4 k4), (some 80, fun _ => .bool true), (some 81, fun _ => .bool false), (some 82, fun _ => .bool false), (some 83, fun _ => .bool false), (some 84, fun _ => .int .i64 G.e), (some 85, fun _ => .int .i64 G.e), (some 86, fun _ => .bool false), (some 87, fun _ => .bool false), (some 88, fun _ => .bool false), (some 89, fun _ => lgV em 0 none 0 0), (some 90, fun _ => lgV em 0 none 0 0), (some 91, fun _ => .bool true), (some 92, fun _ => .bool false), (some 93, fun _ => .bool false), (some 94, fun _ => .bool false), (some 95, fun _ => .bool true), (some 96, fun _ => .bool false), (some 97, fun _ => .bool false)]
        (fun _ _ ww => St w.heap.size w ww ((b15, lgO X ((z : Nat) : Int) q5 m5 k5) :: (b13, lgO G.s G.a q4 m4 k4) :: (b11, lgO G.s G.a q3 m3 k3) :: (b9, lgO B.s B.a q2 m2 k2) :: (b7, lgO B.s B.a q1 m1 k1) :: ((gs1 0).b, lgO S a p n' c) :: ((gs1 1).b, dvO D k) :: (T5 ++ (T4 ++ (T3 ++ (T2 ++ (T1 ++ []))))))) kr kr kr K41.drew ⟨?_, ?_, ?_, ?_, ?_, ?_, ?_, ?_, ?_, ?_, ?_, ?_, ?_, ?_, ?_, ?_, ?_, ?_, ?_, ?_, ?_, ?_, ?_, ?_, ?_, ?_, ?_, ?_, ?_, ?_, ?_, ?_, ?_, ?_, ?_, ?_, ?_, trivial⟩ ?_
    · exact D2.gv_ld (fun _ _ _ h => h) 26 (.tmp 3) (fun _ => (gs1 0).b) 0 #[.string S, .int .i64 a, .slice p n' c] 26 (0, 0) (fun g => by kernel_rfl) (fun g => by kernel_rfl) (fun L g w hN hp => (hp.own ((gs1 0).b, lgO S a p n' c) (by simp)).2) kr kr
    · exact D2.gv_cpW (fun _ _ _ h => h) 12 #[lgV S a p n' c] (rightW_fn S a p n' c A') (fun L g w hN hp => hP2.call hp.below) (fun L g w w' hN hp hb => hp.call hb) (fun g w => by kernel_rfl)
    · exact D2.gv_ld (fun _ _ _ h => h) 26 (.tmp 3) (fun _ => (gs1 0).b) 0 #[.string S, .int .i64 a, .slice p n' c] 26 (0, 0) (fun g => by kernel_rfl) (fun g => by kernel_rfl) (fun L g w hN hp => (hp.own ((gs1 0).b, lgO S a p n' c) (by simp)).2) kr kr
    · exact D2.gv_cpW (fun _ _ _ h => h) 13 #[lgV S a p n' c] (rightLR_fn S a p n' c A' (by omega)) (fun L g w hN hp => hP2.call hp.below) (fun L g w w' hN hp hb => hp.call hb) (fun g w => by kernel_rfl)
    · exact D2.gv_valE (V' := (.bool (!(rightL S a A' == rightL S a A')))) (fun _ _ _ h => h) (fun g w => by kernel_rfl) (bool_eq (by rw [beq_self_eq_true]; rfl))
    · exact D2.gv_val (fun _ _ _ h => h) (fun g w => by kernel_rfl)
    · exact D2.gv_ld (fun _ _ _ h => h) 26 (.tmp 7) (fun _ => b7) 0 #[.string B.s, .int .i64 B.a, .slice q1 m1 k1] 26 (0, 0) (fun g => by kernel_rfl) (fun g => by kernel_rfl) (fun L g w hN hp => (hp.own (b7, lgO B.s B.a q1 m1 k1) (by simp)).2) kr kr
    · exact D2.gv_ld (fun _ _ _ h => h) 26 (.tmp 9) (fun _ => b9) 0 #[.string B.s, .int .i64 B.a, .slice q2 m2 k2] 26 (0, 0) (fun g => by kernel_rfl) (fun g => by kernel_rfl) (fun L g w hN hp => (hp.own (b9, lgO B.s B.a q2 m2 k2) (by simp)).2) kr kr
    · exact D2.gv_cpW (fun _ _ _ h => h) 14 #[lgV B.s B.a q1 m1 k1, lgV B.s B.a q2 m2 k2] (like_fn B.s B.a q1 q2 m1 k1 m2 k2 B.A (by omega)) (fun L g w hN hp => ⟨hrow1.atF hp (fun e he => by simp [he]), hrow2.atF hp (fun e he => by simp [he])⟩) (fun L g w w' hN hp hb => hp.call hb) (fun g w => by kernel_rfl)
    · exact D2.gv_val (fun _ _ _ h => h) (fun g w => by kernel_rfl)
    · exact D2.gv_val (fun _ _ _ h => h) (fun g w => by kernel_rfl)
    · exact D2.gv_val (fun _ _ _ h => h) (fun g w => by kernel_rfl)
    · exact D2.gv_val (fun _ _ _ h => h) (fun g w => by kernel_rfl)
    · exact D2.gv_val (fun _ _ _ h => h) (fun g w => by kernel_rfl)
    · exact D2.gv_valE (V' := (.bool (!(B.e == B.e)))) (fun _ _ _ h => h) (fun g w => by kernel_rfl) (bool_eq (by rw [beq_self_eq_true]; rfl))
    · exact D2.gv_val (fun _ _ _ h => h) (fun g w => by kernel_rfl)
    · exact D2.gv_val (fun _ _ _ h => h) (fun g w => by kernel_rfl)
    · exact D2.gv_ld (fun _ _ _ h => h) 26 (.tmp 11) (fun _ => b11) 0 #[.string G.s, .int .i64 G.a, .slice q3 m3 k3] 26 (0, 0) (fun g => by kernel_rfl) (fun g => by kernel_rfl) (fun L g w hN hp => (hp.own (b11, lgO G.s G.a q3 m3 k3) (by simp)).2) kr kr
    · exact D2.gv_ld (fun _ _ _ h => h) 26 (.tmp 13) (fun _ => b13) 0 #[.string G.s, .int .i64 G.a, .slice q4 m4 k4] 26 (0, 0) (fun g => by kernel_rfl) (fun g => by kernel_rfl) (fun L g w hN hp => (hp.own (b13, lgO G.s G.a q4 m4 k4) (by simp)).2) kr kr
    · exact D2.gv_cpW (fun _ _ _ h => h) 14 #[lgV G.s G.a q3 m3 k3, lgV G.s G.a q4 m4 k4] (like_fn G.s G.a q3 q4 m3 k3 m4 k4 G.A (by omega)) (fun L g w hN hp => ⟨hrow3.atF hp (fun e he => by simp [he]), hrow4.atF hp (fun e he => by simp [he])⟩) (fun L g w w' hN hp hb => hp.call hb) (fun g w => by kernel_rfl)
    · exact D2.gv_val (fun _ _ _ h => h) (fun g w => by kernel_rfl)
    · exact D2.gv_val (fun _ _ _ h => h) (fun g w => by kernel_rfl)
    · exact D2.gv_val (fun _ _ _ h => h) (fun g w => by kernel_rfl)
    · exact D2.gv_val (fun _ _ _ h => h) (fun g w => by kernel_rfl)
    · exact D2.gv_val (fun _ _ _ h => h) (fun g w => by kernel_rfl)
    · exact D2.gv_valE (V' := (.bool (!(G.e == G.e)))) (fun _ _ _ h => h) (fun g w => by kernel_rfl) (bool_eq (by rw [beq_self_eq_true]; rfl))
    · exact D2.gv_val (fun _ _ _ h => h) (fun g w => by kernel_rfl)
    · exact D2.gv_val (fun _ _ _ h => h) (fun g w => by kernel_rfl)
    · exact D2.gv_cW (fun _ _ _ h => h) 15 #[] (new_fn) (fun L g w w' hN hp hb => hp.call hb) (fun g w => by kernel_rfl)
    · exact D2.gv_val (fun _ _ _ h => h) (fun g w => by kernel_rfl)
    · exact D2.gv_cpW (fun _ _ _ h => h) 14 #[lgV em 0 none 0 0, lgV em 0 none 0 0] (like_fn em 0 none none 0 0 0 0 [] (by decide)) (fun L g w hN hp => ⟨⟨rfl, .inl rfl⟩, ⟨rfl, .inl rfl⟩⟩) (fun L g w w' hN hp hb => hp.call hb) (fun g w => by kernel_rfl)
    · exact D2.gv_val (fun _ _ _ h => h) (fun g w => by kernel_rfl)
    · exact D2.gv_val (fun _ _ _ h => h) (fun g w => by kernel_rfl)
    · exact D2.gv_val (fun _ _ _ h => h) (fun g w => by kernel_rfl)
    · exact D2.gv_cW (fun _ _ _ h => h) 16 #[] (aliveW_fn) (fun L g w w' hN hp hb => hp.call hb) (fun g w => by kernel_rfl)
    · exact D2.gv_val (fun _ _ _ h => h) (fun g w => by kernel_rfl)
    · exact D2.gv_val (fun _ _ _ h => h) (fun g w => by kernel_rfl)
    intro L9 g9 v26 _ K42
    show WP _ _ _ _ _ _
    refine g_cond_f kr kr ?_
    refine g_skip kr ?_
    show WP _ _ _ _ _ _
    refine g_seq kr ?_
    refine rS [.l 6, .c (rightR_fn D k), .e (v := .bool (!(rightM D k))) (v' := .bool false) (bool_eq (by rw [hrD]; rfl))] K42 kr fun gs116 v27 K43 => ?_
    refine g_cond_f kr kr ?_
    refine g_skip kr ?_
    show WP _ _ _ _ _ _
    refine g_seq kr ?_
    have K44 : St w.heap.size w v27 ((b15, lgO X ((z : Nat) : Int) q5 m5 k5) :: (b13, lgO G.s G.a q4 m4 k4) :: (b11, lgO G.s G.a q3 m3 k3) :: (b9, lgO B.s B.a q2 m2 k2) :: (b7, lgO B.s B.a q1 m1 k1) :: ((gs1 0).b, lgO S a p n' c) :: ((gs1 1).b, dvO D k) :: (T5 ++ (T4 ++ (T3 ++ (T2 ++ (T1 ++ [])))))) := K43.as kr
    refine D2.g_draw0 [0, 1, 2, 3, 4, 5, 6, 7, 8] [(some 108, fun _ => .int .i64 0), (some 109, fun _ => .bool true), (some 110, fun _ => .bool true), (some 111, fun _ => lgV X ((z : Nat) : Int) q5 m5 k5), (some 112, fun _ => dvV D k), (some 113, fun y => .agg #[.string X, .int .i64 ((z : Nat) : Int), .slice (pG y) y.n y.cap]), (some 114, fun _ => .bool true), (some 115, fun _ => .bool true), (some 6, fun _ => .bool true)]
        (D2.two 5 (fun ww => St w.heap.size w ww ((b15, lgO X ((z : Nat) : Int) q5 m5 k5) :: (b13, lgO G.s G.a q4 m4 k4) :: (b11, lgO G.s G.a q3 m3 k3) :: (b9, lgO B.s B.a q2 m2 k2) :: (b7, lgO B.s B.a q1 m1 k1) :: ((gs1 0).b, lgO S a p n' c) :: ((gs1 1).b, dvO D k) :: (T5 ++ (T4 ++ (T3 ++ (T2 ++ (T1 ++ []))))))) (fun y ww => ∃ T6, RowF sS 9 (pG y) y.n y.cap T6 rs ∧ St w.heap.size w ww ((b15, lgO X ((z : Nat) : Int) q5 m5 k5) :: (b13, lgO G.s G.a q4 m4 k4) :: (b11, lgO G.s G.a q3 m3 k3) :: (b9, lgO B.s B.a q2 m2 k2) :: (b7, lgO B.s B.a q1 m1 k1) :: ((gs1 0).b, lgO S a p n' c) :: ((gs1 1).b, dvO D k) :: ((T5 ++ (T4 ++ (T3 ++ (T2 ++ (T1 ++ []))))) ++ T6)))) kr kr kr K44.drew ⟨?_, ?_, ?_, ?_, ?_, ?_, ?_, ?_, ?_, trivial⟩ ?_
    · exact D2.gv_val (fun _ _ _ h => h) (fun g w => by kernel_rfl)
    · exact D2.gv_val (fun _ _ _ h => h) (fun g w => by kernel_rfl)
    · exact D2.gv_val (fun _ _ _ h => h) (fun g w => by kernel_rfl)
    · exact D2.gv_ld (fun _ _ _ h => h) 26 (.tmp 15) (fun _ => b15) 0 #[.string X, .int .i64 ((z : Nat) : Int), .slice q5 m5 k5] 26 (0, 0) (fun g => by kernel_rfl) (fun g => by kernel_rfl) (fun L g w hN hp => hp.get (fun h => (h.own (b15, lgO X ((z : Nat) : Int) q5 m5 k5) (by simp)).2) (fun _ ⟨_, _, h⟩ => (h.own (b15, lgO X ((z : Nat) : Int) q5 m5 k5) (by simp)).2)) kr kr
    · exact D2.gv_ld (fun _ _ _ h => h) 23 (.tmp 5) (fun _ => (gs1 1).b) 0 #[.string D, .int .i64 k] 23 (0, 0) (fun g => by kernel_rfl) (fun g => by kernel_rfl) (fun L g w hN hp => hp.get (fun h => (h.own ((gs1 1).b, dvO D k) (by simp)).2) (fun _ ⟨_, _, h⟩ => (h.own ((gs1 1).b, dvO D k) (by simp)).2)) kr kr
    · refine D2.gv_ft 18 #[dvV D k] (openR_fn D k (by omega)) (fun L g w hN hp => trivial) (fun L1 g ww v T6 w' hN hp hk hT => ?_) (fun g w => by kernel_rfl)
      obtain ⟨rs', z', hsc', q6, m6, k6, hr6, rfl⟩ := hk
      obtain ⟨rfl, rfl⟩ := hsc.uniq hsc'
      have hS := (St.addAll (hp.bef hN.1) hT).perm (List.perm_append_comm (l₁ := ((b15, lgO X ((z : Nat) : Int) q5 m5 k5) :: (b13, lgO G.s G.a q4 m4 k4) :: (b11, lgO G.s G.a q3 m3 k3) :: (b9, lgO B.s B.a q2 m2 k2) :: (b7, lgO B.s B.a q1 m1 k1) :: ((gs1 0).b, lgO S a p n' c) :: ((gs1 1).b, dvO D k) :: (T5 ++ (T4 ++ (T3 ++ (T2 ++ (T1 ++ []))))))) (l₂ := T6))
      obtain ⟨x, hx, hr7⟩ := gh_of hr6
      refine ⟨x, ?_, D2.two.to ⟨T6, hr7, hS.as (by simp)⟩⟩
      show Value.agg #[.string (D.extract 0 z), .int .i64 ((z : Nat) : Int), .slice q6 m6 k6] = _
      rw [hx, hX]
    · refine D2.gives_of fun L1 gg ww hp hN1 => ?_
      have h5 := hN1.bef 5 kr
      obtain ⟨T6, hr6, hS⟩ := hp.aft h5
      obtain ⟨o, ho, hd, hw, hrun⟩ := opv_some (show opv _ _ 6 _ ww = some (some 114, true, .ok (.enter 14 #[lgV X ((z : Nat) : Int) q5 m5 k5, lgV X ((z : Nat) : Int) (pG (gg 5)) (gg 5).n (gg 5).cap]) ww) by kernel_rfl)
      refine ⟨o, ho, hd, .inr ⟨hw, ?_⟩⟩
      rw [hrun]
      refine Calls.mono (like_fn X ((z : Nat) : Int) q5 (pG (gg 5)) m5 k5 (gg 5).n (gg 5).cap rs (by omega) ww ⟨hrow5.atF hS (fun e he => by simp [he]), RowF.atF hr6 hS (fun e he => by simp [he])⟩) ?_
      rintro e w' ⟨rfl, hb⟩
      refine ⟨_, rfl, gg 6, rfl, ?_⟩
      rw [D2.setN_self]
      unfold D2.two
      rw [show D2.put1 L1 6 5 = true from h5]
      exact ⟨T6, hr6, hS.call hb⟩
    · exact D2.gv_val (fun _ _ _ h => h) (fun g w => by kernel_rfl)
    · exact D2.gv_val (fun _ _ _ h => h) (fun g w => by kernel_rfl)
    · intro L1 gg w9 hall hp
      obtain ⟨T6, _, H10⟩ := hp.aft (hall 5 (Nat.le_of_ble_eq_true kr))
      show WP _ _ _ _ _ _
      exact rRe [.tmp 6] [] (v := .bool true) (v' := .bool true) (H10.sub (List.nil_sublist _)) rfl kr
end Go.Proofs.Ythpiojejhellhaa
