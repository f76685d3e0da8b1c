/-
  Texts of the proof, part 3.
-/
import Derived.Test.YthpiojejhellhaaProg
import Derived.ChangeKeysEq
import Derived.Laws.StructEq
import Derived.Test.YthpiojejhellhaaChecked
import Derived.ChangeArms
import Derived.OpenShut
import Derived.ProofKit
import Derived.ChangeSlices
import Derived.Deep.Strs
import Derived.DataReads
import Derived.WalkKit
import Derived.Test.YthpiojejhellhaaWW2

namespace Go.Proofs.Ythpiojejhellhaa
open Go Go.RowKit Go.Proofs.Crc
set_option linter.unusedVariables false
theorem allsub (x : BitVec 32) : (4294967295 : BitVec 32) - x = ~~~x := by
  rw [show (4294967295 : BitVec 32) = BitVec.allOnes 32 from rfl, BitVec.allOnes_sub_eq_not]
theorem bv_congr {x y : BitVec 32} (h : x = y) : Value.int .u32 ((BitVec.toNat x : Nat) : Int) = .int .u32 ((BitVec.toNat y : Nat) : Int) := by rw [h]
set_option maxRecDepth 100000 in
set_option maxHeartbeats 2000000 in
theorem ofR_fn (s : ByteArray) (hs : ByteArray.size s ≤ 1000000000000000000) : Fn Try.prog 44 #[.string s] (.int .u32 ((BitVec.toNat (crc (tl s)) : Nat) : Int)) := by
  refine Fn.intro (c := codeOf Try.f44) [.tmp 2] 34 Try.func44 kr kr kr fun w => ?_
  have H0 := St.start w
  refine g_sreg [0] kr kr ?_
  refine s_val (some 2) (.int .u32 0) (fun w => by kernel_rfl) kr ?_
  refine s_nil ?_
  refine g_sreg [0] kr kr ?_
  refine s_val (some 3) (.int .u32 ((BitVec.toNat (reg rg0 ((tl s).take 0)) : Nat) : Int)) (fun w => by kernel_rfl) kr ?_
  refine s_nil ?_
  refine g_seq kr ?_
  refine g_sreg [0] kr kr ?_
  refine s_val (some 4) (.int .i64 0) (fun w => by kernel_rfl) kr ?_
  refine s_nil ?_
  refine g_block 0 kr ?_
  refine g_loop kr (fun mz ρ ww => ∃ (i : Nat), ByteArray.size s - i = mz ∧ (i ≤ ByteArray.size s) ∧ St w.heap.size w ww [] ∧ Is [(0, .string s), (2, .int .u32 0), (3, .int .u32 ((BitVec.toNat (reg rg0 ((tl s).take i)) : Nat) : Int)), (4, .int .i64 ((i : Nat) : Int))] ρ) (ByteArray.size s - 0) ⟨0, rfl, (by omega), H0, (Is.of ⟨kr, kr, kr, kr, trivial⟩)⟩ ?_
  clear H0
  rintro _ _ w1 ⟨i, rfl, hi, H1, _, rfl⟩
  refine g_seq kr ?_
  refine g_sreg [0, 1, 2, 3] kr kr ?_
  refine s_val (some 6) (.int .i64 ((i : Nat) : Int)) (fun w => by kernel_rfl) kr ?_
  refine s_val (some 7) (.string s) (fun w => by kernel_rfl) kr ?_
  refine s_val (some 8) (.int .i64 ((ByteArray.size s : Nat) : Int)) (fun w => by kernel_rfl) kr ?_
  by_cases hc1 : (i : Nat) < ByteArray.size s
  · skip
    refine s_valE (some 9) (.bool (decide (((i : Nat) : Int) < ((ByteArray.size s : Nat) : Int)))) (.bool true) (fun w => by kernel_rfl) (bool_eq (decide_eq_true (by omega))) kr ?_
    refine s_nil ?_
    refine g_cond_t kr kr ?_
    refine g_skip kr ?_
    show WP _ _ _ _ _ _
    refine g_seq kr ?_
    refine g_block 1 kr ?_
    refine g_sreg [0] kr kr ?_
    refine s_val (some 5) (.int .i64 0) (fun w => by kernel_rfl) kr ?_
    refine s_nil ?_
    refine g_block 2 kr ?_
    refine g_loop kr (fun mz ρ ww => ∃ (q : W) (k : Nat), 8 - k = mz ∧ (k ≤ 8) ∧ (q ^^^ (u32 (List.getD (tl s) i 0)) >>> k = mvk k ((reg rg0 ((tl s).take i)) ^^^ (u32 (List.getD (tl s) i 0)))) ∧ St w.heap.size w ww [] ∧ Is [(0, .string s), (2, .int .u32 0), (3, .int .u32 ((BitVec.toNat q : Nat) : Int)), (4, .int .i64 ((i : Nat) : Int)), (5, .int .i64 ((k : Nat) : Int)), (9, .bool true)] ρ) (8 - 0) ⟨(reg rg0 ((tl s).take i)), 0, rfl, (by omega), (by rw [BitVec.ushiftRight_zero]; rfl), H1, (Is.of ⟨kr, kr, kr, kr, kr, kr, trivial⟩)⟩ ?_
    clear H1
    rintro _ _ w2 ⟨q, k, rfl, hk, hq, H2, _, rfl⟩
    refine g_seq kr ?_
    refine g_sreg [0, 1] kr kr ?_
    refine s_val (some 12) (.int .i64 ((k : Nat) : Int)) (fun w => by kernel_rfl) kr ?_
    by_cases hc2 : (k : Nat) < 8
    · skip
      refine s_valE (some 13) (.bool (decide (((k : Nat) : Int) < 8))) (.bool true) (fun w => by kernel_rfl) (bool_eq (decide_eq_true (by omega))) kr ?_
      refine s_nil ?_
      refine g_cond_t kr kr ?_
      refine g_skip kr ?_
      show WP _ _ _ _ _ _
      refine g_seq kr ?_
      refine g_block 3 kr ?_
      refine g_sreg [0, 1, 2, 3, 4, 5, 6, 7, 8, 9, 10] kr kr ?_
      refine s_val (some 16) (.int .u32 ((BitVec.toNat q : Nat) : Int)) (fun w => by kernel_rfl) kr ?_
      refine s_valE (some 17) (.int .u32 (Int.tmod (((BitVec.toNat q : Nat) : Int)) (2))) (.int .u32 ((BitVec.toNat (q % (2 : BitVec 32)) : Nat) : Int)) (fun w => by kernel_rfl) (bv_rem_u32 q (2 : BitVec 32)) kr ?_
      refine s_val (some 18) (.string s) (fun w => by kernel_rfl) kr ?_
      refine s_val (some 19) (.int .i64 ((i : Nat) : Int)) (fun w => by kernel_rfl) kr ?_
      refine s_op (some 20) _ (.int .u8 ((BitVec.toNat (UInt8.toBitVec (List.getD (tl s) i 0)) : Nat) : Int)) kr kr (fun o w ho => sindex_run (t := 9) (kd := .i64) kr (x := (.tmp 18)) (y := (.tmp 19)) s i ho kr kr (by omega) w) ?_
      refine s_valE (some 21) (.int .u32 (IntKind.u32.wrap (((BitVec.toNat (UInt8.toBitVec (List.getD (tl s) i 0)) : Nat) : Int)))) (.int .u32 ((BitVec.toNat (u32 (List.getD (tl s) i 0)) : Nat) : Int)) (fun w => by kernel_rfl) (bv_ofNat_u32 (UInt8.toNat (List.getD (tl s) i 0))) kr ?_
      refine s_val (some 22) (.int .i64 ((k : Nat) : Int)) (fun w => by kernel_rfl) kr ?_
      refine s_valE (some 23) (.int .u64 (IntKind.u64.wrap (((k : Nat) : Int)))) (.int .u64 ((k : Nat) : Int)) (fun w => by kernel_rfl) (int_eq (wrapN_u64 (a := k) (by omega))) kr ?_
      refine s_valE (some 24) (.int .u32 (Int.fdiv (((BitVec.toNat (u32 (List.getD (tl s) i 0)) : Nat) : Int)) (2 ^ (min k 32)))) (.int .u32 ((BitVec.toNat ((u32 (List.getD (tl s) i 0)) >>> k) : Nat) : Int)) (fun w => by kernel_rfl) (bv_shr_u32 (u32 (List.getD (tl s) i 0)) k) kr ?_
      refine s_valE (some 25) (.int .u32 (Int.tmod (((BitVec.toNat ((u32 (List.getD (tl s) i 0)) >>> k) : Nat) : Int)) (2))) (.int .u32 ((BitVec.toNat (((u32 (List.getD (tl s) i 0)) >>> k) % (2 : BitVec 32)) : Nat) : Int)) (fun w => by kernel_rfl) (bv_rem_u32 ((u32 (List.getD (tl s) i 0)) >>> k) (2 : BitVec 32)) kr ?_
      by_cases hc3 : ((BitVec.toNat (q % (2 : BitVec 32))) : Nat) ≠ (BitVec.toNat (((u32 (List.getD (tl s) i 0)) >>> k) % (2 : BitVec 32)))
      · skip
        refine s_valE (some 26) (.bool (!(((BitVec.toNat (q % (2 : BitVec 32)) : Nat) : Int) == ((BitVec.toNat (((u32 (List.getD (tl s) i 0)) >>> k) % (2 : BitVec 32)) : Nat) : Int)))) (.bool true) (fun w => by kernel_rfl) (bool_eq (by rw [beq_eq_false_iff_ne.2 (by omega)]; rfl)) kr ?_
        refine s_nil ?_
        refine g_cond_t kr kr ?_
        refine g_reg0 [0, 1, 2, 3] kr ?_
        refine s_val (some 27) (.int .u32 ((BitVec.toNat q : Nat) : Int)) (fun w => by kernel_rfl) kr ?_
        refine s_valE (some 28) (.int .u32 (IntKind.u32.wrap (Int.tdiv (((BitVec.toNat q : Nat) : Int)) (2)))) (.int .u32 ((BitVec.toNat (q / (2 : BitVec 32)) : Nat) : Int)) (fun w => by kernel_rfl) (bv_quo_u32 q (2 : BitVec 32)) kr ?_
        refine s_valE (some 29) (.int .u32 (Go.bits .xor .u32 (((BitVec.toNat (q / (2 : BitVec 32)) : Nat) : Int)) (3988292384))) (.int .u32 ((BitVec.toNat ((q / (2 : BitVec 32)) ^^^ (3988292384 : BitVec 32)) : Nat) : Int)) (fun w => by kernel_rfl) (bv_xor_u32 (q / (2 : BitVec 32)) (3988292384 : BitVec 32)) kr ?_
        refine s_val (some 3) (.int .u32 ((BitVec.toNat ((q / (2 : BitVec 32)) ^^^ (3988292384 : BitVec 32)) : Nat) : Int)) (fun w => by kernel_rfl) kr ?_
        refine s_nil ?_
        show WP _ _ _ _ _ _
        refine g_reg0 [0, 1, 2] kr ?_
        refine s_val (some 14) (.int .i64 ((k : Nat) : Int)) (fun w => by kernel_rfl) kr ?_
        refine s_valE (some 15) (.int .i64 (IntKind.i64.wrap (((k : Nat) : Int) + 1))) (.int .i64 ((k + 1 : Nat) : Int)) (fun w => by kernel_rfl) (int_eq (wrapAdd_i64 (a := k) (b := 1) (by omega))) kr ?_
        refine s_val (some 5) (.int .i64 ((k + 1 : Nat) : Int)) (fun w => by kernel_rfl) kr ?_
        refine s_nil ?_
        show ∃ m, _ ∧ _
        exact ⟨_, (by omega), (q / (2 : BitVec 32)) ^^^ (3988292384 : BitVec 32), (k + 1), rfl, (by omega), ((ref_step hq).1 hc3), H2, (Is.of ⟨kr, kr, kr, kr, kr, kr, trivial⟩)⟩
      · skip
        refine s_valE (some 26) (.bool (!(((BitVec.toNat (q % (2 : BitVec 32)) : Nat) : Int) == ((BitVec.toNat (((u32 (List.getD (tl s) i 0)) >>> k) % (2 : BitVec 32)) : Nat) : Int)))) (.bool false) (fun w => by kernel_rfl) (bool_eq (by rw [beq_iff_eq.2 (by omega)]; rfl)) kr ?_
        refine s_nil ?_
        refine g_cond_f kr kr ?_
        refine g_reg0 [0, 1, 2] kr ?_
        refine s_val (some 30) (.int .u32 ((BitVec.toNat q : Nat) : Int)) (fun w => by kernel_rfl) kr ?_
        refine s_valE (some 31) (.int .u32 (IntKind.u32.wrap (Int.tdiv (((BitVec.toNat q : Nat) : Int)) (2)))) (.int .u32 ((BitVec.toNat (q / (2 : BitVec 32)) : Nat) : Int)) (fun w => by kernel_rfl) (bv_quo_u32 q (2 : BitVec 32)) kr ?_
        refine s_val (some 3) (.int .u32 ((BitVec.toNat (q / (2 : BitVec 32)) : Nat) : Int)) (fun w => by kernel_rfl) kr ?_
        refine s_nil ?_
        show WP _ _ _ _ _ _
        refine g_reg0 [0, 1, 2] kr ?_
        refine s_val (some 14) (.int .i64 ((k : Nat) : Int)) (fun w => by kernel_rfl) kr ?_
        refine s_valE (some 15) (.int .i64 (IntKind.i64.wrap (((k : Nat) : Int) + 1))) (.int .i64 ((k + 1 : Nat) : Int)) (fun w => by kernel_rfl) (int_eq (wrapAdd_i64 (a := k) (b := 1) (by omega))) kr ?_
        refine s_val (some 5) (.int .i64 ((k + 1 : Nat) : Int)) (fun w => by kernel_rfl) kr ?_
        refine s_nil ?_
        show ∃ m, _ ∧ _
        exact ⟨_, (by omega), (q / (2 : BitVec 32)), (k + 1), rfl, (by omega), ((ref_step hq).2 hc3), H2, (Is.of ⟨kr, kr, kr, kr, kr, kr, trivial⟩)⟩
    · skip
      refine s_valE (some 13) (.bool (decide (((k : Nat) : Int) < 8))) (.bool false) (fun w => by kernel_rfl) (bool_eq (decide_eq_false (by omega))) kr ?_
      refine s_nil ?_
      refine g_cond_f kr kr ?_
      refine g_exit 2 kr ?_
      show WP _ _ _ _ _ _
      refine g_reg0 [0, 1, 2] kr ?_
      refine s_val (some 10) (.int .i64 ((i : Nat) : Int)) (fun w => by kernel_rfl) kr ?_
      refine s_valE (some 11) (.int .i64 (IntKind.i64.wrap (((i : Nat) : Int) + 1))) (.int .i64 ((i + 1 : Nat) : Int)) (fun w => by kernel_rfl) (int_eq (wrapAdd_i64 (a := i) (b := 1) (by omega))) kr ?_
      refine s_val (some 4) (.int .i64 ((i + 1 : Nat) : Int)) (fun w => by kernel_rfl) kr ?_
      refine s_nil ?_
      obtain rfl : k = 8 := by omega
      have hq2 : q = reg rg0 ((tl s).take (i + 1)) := by rw [reg_take rg0 (tl s) i (by rw [tl_len]; omega)]; exact ref_byte hq
      rw [hq2]
      show ∃ m, _ ∧ _
      exact ⟨_, (by omega), (i + 1), rfl, (by omega), H2, (Is.of ⟨kr, kr, kr, kr, trivial⟩)⟩
  · skip
    refine s_valE (some 9) (.bool (decide (((i : Nat) : Int) < ((ByteArray.size s : Nat) : Int)))) (.bool false) (fun w => by kernel_rfl) (bool_eq (decide_eq_false (by omega))) kr ?_
    refine s_nil ?_
    refine g_cond_f kr kr ?_
    refine g_exit 0 kr ?_
    show WP _ _ _ _ _ _
    refine g_sreg [0, 1, 2] kr kr ?_
    refine s_val (some 32) (.int .u32 ((BitVec.toNat (reg rg0 ((tl s).take i)) : Nat) : Int)) (fun w => by kernel_rfl) kr ?_
    refine s_valE (some 33) (.int .u32 (IntKind.u32.wrap ((4294967295) - (((BitVec.toNat (reg rg0 ((tl s).take i)) : Nat) : Int))))) (.int .u32 ((BitVec.toNat (~~~(reg rg0 ((tl s).take i))) : Nat) : Int)) (fun w => by kernel_rfl) ((bv_sub_u32 (4294967295 : BitVec 32) (reg rg0 ((tl s).take i))).trans (bv_congr (allsub (reg rg0 ((tl s).take i))))) kr ?_
    refine s_val (some 2) (.int .u32 ((BitVec.toNat (~~~(reg rg0 ((tl s).take i))) : Nat) : Int)) (fun w => by kernel_rfl) kr ?_
    refine s_nil ?_
    refine g_ret kr ?_
    show ∃ vs, Res _ _ _ _ vs ∧ _
    refine ⟨[.int .u32 ((BitVec.toNat (~~~(reg rg0 ((tl s).take i))) : Nat) : Int)], (.tmp (.int .u32 ((BitVec.toNat (~~~(reg rg0 ((tl s).take i))) : Nat) : Int)) kr .nil), ?_, H1.below⟩
    rw [List.take_of_length_le (show (tl s).length ≤ i by rw [tl_len]; omega)]; rfl
set_option maxRecDepth 100000 in
set_option maxHeartbeats 2000000 in
theorem isRec_yes (s : ByteArray) (h : 1 ≤ ByteArray.size s ∧ ByteArray.size s ≤ 4000) : Fn Try.prog 19 #[.string s] (.bool true) := by
  refine Fn.intro (c := codeOf Try.f19) [.tmp 2] 11 Try.func19 kr kr kr fun w => ?_
  have H0 := St.start w
  refine g_sreg [0] kr kr ?_
  refine s_val (some 2) (.bool false) (fun w => by kernel_rfl) kr ?_
  refine s_nil ?_
  refine g_sreg [0, 1, 2, 3, 4, 5, 6, 7, 8] kr kr ?_
  refine s_val (some 3) (.string s) (fun w => by kernel_rfl) kr ?_
  refine s_val (some 4) (.int .i64 ((ByteArray.size s : Nat) : Int)) (fun w => by kernel_rfl) kr ?_
  refine s_valE (some 5) (.bool (decide (1 ≤ ((ByteArray.size s : Nat) : Int)))) (.bool true) (fun w => by kernel_rfl) (bool_eq (decide_eq_true (by omega))) kr ?_
  refine s_val (some 6) (.bool true) (fun w => by kernel_rfl) kr ?_
  refine s_val (some 7) (.string s) (fun w => by kernel_rfl) kr ?_
  refine s_val (some 8) (.int .i64 ((ByteArray.size s : Nat) : Int)) (fun w => by kernel_rfl) kr ?_
  refine s_valE (some 9) (.bool (decide (((ByteArray.size s : Nat) : Int) ≤ 4000))) (.bool true) (fun w => by kernel_rfl) (bool_eq (decide_eq_true (by omega))) kr ?_
  refine s_val (some 10) (.bool true) (fun w => by kernel_rfl) kr ?_
  refine s_val (some 2) (.bool true) (fun w => by kernel_rfl) kr ?_
  refine s_nil ?_
  refine g_ret kr ?_
  show ∃ vs, Res _ _ _ _ vs ∧ _
  refine ⟨[.bool true], (.tmp (.bool true) kr .nil), ?_, H0.below⟩
  rfl
set_option maxRecDepth 100000 in
set_option maxHeartbeats 2000000 in
theorem isRec_no (s : ByteArray) (h : ¬ (1 ≤ ByteArray.size s ∧ ByteArray.size s ≤ 4000)) : Fn Try.prog 19 #[.string s] (.bool false) := by
  refine Fn.intro (c := codeOf Try.f19) [.tmp 2] 11 Try.func19 kr kr kr fun w => ?_
  have H0 := St.start w
  refine g_sreg [0] kr kr ?_
  refine s_val (some 2) (.bool false) (fun w => by kernel_rfl) kr ?_
  refine s_nil ?_
  refine g_sreg [0, 1, 2, 3, 4, 5, 6, 7, 8] kr kr ?_
  refine s_val (some 3) (.string s) (fun w => by kernel_rfl) kr ?_
  refine s_val (some 4) (.int .i64 ((ByteArray.size s : Nat) : Int)) (fun w => by kernel_rfl) kr ?_
  by_cases hc1 : (ByteArray.size s : Nat) ≥ 1
  · skip
    refine s_valE (some 5) (.bool (decide (1 ≤ ((ByteArray.size s : Nat) : Int)))) (.bool true) (fun w => by kernel_rfl) (bool_eq (decide_eq_true (by omega))) kr ?_
    refine s_val (some 6) (.bool true) (fun w => by kernel_rfl) kr ?_
    refine s_val (some 7) (.string s) (fun w => by kernel_rfl) kr ?_
    refine s_val (some 8) (.int .i64 ((ByteArray.size s : Nat) : Int)) (fun w => by kernel_rfl) kr ?_
    refine s_valE (some 9) (.bool (decide (((ByteArray.size s : Nat) : Int) ≤ 4000))) (.bool false) (fun w => by kernel_rfl) (bool_eq (decide_eq_false (by omega))) kr ?_
    refine s_val (some 10) (.bool false) (fun w => by kernel_rfl) kr ?_
    refine s_val (some 2) (.bool false) (fun w => by kernel_rfl) kr ?_
    refine s_nil ?_
    refine g_ret kr ?_
    show ∃ vs, Res _ _ _ _ vs ∧ _
    refine ⟨[.bool false], (.tmp (.bool false) kr .nil), ?_, H0.below⟩
    rfl
  · skip
    refine s_valE (some 5) (.bool (decide (1 ≤ ((ByteArray.size s : Nat) : Int)))) (.bool false) (fun w => by kernel_rfl) (bool_eq (decide_eq_false (by omega))) kr ?_
    refine s_val (some 6) (.bool false) (fun w => by kernel_rfl) kr ?_
    refine s_not (some 7) kr kr ?_
    refine s_not (some 8) kr kr ?_
    refine s_not (some 9) kr kr ?_
    refine s_val (some 10) (.bool false) (fun w => by kernel_rfl) kr ?_
    refine s_val (some 2) (.bool false) (fun w => by kernel_rfl) kr ?_
    refine s_nil ?_
    refine g_ret kr ?_
    show ∃ vs, Res _ _ _ _ vs ∧ _
    refine ⟨[.bool false], (.tmp (.bool false) kr .nil), ?_, H0.below⟩
    rfl
theorem fr2 (s : ByteArray) (h : ByteArray.size s ≤ 4000) : strOfNums [((BitVec.toNat (BitVec.ofNat 8 (ByteArray.size s % 256)) : Nat) : Int), ((BitVec.toNat (BitVec.ofNat 8 (ByteArray.size s / 256)) : Nat) : Int)] = strB (le (BitVec.ofNat 32 (tl s).length) 2) := by
  have hl : (tl s).length = ByteArray.size s := tl_len s
  rw [hl, ← strOfNums_map]
  refine congrArg strOfNums ?_
  rw [le2]
  show _ = [((UInt8.ofNat (ByteArray.size s)).toNat : Int), (((UInt8.ofBitVec (BitVec.setWidth 8 (BitVec.ofNat 32 (ByteArray.size s) >>> 8))).toNat : Nat) : Int)]
  rw [hi2 _ (by omega), UInt8.toNat_ofNat', BitVec.toNat_ofNat, BitVec.toNat_ofNat]
  congr 1
  · omega
  · congr 1; omega
theorem fr4 (n : W) : strOfNums [((BitVec.toNat (BitVec.setWidth 8 (n % (256 : BitVec 32))) : Nat) : Int), ((BitVec.toNat (BitVec.setWidth 8 (n / (256 : BitVec 32) % (256 : BitVec 32))) : Nat) : Int), ((BitVec.toNat (BitVec.setWidth 8 (n / (65536 : BitVec 32) % (256 : BitVec 32))) : Nat) : Int), ((BitVec.toNat (BitVec.setWidth 8 (n / (16777216 : BitVec 32))) : Nat) : Int)] = strB (le n 4) := by
  rw [← strOfNums_map]
  refine congrArg strOfNums ?_
  show _ = [(((BitVec.setWidth 8 (n >>> 0)).toNat : Nat) : Int), (((BitVec.setWidth 8 (n >>> 8)).toNat : Nat) : Int), (((BitVec.setWidth 8 (n >>> 16)).toNat : Nat) : Int), (((BitVec.setWidth 8 (n >>> 24)).toNat : Nat) : Int)]
  have e : ∀ k, (BitVec.setWidth 8 (n >>> k)).toNat = n.toNat / 2 ^ k % 256 := fun k => by
    rw [BitVec.toNat_setWidth, BitVec.toNat_ushiftRight, Nat.shiftRight_eq_div_pow]
  rw [e, e, e, e]
  simp only [BitVec.toNat_setWidth, BitVec.toNat_umod, BitVec.toNat_udiv]
  show [((n.toNat % 256 % 256 : Nat) : Int), ((n.toNat / 256 % 256 % 256 : Nat) : Int), ((n.toNat / 65536 % 256 % 256 : Nat) : Int), ((n.toNat / 16777216 % 256 : Nat) : Int)] = [((n.toNat / 1 % 256 : Nat) : Int), ((n.toNat / 256 % 256 : Nat) : Int), ((n.toNat / 65536 % 256 : Nat) : Int), ((n.toNat / 16777216 % 256 : Nat) : Int)]
  rw [Nat.div_one, Nat.mod_mod, Nat.mod_mod, Nat.mod_mod]
set_option maxRecDepth 100000 in
set_option maxHeartbeats 2000000 in
theorem frameR_fn (s : ByteArray) (hs : ByteArray.size s ≤ 4000) : Fn Try.prog 28 #[.string s] (.string (strB (frB (tl s)))) := by
  refine Fn.intro (c := codeOf Try.f28) [.tmp 2] 37 Try.func28 kr kr kr fun w => ?_
  have H0 := St.start w
  refine g_sreg [0] kr kr ?_
  refine s_val (some 2) (.string (⟨#[]⟩)) (fun w => by kernel_rfl) kr ?_
  refine s_nil ?_
  refine g_sreg [0, 1, 2, 3, 4, 5, 6, 7, 8, 9, 10, 11, 12] kr kr ?_
  refine s_val (some 5) (.string s) (fun w => by kernel_rfl) kr ?_
  refine s_val (some 6) (.int .i64 ((ByteArray.size s : Nat) : Int)) (fun w => by kernel_rfl) kr ?_
  refine s_valE (some 7) (.int .i64 (Int.tmod ((ByteArray.size s : Nat) : Int) 256)) (.int .i64 (((ByteArray.size s) % 256 : Nat) : Int)) (fun w => by kernel_rfl) (int_eq (remN (ByteArray.size s) 256)) kr ?_
  refine s_valE (some 8) (.int .u8 (IntKind.u8.wrap ((((ByteArray.size s) % 256 : Nat) : Int)))) (.int .u8 ((BitVec.toNat (BitVec.ofNat 8 ((ByteArray.size s) % 256)) : Nat) : Int)) (fun w => by kernel_rfl) (bv_ofNat_u8 ((ByteArray.size s) % 256)) kr ?_
  refine s_val (some 9) (.string s) (fun w => by kernel_rfl) kr ?_
  refine s_val (some 10) (.int .i64 ((ByteArray.size s : Nat) : Int)) (fun w => by kernel_rfl) kr ?_
  refine s_valE (some 11) (.int .i64 (IntKind.i64.wrap (((ByteArray.size s : Nat) : Int).tdiv 256))) (.int .i64 (((ByteArray.size s) / 256 : Nat) : Int)) (fun w => by kernel_rfl) (int_eq (quoN_i64 (a := ByteArray.size s) (b := 256) (by omega))) kr ?_
  refine s_valE (some 12) (.int .u8 (IntKind.u8.wrap ((((ByteArray.size s) / 256 : Nat) : Int)))) (.int .u8 ((BitVec.toNat (BitVec.ofNat 8 ((ByteArray.size s) / 256)) : Nat) : Int)) (fun w => by kernel_rfl) (bv_ofNat_u8 ((ByteArray.size s) / 256)) kr ?_
  refine s_new H0 (some 13) (fun b => .slice (some ⟨b, 0, none⟩) 2 2) #[.int .u8 ((BitVec.toNat (BitVec.ofNat 8 ((ByteArray.size s) % 256)) : Nat) : Int), .int .u8 ((BitVec.toNat (BitVec.ofNat 8 ((ByteArray.size s) / 256)) : Nat) : Int)] 5 (fun w => by kernel_rfl) kr ?_
  intro b1 w1 H1; clear H0
  refine s_bytesStr H1 (some 14) 66 9 5 (.tmp 13) 0 b1 2 2 #[.int .u8 ((BitVec.toNat (BitVec.ofNat 8 ((ByteArray.size s) % 256)) : Nat) : Int), .int .u8 ((BitVec.toNat (BitVec.ofNat 8 ((ByteArray.size s) / 256)) : Nat) : Int)] 5 (0, 0) ([((BitVec.toNat (BitVec.ofNat 8 ((ByteArray.size s) % 256)) : Nat) : Int), ((BitVec.toNat (BitVec.ofNat 8 ((ByteArray.size s) / 256)) : Nat) : Int)]) kr kr kr kr kr kr kr (Rw.lit #[.int .u8 ((BitVec.toNat (BitVec.ofNat 8 ((ByteArray.size s) % 256)) : Nat) : Int), .int .u8 ((BitVec.toNat (BitVec.ofNat 8 ((ByteArray.size s) / 256)) : Nat) : Int)] 2 (by rfl) (by unfold maxLen; omega)) ?_
  rw [show strOfNums ([((BitVec.toNat (BitVec.ofNat 8 ((ByteArray.size s) % 256)) : Nat) : Int), ((BitVec.toNat (BitVec.ofNat 8 ((ByteArray.size s) / 256)) : Nat) : Int)]) = strB (le (BitVec.ofNat 32 (tl s).length) 2) from fr2 s (by omega)]
  refine s_val (some 15) (.string s) (fun w => by kernel_rfl) kr ?_
  have hz1 : ByteArray.size ((strB (le (BitVec.ofNat 32 (tl s).length) 2)) ++ s) = ByteArray.size (strB (le (BitVec.ofNat 32 (tl s).length) 2)) + ByteArray.size s := add_size _ _
  have hz2 : ByteArray.size (strB (le (BitVec.ofNat 32 (tl s).length) 2)) = 2 := le_size _ _
  refine s_op (some 16) _ (.string ((strB (le (BitVec.ofNat 32 (tl s).length) 2)) ++ s)) kr kr (fun o w ho => sadd_run (t := 9) (t' := 9) (x := (.tmp 14)) (y := (.tmp 15)) (strB (le (BitVec.ofNat 32 (tl s).length) 2)) s w ho kr kr (by omega)) ?_
  refine s_val (some 3) (.string ((strB (le (BitVec.ofNat 32 (tl s).length) 2)) ++ s)) (fun w => by kernel_rfl) kr ?_
  refine s_nil ?_
  refine g_sreg [0, 1, 2] kr kr ?_
  refine s_val (some 17) (.string ((strB (le (BitVec.ofNat 32 (tl s).length) 2)) ++ s)) (fun w => by kernel_rfl) kr ?_
  refine s_call H1 (some 18) 44 #[.string ((strB (le (BitVec.ofNat 32 (tl s).length) 2)) ++ s)] (.int .u32 ((BitVec.toNat (crc (tl ((strB (le (BitVec.ofNat 32 (tl s).length) 2)) ++ s))) : Nat) : Int)) (ofR_fn ((strB (le (BitVec.ofNat 32 (tl s).length) 2)) ++ s) (by omega)) (fun w => by kernel_rfl) kr ?_
  intro w2 H2; clear H1
  refine s_val (some 4) (.int .u32 ((BitVec.toNat (crc (tl ((strB (le (BitVec.ofNat 32 (tl s).length) 2)) ++ s))) : Nat) : Int)) (fun w => by kernel_rfl) kr ?_
  refine s_nil ?_
  refine g_sreg [0, 1, 2, 3, 4, 5, 6, 7, 8, 9, 10, 11, 12, 13, 14, 15, 16, 17, 18] kr kr ?_
  refine s_val (some 19) (.string ((strB (le (BitVec.ofNat 32 (tl s).length) 2)) ++ s)) (fun w => by kernel_rfl) kr ?_
  refine s_val (some 20) (.int .u32 ((BitVec.toNat (crc (tl ((strB (le (BitVec.ofNat 32 (tl s).length) 2)) ++ s))) : Nat) : Int)) (fun w => by kernel_rfl) kr ?_
  refine s_valE (some 21) (.int .u32 (Int.tmod (((BitVec.toNat (crc (tl ((strB (le (BitVec.ofNat 32 (tl s).length) 2)) ++ s))) : Nat) : Int)) (256))) (.int .u32 ((BitVec.toNat ((crc (tl ((strB (le (BitVec.ofNat 32 (tl s).length) 2)) ++ s))) % (256 : BitVec 32)) : Nat) : Int)) (fun w => by kernel_rfl) (bv_rem_u32 (crc (tl ((strB (le (BitVec.ofNat 32 (tl s).length) 2)) ++ s))) (256 : BitVec 32)) kr ?_
  refine s_valE (some 22) (.int .u8 (IntKind.u8.wrap (((BitVec.toNat ((crc (tl ((strB (le (BitVec.ofNat 32 (tl s).length) 2)) ++ s))) % (256 : BitVec 32)) : Nat) : Int)))) (.int .u8 ((BitVec.toNat (BitVec.setWidth 8 ((crc (tl ((strB (le (BitVec.ofNat 32 (tl s).length) 2)) ++ s))) % (256 : BitVec 32))) : Nat) : Int)) (fun w => by kernel_rfl) (bv_conv_u8 ((crc (tl ((strB (le (BitVec.ofNat 32 (tl s).length) 2)) ++ s))) % (256 : BitVec 32))) kr ?_
  refine s_val (some 23) (.int .u32 ((BitVec.toNat (crc (tl ((strB (le (BitVec.ofNat 32 (tl s).length) 2)) ++ s))) : Nat) : Int)) (fun w => by kernel_rfl) kr ?_
  refine s_valE (some 24) (.int .u32 (IntKind.u32.wrap (Int.tdiv (((BitVec.toNat (crc (tl ((strB (le (BitVec.ofNat 32 (tl s).length) 2)) ++ s))) : Nat) : Int)) (256)))) (.int .u32 ((BitVec.toNat ((crc (tl ((strB (le (BitVec.ofNat 32 (tl s).length) 2)) ++ s))) / (256 : BitVec 32)) : Nat) : Int)) (fun w => by kernel_rfl) (bv_quo_u32 (crc (tl ((strB (le (BitVec.ofNat 32 (tl s).length) 2)) ++ s))) (256 : BitVec 32)) kr ?_
  refine s_valE (some 25) (.int .u32 (Int.tmod (((BitVec.toNat ((crc (tl ((strB (le (BitVec.ofNat 32 (tl s).length) 2)) ++ s))) / (256 : BitVec 32)) : Nat) : Int)) (256))) (.int .u32 ((BitVec.toNat (((crc (tl ((strB (le (BitVec.ofNat 32 (tl s).length) 2)) ++ s))) / (256 : BitVec 32)) % (256 : BitVec 32)) : Nat) : Int)) (fun w => by kernel_rfl) (bv_rem_u32 ((crc (tl ((strB (le (BitVec.ofNat 32 (tl s).length) 2)) ++ s))) / (256 : BitVec 32)) (256 : BitVec 32)) kr ?_
  refine s_valE (some 26) (.int .u8 (IntKind.u8.wrap (((BitVec.toNat (((crc (tl ((strB (le (BitVec.ofNat 32 (tl s).length) 2)) ++ s))) / (256 : BitVec 32)) % (256 : BitVec 32)) : Nat) : Int)))) (.int .u8 ((BitVec.toNat (BitVec.setWidth 8 (((crc (tl ((strB (le (BitVec.ofNat 32 (tl s).length) 2)) ++ s))) / (256 : BitVec 32)) % (256 : BitVec 32))) : Nat) : Int)) (fun w => by kernel_rfl) (bv_conv_u8 (((crc (tl ((strB (le (BitVec.ofNat 32 (tl s).length) 2)) ++ s))) / (256 : BitVec 32)) % (256 : BitVec 32))) kr ?_
  refine s_val (some 27) (.int .u32 ((BitVec.toNat (crc (tl ((strB (le (BitVec.ofNat 32 (tl s).length) 2)) ++ s))) : Nat) : Int)) (fun w => by kernel_rfl) kr ?_
  refine s_valE (some 28) (.int .u32 (IntKind.u32.wrap (Int.tdiv (((BitVec.toNat (crc (tl ((strB (le (BitVec.ofNat 32 (tl s).length) 2)) ++ s))) : Nat) : Int)) (65536)))) (.int .u32 ((BitVec.toNat ((crc (tl ((strB (le (BitVec.ofNat 32 (tl s).length) 2)) ++ s))) / (65536 : BitVec 32)) : Nat) : Int)) (fun w => by kernel_rfl) (bv_quo_u32 (crc (tl ((strB (le (BitVec.ofNat 32 (tl s).length) 2)) ++ s))) (65536 : BitVec 32)) kr ?_
  refine s_valE (some 29) (.int .u32 (Int.tmod (((BitVec.toNat ((crc (tl ((strB (le (BitVec.ofNat 32 (tl s).length) 2)) ++ s))) / (65536 : BitVec 32)) : Nat) : Int)) (256))) (.int .u32 ((BitVec.toNat (((crc (tl ((strB (le (BitVec.ofNat 32 (tl s).length) 2)) ++ s))) / (65536 : BitVec 32)) % (256 : BitVec 32)) : Nat) : Int)) (fun w => by kernel_rfl) (bv_rem_u32 ((crc (tl ((strB (le (BitVec.ofNat 32 (tl s).length) 2)) ++ s))) / (65536 : BitVec 32)) (256 : BitVec 32)) kr ?_
  refine s_valE (some 30) (.int .u8 (IntKind.u8.wrap (((BitVec.toNat (((crc (tl ((strB (le (BitVec.ofNat 32 (tl s).length) 2)) ++ s))) / (65536 : BitVec 32)) % (256 : BitVec 32)) : Nat) : Int)))) (.int .u8 ((BitVec.toNat (BitVec.setWidth 8 (((crc (tl ((strB (le (BitVec.ofNat 32 (tl s).length) 2)) ++ s))) / (65536 : BitVec 32)) % (256 : BitVec 32))) : Nat) : Int)) (fun w => by kernel_rfl) (bv_conv_u8 (((crc (tl ((strB (le (BitVec.ofNat 32 (tl s).length) 2)) ++ s))) / (65536 : BitVec 32)) % (256 : BitVec 32))) kr ?_
  refine s_val (some 31) (.int .u32 ((BitVec.toNat (crc (tl ((strB (le (BitVec.ofNat 32 (tl s).length) 2)) ++ s))) : Nat) : Int)) (fun w => by kernel_rfl) kr ?_
  refine s_valE (some 32) (.int .u32 (IntKind.u32.wrap (Int.tdiv (((BitVec.toNat (crc (tl ((strB (le (BitVec.ofNat 32 (tl s).length) 2)) ++ s))) : Nat) : Int)) (16777216)))) (.int .u32 ((BitVec.toNat ((crc (tl ((strB (le (BitVec.ofNat 32 (tl s).length) 2)) ++ s))) / (16777216 : BitVec 32)) : Nat) : Int)) (fun w => by kernel_rfl) (bv_quo_u32 (crc (tl ((strB (le (BitVec.ofNat 32 (tl s).length) 2)) ++ s))) (16777216 : BitVec 32)) kr ?_
  refine s_valE (some 33) (.int .u8 (IntKind.u8.wrap (((BitVec.toNat ((crc (tl ((strB (le (BitVec.ofNat 32 (tl s).length) 2)) ++ s))) / (16777216 : BitVec 32)) : Nat) : Int)))) (.int .u8 ((BitVec.toNat (BitVec.setWidth 8 ((crc (tl ((strB (le (BitVec.ofNat 32 (tl s).length) 2)) ++ s))) / (16777216 : BitVec 32))) : Nat) : Int)) (fun w => by kernel_rfl) (bv_conv_u8 ((crc (tl ((strB (le (BitVec.ofNat 32 (tl s).length) 2)) ++ s))) / (16777216 : BitVec 32))) kr ?_
  refine s_new H2 (some 34) (fun b => .slice (some ⟨b, 0, none⟩) 4 4) #[.int .u8 ((BitVec.toNat (BitVec.setWidth 8 ((crc (tl ((strB (le (BitVec.ofNat 32 (tl s).length) 2)) ++ s))) % (256 : BitVec 32))) : Nat) : Int), .int .u8 ((BitVec.toNat (BitVec.setWidth 8 (((crc (tl ((strB (le (BitVec.ofNat 32 (tl s).length) 2)) ++ s))) / (256 : BitVec 32)) % (256 : BitVec 32))) : Nat) : Int), .int .u8 ((BitVec.toNat (BitVec.setWidth 8 (((crc (tl ((strB (le (BitVec.ofNat 32 (tl s).length) 2)) ++ s))) / (65536 : BitVec 32)) % (256 : BitVec 32))) : Nat) : Int), .int .u8 ((BitVec.toNat (BitVec.setWidth 8 ((crc (tl ((strB (le (BitVec.ofNat 32 (tl s).length) 2)) ++ s))) / (16777216 : BitVec 32))) : Nat) : Int)] 5 (fun w => by kernel_rfl) kr ?_
  intro b2 w3 H3; clear H2
  refine s_bytesStr H3 (some 35) 66 9 5 (.tmp 34) 0 b2 4 4 #[.int .u8 ((BitVec.toNat (BitVec.setWidth 8 ((crc (tl ((strB (le (BitVec.ofNat 32 (tl s).length) 2)) ++ s))) % (256 : BitVec 32))) : Nat) : Int), .int .u8 ((BitVec.toNat (BitVec.setWidth 8 (((crc (tl ((strB (le (BitVec.ofNat 32 (tl s).length) 2)) ++ s))) / (256 : BitVec 32)) % (256 : BitVec 32))) : Nat) : Int), .int .u8 ((BitVec.toNat (BitVec.setWidth 8 (((crc (tl ((strB (le (BitVec.ofNat 32 (tl s).length) 2)) ++ s))) / (65536 : BitVec 32)) % (256 : BitVec 32))) : Nat) : Int), .int .u8 ((BitVec.toNat (BitVec.setWidth 8 ((crc (tl ((strB (le (BitVec.ofNat 32 (tl s).length) 2)) ++ s))) / (16777216 : BitVec 32))) : Nat) : Int)] 5 (0, 0) ([((BitVec.toNat (BitVec.setWidth 8 ((crc (tl ((strB (le (BitVec.ofNat 32 (tl s).length) 2)) ++ s))) % (256 : BitVec 32))) : Nat) : Int), ((BitVec.toNat (BitVec.setWidth 8 (((crc (tl ((strB (le (BitVec.ofNat 32 (tl s).length) 2)) ++ s))) / (256 : BitVec 32)) % (256 : BitVec 32))) : Nat) : Int), ((BitVec.toNat (BitVec.setWidth 8 (((crc (tl ((strB (le (BitVec.ofNat 32 (tl s).length) 2)) ++ s))) / (65536 : BitVec 32)) % (256 : BitVec 32))) : Nat) : Int), ((BitVec.toNat (BitVec.setWidth 8 ((crc (tl ((strB (le (BitVec.ofNat 32 (tl s).length) 2)) ++ s))) / (16777216 : BitVec 32))) : Nat) : Int)]) kr kr kr kr kr kr kr (Rw.lit #[.int .u8 ((BitVec.toNat (BitVec.setWidth 8 ((crc (tl ((strB (le (BitVec.ofNat 32 (tl s).length) 2)) ++ s))) % (256 : BitVec 32))) : Nat) : Int), .int .u8 ((BitVec.toNat (BitVec.setWidth 8 (((crc (tl ((strB (le (BitVec.ofNat 32 (tl s).length) 2)) ++ s))) / (256 : BitVec 32)) % (256 : BitVec 32))) : Nat) : Int), .int .u8 ((BitVec.toNat (BitVec.setWidth 8 (((crc (tl ((strB (le (BitVec.ofNat 32 (tl s).length) 2)) ++ s))) / (65536 : BitVec 32)) % (256 : BitVec 32))) : Nat) : Int), .int .u8 ((BitVec.toNat (BitVec.setWidth 8 ((crc (tl ((strB (le (BitVec.ofNat 32 (tl s).length) 2)) ++ s))) / (16777216 : BitVec 32))) : Nat) : Int)] 4 (by rfl) (by unfold maxLen; omega)) ?_
  rw [show strOfNums ([((BitVec.toNat (BitVec.setWidth 8 ((crc (tl ((strB (le (BitVec.ofNat 32 (tl s).length) 2)) ++ s))) % (256 : BitVec 32))) : Nat) : Int), ((BitVec.toNat (BitVec.setWidth 8 (((crc (tl ((strB (le (BitVec.ofNat 32 (tl s).length) 2)) ++ s))) / (256 : BitVec 32)) % (256 : BitVec 32))) : Nat) : Int), ((BitVec.toNat (BitVec.setWidth 8 (((crc (tl ((strB (le (BitVec.ofNat 32 (tl s).length) 2)) ++ s))) / (65536 : BitVec 32)) % (256 : BitVec 32))) : Nat) : Int), ((BitVec.toNat (BitVec.setWidth 8 ((crc (tl ((strB (le (BitVec.ofNat 32 (tl s).length) 2)) ++ s))) / (16777216 : BitVec 32))) : Nat) : Int)]) = strB (le (crc (tl ((strB (le (BitVec.ofNat 32 (tl s).length) 2)) ++ s))) 4) from fr4 (crc (tl ((strB (le (BitVec.ofNat 32 (tl s).length) 2)) ++ s)))]
  have hz3 : ByteArray.size (((strB (le (BitVec.ofNat 32 (tl s).length) 2)) ++ s) ++ (strB (le (crc (tl ((strB (le (BitVec.ofNat 32 (tl s).length) 2)) ++ s))) 4))) = ByteArray.size ((strB (le (BitVec.ofNat 32 (tl s).length) 2)) ++ s) + ByteArray.size (strB (le (crc (tl ((strB (le (BitVec.ofNat 32 (tl s).length) 2)) ++ s))) 4)) := add_size _ _
  have hz4 : ByteArray.size (strB (le (crc (tl ((strB (le (BitVec.ofNat 32 (tl s).length) 2)) ++ s))) 4)) = 4 := le_size _ _
  refine s_op (some 36) _ (.string (((strB (le (BitVec.ofNat 32 (tl s).length) 2)) ++ s) ++ (strB (le (crc (tl ((strB (le (BitVec.ofNat 32 (tl s).length) 2)) ++ s))) 4)))) kr kr (fun o w ho => sadd_run (t := 9) (t' := 9) (x := (.tmp 19)) (y := (.tmp 35)) ((strB (le (BitVec.ofNat 32 (tl s).length) 2)) ++ s) (strB (le (crc (tl ((strB (le (BitVec.ofNat 32 (tl s).length) 2)) ++ s))) 4)) w ho kr kr (by omega)) ?_
  refine s_val (some 2) (.string (((strB (le (BitVec.ofNat 32 (tl s).length) 2)) ++ s) ++ (strB (le (crc (tl ((strB (le (BitVec.ofNat 32 (tl s).length) 2)) ++ s))) 4)))) (fun w => by kernel_rfl) kr ?_
  refine s_nil ?_
  refine g_ret kr ?_
  show ∃ vs, Res _ _ _ _ vs ∧ _
  refine ⟨[.string (((strB (le (BitVec.ofNat 32 (tl s).length) 2)) ++ s) ++ (strB (le (crc (tl ((strB (le (BitVec.ofNat 32 (tl s).length) 2)) ++ s))) 4)))], (.tmp (.string (((strB (le (BitVec.ofNat 32 (tl s).length) 2)) ++ s) ++ (strB (le (crc (tl ((strB (le (BitVec.ofNat 32 (tl s).length) 2)) ++ s))) 4)))) kr .nil), ?_, H3.below⟩
  rfl
end Go.Proofs.Ythpiojejhellhaa

namespace Go.Proofs.Ythpiojejhellhaa
open Go Go.RowKit Go.Proofs.Crc
set_option linter.unusedVariables false
end Go.Proofs.Ythpiojejhellhaa

namespace Go.Proofs.Ythpiojejhellhaa
open Go Go.RowKit
set_option linter.unusedVariables false
abbrev iN (n : Nat) : Value := .int .i64 ((n : Nat) : Int)
abbrev dvV (s : ByteArray) (a : Int) : Value := .agg #[.string s, .int .i64 a]
abbrev dvO (s : ByteArray) (a : Int) : Obj := .cells #[.string s, .int .i64 a] 23 (0, 0)
abbrev em : ByteArray := ⟨#[]⟩
/-- Which may be. -/
def rightM (s : ByteArray) (a : Int) : Bool := decide (s.size ≤ 200000) && (decide (0 ≤ a) && decide (a ≤ ((s.size : Nat) : Int)))
theorem rightM_iff {s : ByteArray} {a : Int} : rightM s a = true ↔ s.size ≤ 200000 ∧ 0 ≤ a ∧ a ≤ ((s.size : Nat) : Int) := by
  unfold rightM; simp
theorem right_fn (s : ByteArray) (a : Int) : Fn Try.prog 30 #[dvV s a] (.bool (rightM s a)) := by
  refine Fn.intro (c := codeOf Try.f30) [.tmp 2] 20 Try.func30 kr kr kr fun w => ?_
  have H0 := St.start w
  refine rS [.b, .v] H0 kr fun gs1 w1 H1 => ?_
  by_cases h1 : s.size ≤ 200000
  · by_cases h2 : 0 ≤ a
    · refine rS [.v, .l 0, .v, .e (v := .bool (decide (((s.size : Nat) : Int) ≤ 200000))) (v' := .bool true) (bool_eq (decide_eq_true (by omega))), .v, .v, .l 0, .e (v := .bool (decide (0 ≤ a))) (v' := .bool true) (bool_eq (decide_eq_true h2)), .v, .v, .v, .l 0, .v, .l 0, .v, .e (v := .bool (decide (a ≤ ((s.size : Nat) : Int)))) (v' := .bool (rightM s a)) (bool_eq (by unfold rightM; rw [decide_eq_true h1, decide_eq_true h2]; rfl)), .v, .v] H1 kr fun gs2 w2 H2 => ?_
      exact rRe [.tmp 2] [] (v := .bool (rightM s a)) (v' := .bool (rightM s a)) H2 rfl kr
    · refine rS [.v, .l 0, .v, .e (v := .bool (decide (((s.size : Nat) : Int) ≤ 200000))) (v' := .bool true) (bool_eq (decide_eq_true (by omega))), .v, .v, .l 0, .e (v := .bool (decide (0 ≤ a))) (v' := .bool false) (bool_eq (decide_eq_false h2)), .v, .v, .n, .n, .n, .n, .n, .n, .v, .v] H1 kr fun gs2 w2 H2 => ?_
      exact rRe [.tmp 2] [] (v := .bool false) (v' := .bool (rightM s a)) H2 (bool_eq (by unfold rightM; rw [decide_eq_false h2]; simp)) kr
  · refine rS [.v, .l 0, .v, .e (v := .bool (decide (((s.size : Nat) : Int) ≤ 200000))) (v' := .bool false) (bool_eq (decide_eq_false (by omega))), .v, .n, .n, .n, .v, .v, .n, .n, .n, .n, .n, .n, .v, .v] H1 kr fun gs2 w2 H2 => ?_
    exact rRe [.tmp 2] [] (v := .bool false) (v' := .bool (rightM s a)) H2 (bool_eq (by unfold rightM; rw [decide_eq_false h1]; simp)) kr
theorem rightR_fn (s : ByteArray) (a : Int) : Fn Try.prog 17 #[dvV s a] (.bool (rightM s a)) := by
  refine Fn.intro (c := codeOf Try.f17) [.tmp 2] 20 Try.func17 kr kr kr fun w => ?_
  have H0 := St.start w
  refine rS [.b, .v] H0 kr fun gs1 w1 H1 => ?_
  by_cases h1 : s.size ≤ 200000
  · by_cases h2 : 0 ≤ a
    · refine rS [.v, .l 0, .v, .e (v := .bool (decide (((s.size : Nat) : Int) ≤ 200000))) (v' := .bool true) (bool_eq (decide_eq_true (by omega))), .v, .v, .l 0, .e (v := .bool (decide (a ≥ 0))) (v' := .bool true) (bool_eq (decide_eq_true h2)), .v, .v, .v, .l 0, .v, .l 0, .v, .e (v := .bool (decide (a ≤ ((s.size : Nat) : Int)))) (v' := .bool (rightM s a)) (bool_eq (by unfold rightM; rw [decide_eq_true h1, decide_eq_true h2]; rfl)), .v, .v] H1 kr fun gs2 w2 H2 => ?_
      exact rRe [.tmp 2] [] (v := .bool (rightM s a)) (v' := .bool (rightM s a)) H2 rfl kr
    · refine rS [.v, .l 0, .v, .e (v := .bool (decide (((s.size : Nat) : Int) ≤ 200000))) (v' := .bool true) (bool_eq (decide_eq_true (by omega))), .v, .v, .l 0, .e (v := .bool (decide (a ≥ 0))) (v' := .bool false) (bool_eq (decide_eq_false h2)), .v, .v, .n, .n, .n, .n, .n, .n, .v, .v] H1 kr fun gs2 w2 H2 => ?_
      exact rRe [.tmp 2] [] (v := .bool false) (v' := .bool (rightM s a)) H2 (bool_eq (by unfold rightM; rw [decide_eq_false h2]; simp)) kr
  · refine rS [.v, .l 0, .v, .e (v := .bool (decide (((s.size : Nat) : Int) ≤ 200000))) (v' := .bool false) (bool_eq (decide_eq_false (by omega))), .v, .n, .n, .n, .v, .v, .n, .n, .n, .n, .n, .n, .v, .v] H1 kr fun gs2 w2 H2 => ?_
    exact rRe [.tmp 2] [] (v := .bool false) (v' := .bool (rightM s a)) H2 (bool_eq (by unfold rightM; rw [decide_eq_false h1]; simp)) kr
theorem first_fn (s : ByteArray) (a : Int) (n : Nat) (hs : s.size ≤ 1000000) (hn : n ≤ s.size) : Fn Try.prog 36 #[dvV s a, iN n] (.string (s.extract 0 n)) := by
  refine Fn.intro (c := codeOf Try.f36) [.tmp 4] 10 Try.func36 kr kr kr fun w => ?_
  have H0 := St.start w
  refine rS [.b, .v] H0 kr fun gs1 w1 H1 => ?_
  refine rS [.v, .l 0, .v, .o (ins := [((.tmp 6), .string s), ((.tmp 7), iN n)]) (v := .string (s.extract 0 n)) (fun ρ o w ho hi => scut_run (t := 9) (kd := .i64) kr (x := (.tmp 6)) (y := (.tmp 7)) s n ho hi.1 hi.2.1 hn w), .c (cloneS_fn (s.extract 0 n) (by rw [ByteArray.size_extract]; omega)), .v] H1 kr fun gs2 w2 H2 => ?_
  exact rRe [.tmp 4] [] (v := .string (s.extract 0 n)) (v' := .string (s.extract 0 n)) H2 rfl kr
end Go.Proofs.Ythpiojejhellhaa

namespace Go.Proofs.Ythpiojejhellhaa
open Go Go.RowKit
set_option linter.unusedVariables false
abbrev dvR (s : ByteArray) (a e : Int) : Value := .tuple #[dvV s a, .int .i64 e]
theorem heap_old {w w' : World} {b : Nat} {o : Obj} (h : w.heap[b]? = some o) (hb : Below w.heap.size w w') : w'.heap[b]? = some o := by rw [hb.block b (lt_of_heap h)]; exact h
theorem checked_append (s : ByteArray) (a : Int) (c0 c1 : Value) (pre : World → Prop) (r : ByteArray) (q e : Int) (hc : FnP Try.prog 42 #[c0, c1] pre (dvR r q e)) (hst : ∀ w w', pre w → Below w.heap.size w w' → pre w') (hr : rightM s a = true) :
    FnP Try.prog 34 #[dvV s a, .func (.func 42) #[] #[c0, c1]] pre (dvR r q e) := by
  refine FnP.intro (c := codeOf Try.f34) [.cell 4 23, .tmp 5] 14 Try.func34 kr kr kr fun w hP => ?_
  have H0 := St.start w
  refine rS [.b, .a, .v] H0 kr fun gs1 w1 H1 => ?_
  refine g_seq kr ?_
  refine rS [.l 0, .c (right_fn s a), .e (v := .bool (!(rightM s a))) (v' := .bool false) (bool_eq (by rw [hr]; rfl))] H1 kr fun gs2 w2 H2 => ?_
  refine g_cond_f kr kr ?_
  refine g_skip kr ?_
  show WP _ _ _ _ _ _
  refine rS [.v, .cp (pre := pre) hc [] (fun w' hb hd => hst w w' hP hb), .v, .v, .s 1, .v] H2 kr fun gs3 w3 H3 => ?_
  exact rRe [.cell 4 23, .tmp 5] [1] (v := dvR r q e) (v' := dvR r q e) H3 rfl kr
theorem checked_sync (s : ByteArray) (a : Int) (c0 : Value) (pre : World → Prop) (r : ByteArray) (q e : Int) (hc : FnP Try.prog 37 #[c0] pre (dvR r q e)) (hst : ∀ w w', pre w → Below w.heap.size w w' → pre w') (hr : rightM s a = true) :
    FnP Try.prog 34 #[dvV s a, .func (.func 37) #[] #[c0]] pre (dvR r q e) := by
  refine FnP.intro (c := codeOf Try.f34) [.cell 4 23, .tmp 5] 14 Try.func34 kr kr kr fun w hP => ?_
  have H0 := St.start w
  refine rS [.b, .a, .v] H0 kr fun gs1 w1 H1 => ?_
  refine g_seq kr ?_
  refine rS [.l 0, .c (right_fn s a), .e (v := .bool (!(rightM s a))) (v' := .bool false) (bool_eq (by rw [hr]; rfl))] H1 kr fun gs2 w2 H2 => ?_
  refine g_cond_f kr kr ?_
  refine g_skip kr ?_
  show WP _ _ _ _ _ _
  refine rS [.v, .cp (pre := pre) hc [] (fun w' hb hd => hst w w' hP hb), .v, .v, .s 1, .v] H2 kr fun gs3 w3 H3 => ?_
  exact rRe [.cell 4 23, .tmp 5] [1] (v := dvR r q e) (v' := dvR r q e) H3 rfl kr
theorem checked_crash (s : ByteArray) (a : Int) (c0 c1 : Value) (pre : World → Prop) (r : ByteArray) (q e : Int) (hc : FnP Try.prog 35 #[c0, c1] pre (dvR r q e)) (hst : ∀ w w', pre w → Below w.heap.size w w' → pre w') (hr : rightM s a = true) :
    FnP Try.prog 34 #[dvV s a, .func (.func 35) #[] #[c0, c1]] pre (dvR r q e) := by
  refine FnP.intro (c := codeOf Try.f34) [.cell 4 23, .tmp 5] 14 Try.func34 kr kr kr fun w hP => ?_
  have H0 := St.start w
  refine rS [.b, .a, .v] H0 kr fun gs1 w1 H1 => ?_
  refine g_seq kr ?_
  refine rS [.l 0, .c (right_fn s a), .e (v := .bool (!(rightM s a))) (v' := .bool false) (bool_eq (by rw [hr]; rfl))] H1 kr fun gs2 w2 H2 => ?_
  refine g_cond_f kr kr ?_
  refine g_skip kr ?_
  show WP _ _ _ _ _ _
  refine rS [.v, .cp (pre := pre) hc [] (fun w' hb hd => hst w w' hP hb), .v, .v, .s 1, .v] H2 kr fun gs3 w3 H3 => ?_
  exact rRe [.cell 4 23, .tmp 5] [1] (v := dvR r q e) (v' := dvR r q e) H3 rfl kr
theorem checked_cut (s : ByteArray) (a : Int) (c0 c1 : Value) (pre : World → Prop) (r : ByteArray) (q e : Int) (hc : FnP Try.prog 47 #[c0, c1] pre (dvR r q e)) (hst : ∀ w w', pre w → Below w.heap.size w w' → pre w') (hr : rightM s a = true) :
    FnP Try.prog 34 #[dvV s a, .func (.func 47) #[] #[c0, c1]] pre (dvR r q e) := by
  refine FnP.intro (c := codeOf Try.f34) [.cell 4 23, .tmp 5] 14 Try.func34 kr kr kr fun w hP => ?_
  have H0 := St.start w
  refine rS [.b, .a, .v] H0 kr fun gs1 w1 H1 => ?_
  refine g_seq kr ?_
  refine rS [.l 0, .c (right_fn s a), .e (v := .bool (!(rightM s a))) (v' := .bool false) (bool_eq (by rw [hr]; rfl))] H1 kr fun gs2 w2 H2 => ?_
  refine g_cond_f kr kr ?_
  refine g_skip kr ?_
  show WP _ _ _ _ _ _
  refine rS [.v, .cp (pre := pre) hc [] (fun w' hb hd => hst w w' hP hb), .v, .v, .s 1, .v] H2 kr fun gs3 w3 H3 => ?_
  exact rRe [.cell 4 23, .tmp 5] [1] (v := dvR r q e) (v' := dvR r q e) H3 rfl kr
end Go.Proofs.Ythpiojejhellhaa

namespace Go.Proofs.Ythpiojejhellhaa
open Go Go.RowKit
set_option linter.unusedVariables false
abbrev pB (b : Nat) : Value := .pointer (some ⟨b, 0, none⟩)
abbrev stO (t : ByteArray) : Obj := .cells #[.string t] 9 (0, 0)
abbrev inO (n : Int) : Obj := .cells #[.int .i64 n] 3 (0, 0)
abbrev two (b1 : Nat) (o1 : Obj) (b2 : Nat) (o2 : Obj) : World → Prop := fun w => w.heap[b1]? = some o1 ∧ w.heap[b2]? = some o2
theorem two_st {b1 : Nat} {o1 : Obj} {b2 : Nat} {o2 : Obj} : ∀ w w', two b1 o1 b2 o2 w → Below w.heap.size w w' → two b1 o1 b2 o2 w' := fun w w' h hb => ⟨heap_old h.1 hb, heap_old h.2 hb⟩
/-! ### Append -/
theorem append1_ok (bs bd : Nat) (s t : ByteArray) (a : Int) (hs : s.size + t.size ≤ 200000) :
    FnP Try.prog 42 #[pB bs, pB bd] (two bs (stO t) bd (dvO s a)) (dvR (s ++ t) a 0) := by
  refine FnP.intro (c := codeOf Try.f42) [.cell 2 23, .tmp 3] 19 Try.func42 kr kr kr fun w hP => ?_
  have H0 := St.start w
  obtain ⟨h1, h2⟩ := hP
  refine rS [.a, .v] H0 kr fun gs1 w1 H1 => ?_
  refine g_seq kr ?_
  refine rS [.f h1 (lt_of_heap h1), .v, .v, .f h2 (lt_of_heap h2), .v, .e (v := .int .i64 (IntKind.i64.wrap (200000 - ((s.size : Nat) : Int)))) (v' := .int .i64 (200000 - ((s.size : Nat) : Int))) (int_eq (wrap_i64 (by omega) (by omega))), .e (v := .bool (decide (((t.size : Nat) : Int) > 200000 - ((s.size : Nat) : Int)))) (v' := .bool false) (bool_eq (decide_eq_false (by omega)))] H1 kr fun gs2 w2 H2 => ?_
  refine g_cond_f kr kr ?_
  refine g_skip kr ?_
  show WP _ _ _ _ _ _
  refine rS [.v, .f h2 (lt_of_heap h2), .f h1 (lt_of_heap h1), .o (ins := [((.tmp 13), .string s), ((.tmp 14), .string t)]) (v := .string (s ++ t)) (fun ρ o w ho hi => sadd_run (t := 9) (t' := 9) (x := (.tmp 13)) (y := (.tmp 14)) s t w ho hi.1 hi.2.1 (by omega)), .v, .f h2 (lt_of_heap h2), .v, .s 0, .v] H2 kr fun gs3 w3 H3 => ?_
  exact rRe [.cell 2 23, .tmp 3] [0] (v := dvR (s ++ t) a 0) (v' := dvR (s ++ t) a 0) H3 rfl kr
theorem append1_no (bs bd : Nat) (s t : ByteArray) (a : Int) (hs1 : s.size ≤ 200000) (hs : ¬ s.size + t.size ≤ 200000) :
    FnP Try.prog 42 #[pB bs, pB bd] (two bs (stO t) bd (dvO s a)) (dvR em 0 2) := by
  refine FnP.intro (c := codeOf Try.f42) [.cell 2 23, .tmp 3] 19 Try.func42 kr kr kr fun w hP => ?_
  have H0 := St.start w
  obtain ⟨h1, h2⟩ := hP
  refine rS [.a, .v] H0 kr fun gs1 w1 H1 => ?_
  refine g_seq kr ?_
  refine rS [.f h1 (lt_of_heap h1), .v, .v, .f h2 (lt_of_heap h2), .v, .e (v := .int .i64 (IntKind.i64.wrap (200000 - ((s.size : Nat) : Int)))) (v' := .int .i64 (200000 - ((s.size : Nat) : Int))) (int_eq (wrap_i64 (by omega) (by omega))), .e (v := .bool (decide (((t.size : Nat) : Int) > 200000 - ((s.size : Nat) : Int)))) (v' := .bool true) (bool_eq (decide_eq_true (by omega)))] H1 kr fun gs2 w2 H2 => ?_
  refine g_cond_t kr kr ?_
  refine rS [.v, .s 0, .v] H2 kr fun gs3 w3 H3 => ?_
  exact rRe [.cell 2 23, .tmp 3] [0] (v := dvR em 0 2) (v' := dvR em 0 2) H3 rfl kr
theorem append_of (s t r : ByteArray) (a q e : Int) (hr : rightM s a = true) (hc : ∀ bs bd, FnP Try.prog 42 #[pB bs, pB bd] (two bs (stO t) bd (dvO s a)) (dvR r q e)) : Fn Try.prog 26 #[dvV s a, .string t] (dvR r q e) := by
  refine Fn.intro (c := codeOf Try.f26) [.cell 4 23, .tmp 5] 11 Try.func26 kr kr kr fun w => ?_
  have H0 := St.start w
  refine rS [.b, .b, .a, .v] H0 kr fun gs1 w1 H1 => ?_
  refine rS [.l 0, .v, .cp (pre := two (gs1 1).b (stO t) (gs1 0).b (dvO s a)) (checked_append s a (pB (gs1 1).b) (pB (gs1 0).b) (two (gs1 1).b (stO t) (gs1 0).b (dvO s a)) r q e (hc (gs1 1).b (gs1 0).b) two_st hr) [(1, ((gs1 1).b, stO t)), (0, ((gs1 0).b, dvO s a))] (fun w' hb hd => ⟨hd.1, hd.2.1⟩), .v, .v, .s 2, .v] H1 kr fun gs2 w2 H2 => ?_
  exact rRe [.cell 4 23, .tmp 5] [2] (v := dvR r q e) (v' := dvR r q e) H2 rfl kr
theorem append_ok (s t : ByteArray) (a : Int) (hr : rightM s a = true) (hs : s.size + t.size ≤ 200000) : Fn Try.prog 26 #[dvV s a, .string t] (dvR (s ++ t) a 0) :=
  append_of s t _ a _ _ hr fun bs bd => append1_ok bs bd s t a hs
theorem append_long (s t : ByteArray) (a : Int) (hr : rightM s a = true) (hs : ¬ s.size + t.size ≤ 200000) : Fn Try.prog 26 #[dvV s a, .string t] (dvR em 0 2) :=
  append_of s t _ a _ _ hr fun bs bd => append1_no bs bd s t a (rightM_iff.1 hr).1 hs
/-! ### Sync -/
theorem sync1_ok (bd : Nat) (s : ByteArray) (a : Int) : FnP Try.prog 37 #[pB bd] (fun w => w.heap[bd]? = some (dvO s a)) (dvR s ((s.size : Nat) : Int) 0) := by
  refine FnP.intro (c := codeOf Try.f37) [.cell 1 23, .tmp 2] 9 Try.func37 kr kr kr fun w h2 => ?_
  have H0 := St.start w
  refine rS [.a, .v] H0 kr fun gs1 w1 H1 => ?_
  refine rS [.v, .f h2 (lt_of_heap h2), .v, .f h2 (lt_of_heap h2), .v, .v, .s 0, .v] H1 kr fun gs2 w2 H2 => ?_
  exact rRe [.cell 1 23, .tmp 2] [0] (v := dvR s ((s.size : Nat) : Int) 0) (v' := dvR s ((s.size : Nat) : Int) 0) H2 rfl kr
theorem sync_ok (s : ByteArray) (a : Int) (hr : rightM s a = true) : Fn Try.prog 23 #[dvV s a] (dvR s ((s.size : Nat) : Int) 0) := by
  refine Fn.intro (c := codeOf Try.f23) [.cell 2 23, .tmp 3] 9 Try.func23 kr kr kr fun w => ?_
  have H0 := St.start w
  refine rS [.b, .a, .v] H0 kr fun gs1 w1 H1 => ?_
  refine rS [.l 0, .v, .cp (pre := fun w => w.heap[(gs1 0).b]? = some (dvO s a)) (checked_sync s a (pB (gs1 0).b) (fun w => w.heap[(gs1 0).b]? = some (dvO s a)) s ((s.size : Nat) : Int) 0 (sync1_ok (gs1 0).b s a) (fun w w' h hb => heap_old h hb) hr) [(0, ((gs1 0).b, dvO s a))] (fun w' hb hd => hd.1), .v, .v, .s 1, .v] H1 kr fun gs2 w2 H2 => ?_
  exact rRe [.cell 2 23, .tmp 3] [1] (v := dvR s ((s.size : Nat) : Int) 0) (v' := dvR s ((s.size : Nat) : Int) 0) H2 rfl kr
/-! ### Crash -/
/-- How much a crash leaves. -/
def leftM (s : ByteArray) (k : Nat) (m : Int) : Nat := k + min m.toNat (s.size - k)
theorem leftM_le {s : ByteArray} {k : Nat} {m : Int} (h : k ≤ s.size) : leftM s k m ≤ s.size := by unfold leftM; omega
theorem leftM_ge {s : ByteArray} {k : Nat} {m : Int} : k ≤ leftM s k m := by unfold leftM; omega
theorem crash1_ok (bd bm : Nat) (s : ByteArray) (k : Nat) (m : Int) (hs : s.size ≤ 200000) (hk : k ≤ s.size) :
    FnP Try.prog 35 #[pB bd, pB bm] (two bd (dvO s ((k : Nat) : Int)) bm (inO m)) (dvR (s.extract 0 (leftM s k m)) ((leftM s k m : Nat) : Int) 0) := by
  refine FnP.intro (c := codeOf Try.f35) [.cell 2 23, .tmp 3] 22 Try.func35 kr kr kr fun w hP => ?_
  have H0 := St.start w
  obtain ⟨h1, h2⟩ := hP
  refine rS [.a, .v] H0 kr fun gs1 w1 H1 => ?_
  refine rS [.v, .f h1 (lt_of_heap h1), .f h2 (lt_of_heap h2), .e (v := .int .i64 (if (0 : Int) > m then (0 : Int) else m)) (v' := iN m.toNat) (int_eq (by split <;> omega)), .v, .f h1 (lt_of_heap h1), .v, .v, .f h1 (lt_of_heap h1), .e (v := .int .i64 (IntKind.i64.wrap (((s.size : Nat) : Int) - ((k : Nat) : Int)))) (v' := iN (s.size - k)) (int_eq (wrapSub_i64 (by omega))), .e (v := .int .i64 (if ((s.size - k : Nat) : Int) < ((m.toNat : Nat) : Int) then ((s.size - k : Nat) : Int) else ((m.toNat : Nat) : Int))) (v' := iN (min m.toNat (s.size - k))) (int_eq (minN _ _)), .e (v := .int .i64 (IntKind.i64.wrap (((k : Nat) : Int) + ((min m.toNat (s.size - k) : Nat) : Int)))) (v' := iN (leftM s k m)) (int_eq (wrapAdd_i64 (by omega))), .v] H1 kr fun gs2 w2 H2 => ?_
  refine rS [.f h1 (lt_of_heap h1), .v, .c (first_fn s ((k : Nat) : Int) (leftM s k m) (by omega) (leftM_le hk)), .v, .v, .s 0, .v] H2 kr fun gs3 w3 H3 => ?_
  exact rRe [.cell 2 23, .tmp 3] [0] (v := dvR (s.extract 0 (leftM s k m)) ((leftM s k m : Nat) : Int) 0) (v' := dvR (s.extract 0 (leftM s k m)) ((leftM s k m : Nat) : Int) 0) H3 rfl kr
theorem crash_ok (s : ByteArray) (k : Nat) (m : Int) (hs : s.size ≤ 200000) (hk : k ≤ s.size) : Fn Try.prog 20 #[dvV s ((k : Nat) : Int), .int .i64 m] (dvR (s.extract 0 (leftM s k m)) ((leftM s k m : Nat) : Int) 0) := by
  refine Fn.intro (c := codeOf Try.f20) [.cell 4 23, .tmp 5] 11 Try.func20 kr kr kr fun w => ?_
  have H0 := St.start w
  have hr : rightM s ((k : Nat) : Int) = true := rightM_iff.2 ⟨hs, by omega, by omega⟩
  refine rS [.b, .b, .a, .v] H0 kr fun gs1 w1 H1 => ?_
  refine rS [.l 0, .v, .cp (pre := two (gs1 0).b (dvO s ((k : Nat) : Int)) (gs1 1).b (inO m)) (checked_crash s ((k : Nat) : Int) (pB (gs1 0).b) (pB (gs1 1).b) (two (gs1 0).b (dvO s ((k : Nat) : Int)) (gs1 1).b (inO m)) _ _ _ (crash1_ok (gs1 0).b (gs1 1).b s k m hs hk) two_st hr) [(0, ((gs1 0).b, dvO s ((k : Nat) : Int))), (1, ((gs1 1).b, inO m))] (fun w' hb hd => ⟨hd.1, hd.2.1⟩), .v, .v, .s 2, .v] H1 kr fun gs2 w2 H2 => ?_
  exact rRe [.cell 4 23, .tmp 5] [2] (v := dvR (s.extract 0 (leftM s k m)) ((leftM s k m : Nat) : Int) 0) (v' := dvR (s.extract 0 (leftM s k m)) ((leftM s k m : Nat) : Int) 0) H2 rfl kr
/-! ### Cut -/
theorem cut1_ok (bn bd : Nat) (s : ByteArray) (k n : Nat) (hs : s.size ≤ 200000) (hn : n ≤ s.size) :
    FnP Try.prog 47 #[pB bn, pB bd] (two bn (inO ((n : Nat) : Int)) bd (dvO s ((k : Nat) : Int))) (dvR (s.extract 0 n) ((min k n : Nat) : Int) 0) := by
  refine FnP.intro (c := codeOf Try.f47) [.cell 2 23, .tmp 3] 22 Try.func47 kr kr kr fun w hP => ?_
  have H0 := St.start w
  obtain ⟨h1, h2⟩ := hP
  refine rS [.a, .v] H0 kr fun gs1 w1 H1 => ?_
  refine g_seq kr ?_
  refine rS [.f h1 (lt_of_heap h1), .e (v := .bool (decide (((n : Nat) : Int) < 0))) (v' := .bool false) (bool_eq (decide_eq_false (by omega))), .v, .f h1 (lt_of_heap h1), .v, .f h2 (lt_of_heap h2), .v, .e (v := .bool (decide (((n : Nat) : Int) > ((s.size : Nat) : Int)))) (v' := .bool false) (bool_eq (decide_eq_false (by omega))), .v] H1 kr fun gs2 w2 H2 => ?_
  refine g_cond_f kr kr ?_
  refine g_skip kr ?_
  show WP _ _ _ _ _ _
  refine dS [.f h2 (lt_of_heap h2), .f h1 (lt_of_heap h1), .c (first_fn s ((k : Nat) : Int) n (by omega) hn), .v, .f h2 (lt_of_heap h2), .f h1 (lt_of_heap h1), .e (v := .int .i64 (if ((n : Nat) : Int) < ((k : Nat) : Int) then ((n : Nat) : Int) else ((k : Nat) : Int))) (v' := iN (min k n)) (int_eq (minN _ _)), .v, .s 0, .v] H2 kr fun w3 H3 => ?_
  exact rRe [.cell 2 23, .tmp 3] [0] (v := dvR (s.extract 0 n) ((min k n : Nat) : Int) 0) (v' := dvR (s.extract 0 n) ((min k n : Nat) : Int) 0) H3 rfl kr
theorem cut_of (s r : ByteArray) (a n q e : Int) (hr : rightM s a = true) (hc : ∀ bn bd, FnP Try.prog 47 #[pB bn, pB bd] (two bn (inO n) bd (dvO s a)) (dvR r q e)) : Fn Try.prog 32 #[dvV s a, .int .i64 n] (dvR r q e) := by
  refine Fn.intro (c := codeOf Try.f32) [.cell 4 23, .tmp 5] 11 Try.func32 kr kr kr fun w => ?_
  have H0 := St.start w
  refine rS [.b, .b, .a, .v] H0 kr fun gs1 w1 H1 => ?_
  refine rS [.l 0, .v, .cp (pre := two (gs1 1).b (inO n) (gs1 0).b (dvO s a)) (checked_cut s a (pB (gs1 1).b) (pB (gs1 0).b) (two (gs1 1).b (inO n) (gs1 0).b (dvO s a)) r q e (hc (gs1 1).b (gs1 0).b) two_st hr) [(1, ((gs1 1).b, inO n)), (0, ((gs1 0).b, dvO s a))] (fun w' hb hd => ⟨hd.1, hd.2.1⟩), .v, .v, .s 2, .v] H1 kr fun gs2 w2 H2 => ?_
  exact rRe [.cell 4 23, .tmp 5] [2] (v := dvR r q e) (v' := dvR r q e) H2 rfl kr
theorem cut_ok (s : ByteArray) (k n : Nat) (hs : s.size ≤ 200000) (hk : k ≤ s.size) (hn : n ≤ s.size) : Fn Try.prog 32 #[dvV s ((k : Nat) : Int), iN n] (dvR (s.extract 0 n) ((min k n : Nat) : Int) 0) :=
  cut_of s _ _ _ _ _ (rightM_iff.2 ⟨hs, by omega, by omega⟩) fun bn bd => cut1_ok bn bd s k n hs hn
end Go.Proofs.Ythpiojejhellhaa

namespace Go.Proofs.Ythpiojejhellhaa
open Go Go.RowKit
set_option linter.unusedVariables false
end Go.Proofs.Ythpiojejhellhaa

namespace Go.Proofs.Ythpiojejhellhaa
open Go Go.RowKit Go.Proofs.Crc
set_option linter.unusedVariables false
/-- Texts, one behind the other. -/
def sS : Fl ByteArray where
  K := 1
  cs x := [.string x]
  pos := by decide
  len _ := rfl
  one _ := fun u hu => by obtain rfl := List.mem_singleton.1 hu; rfl
theorem cells_sS : ∀ L : List ByteArray, cellsF sS L = cellsS L
  | [] => rfl
  | x :: r => by
    show Value.string x :: cellsF sS r = _
    rw [cells_sS r]; rfl
abbrev lgV (s : ByteArray) (a : Int) (p : Option Addr) (n c : Nat) : Value := .agg #[.string s, .int .i64 a, .slice p n c]
abbrev lgO (s : ByteArray) (a : Int) (p : Option Addr) (n c : Nat) : Obj := .cells #[.string s, .int .i64 a, .slice p n c] 26 (0, 0)
def recB (r : ByteArray) : Bool := decide (1 ≤ r.size) && decide (r.size ≤ 4000)
theorem recB_iff {r : ByteArray} : recB r = true ↔ 1 ≤ r.size ∧ r.size ≤ 4000 := by unfold recB; simp
theorem recB_R {r : ByteArray} : recB r = true ↔ IsR (tl r) := by rw [recB_iff]; unfold IsR; rw [tl_len]
theorem all_R {A : List ByteArray} : A.all recB = true ↔ ∀ x ∈ A, IsR (tl x) := by
  rw [List.all_eq_true]
  exact ⟨fun h x hx => recB_R.1 (h x hx), fun h x hx => recB_R.2 (h x hx)⟩
/-- Which may be. -/
def rightL (s : ByteArray) (a : Int) (A : List ByteArray) : Bool := A.all recB && (rightM s a && decide (strB (flat A) = s))
theorem rightL_iff {s : ByteArray} {a : Int} {A : List ByteArray} : rightL s a A = true ↔ (∀ x ∈ A, IsR (tl x)) ∧ rightM s a = true ∧ strB (flat A) = s := by
  unfold rightL
  rw [Bool.and_eq_true, Bool.and_eq_true, all_R, decide_eq_true_iff]
theorem fst_nil0 : fst [] = [] := fst_short (by decide)
theorem sc_flat0 {A : List ByteArray} (h : ∀ x ∈ A, IsR (tl x)) : Sc (flat A) A (flat A).length := by
  have := Sc.mk' A [] h fst_nil0
  rwa [List.append_nil] at this
theorem right_scan {s : ByteArray} {a : Int} {A rs : List ByteArray} {p : Nat} (hr : rightM s a = true) (h : Sc (tl s) rs p) : rightL s a A = (decide (p = s.size) && decide (rs = A)) := by
  apply Bool.eq_iff_iff.2
  rw [rightL_iff, Bool.and_eq_true, decide_eq_true_iff, decide_eq_true_iff]
  constructor
  · rintro ⟨h1, _, h2⟩
    have e : tl s = flat A := by rw [← h2, tl_strB]
    rw [e] at h
    obtain ⟨rfl, rfl⟩ := h.uniq (sc_flat0 h1)
    exact ⟨by rw [← tl_len, e], rfl⟩
  · rintro ⟨h1, rfl⟩
    refine ⟨h.1, hr, ?_⟩
    apply tl_inj
    rw [tl_strB]
    have h3 := h.2.2.1
    rw [h1, ← tl_len, List.drop_length, List.append_nil] at h3
    exact h3.symm
/-- What a call answers. -/
structure LR where
  s : ByteArray
  a : Int
  A : List ByteArray
  e : Int
def errL (e : Int) : LR := ⟨em, 0, [], e⟩
def beginM (s : ByteArray) (a : Int) (A : List ByteArray) (r : ByteArray) : LR :=
  if recB r = true ∧ rightL s a A = true then (if s.size + (r.size + 6) ≤ 200000 then ⟨s ++ strB (frB (tl r)), a, A ++ [r], 0⟩ else errL 2) else errL 1
def appendM (s : ByteArray) (a : Int) (A : List ByteArray) (r : ByteArray) : LR :=
  if (beginM s a A r).e = 0 then ⟨(beginM s a A r).s, ((beginM s a A r).s.size : Nat), (beginM s a A r).A, 0⟩ else beginM s a A r
def okLog (m : LR) (v : Value) (T : List (Nat × Obj)) : Prop := ∃ (p : Option Addr) (n c : Nat), RowF sS 9 p n c T m.A ∧ v = .tuple #[lgV m.s m.a p n c, .int .i64 m.e]
def okLg (s : ByteArray) (a : Int) (A : List ByteArray) (v : Value) (T : List (Nat × Obj)) : Prop := ∃ (p : Option Addr) (n c : Nat), RowF sS 9 p n c T A ∧ v = lgV s a p n c
theorem okLog_err (e : Int) : okLog (errL e) (.tuple #[lgV em 0 none 0 0, .int .i64 e]) [] := ⟨none, 0, 0, .inl ⟨rfl, rfl, rfl, rfl, rfl⟩, rfl⟩
theorem begin_e {s : ByteArray} {a : Int} {A : List ByteArray} {r : ByteArray} : ((beginM s a A r).e = 0 ∧ beginM s a A r = ⟨s ++ strB (frB (tl r)), a, A ++ [r], 0⟩ ∧ recB r = true ∧ rightL s a A = true ∧ s.size + (r.size + 6) ≤ 200000) ∨ (beginM s a A r = errL 2 ∧ recB r = true ∧ rightL s a A = true ∧ ¬ s.size + (r.size + 6) ≤ 200000) ∨ (beginM s a A r = errL 1 ∧ ¬ (recB r = true ∧ rightL s a A = true)) := by
  unfold beginM
  by_cases h : recB r = true ∧ rightL s a A = true
  · rw [if_pos h]
    by_cases h2 : s.size + (r.size + 6) ≤ 200000
    · rw [if_pos h2]; exact .inl ⟨rfl, rfl, h.1, h.2, h2⟩
    · rw [if_neg h2]; exact .inr (.inl ⟨rfl, h.1, h.2, h2⟩)
  · rw [if_neg h]; exact .inr (.inr ⟨rfl, h⟩)
theorem flat_snoc1 (A : List ByteArray) (r : ByteArray) : strB (flat (A ++ [r])) = strB (flat A) ++ strB (frB (tl r)) := by
  apply tl_inj
  rw [tl_add, tl_strB, tl_strB, tl_strB, flat_snoc]
theorem right_next {s : ByteArray} {a : Int} {A : List ByteArray} {r : ByteArray} (hr : recB r = true) (h : rightL s a A = true) (hz : s.size + (r.size + 6) ≤ 200000) : rightL (s ++ strB (frB (tl r))) a (A ++ [r]) = true := by
  obtain ⟨h1, h2, h3⟩ := rightL_iff.1 h
  obtain ⟨q1, q2, q3⟩ := rightM_iff.1 h2
  have hs : (s ++ strB (frB (tl r))).size = s.size + (r.size + 6) := by rw [add_size, strB_size, frB_len, tl_len]
  refine rightL_iff.2 ⟨fun x hx => ?_, rightM_iff.2 ⟨by omega, q2, by omega⟩, by rw [flat_snoc1, h3]⟩
  rcases List.mem_append.1 hx with h9 | h9
  · exact h1 x h9
  · rw [List.mem_singleton.1 h9]; exact recB_R.1 hr
/-- What a scan leaves. -/
def okScan (s : ByteArray) (v : Value) (T : List (Nat × Obj)) : Prop := ∃ (rs : List ByteArray) (z : Nat) (p : Option Addr) (n c : Nat), Sc (tl s) rs z ∧ RowF sS 9 p n c T rs ∧ v = .tuple #[.slice p n c, .int .i64 ((z : Nat) : Int)]
theorem scan_of {P : Program} {f : Nat} {args : Array Value} {s : ByteArray} (h : FnR P f args (fun _ => True) (RetT 9 (fun rs p => Sc (tl s) rs p))) : FnT P f args (fun _ => True) (okScan s) := fun w hw => by
  refine (h w hw).mono ?_
  rintro e w' ⟨v, rfl, hb, rs, p, hS, ⟨rfl, rfl⟩ | ⟨b, cap, n, cur, rfl, hle, hh, hn, hr⟩⟩
  · exact ⟨_, [], rfl, ⟨[], p, none, 0, 0, hS, .inl ⟨rfl, rfl, rfl, rfl, rfl⟩, rfl⟩, (St.start w).call hb⟩
  · exact ⟨_, [(b, .cells cur 9 (0, 0))], rfl, ⟨rs, p, some ⟨b, 0, none⟩, n, cap, hS, .inr ⟨b, cur, rfl, rfl, by rw [cells_sS]; exact hr⟩, rfl⟩, (St.start w).add hb hle hh⟩
theorem scanT_fn (s : ByteArray) (hs : s.size ≤ 1000000) : FnT Try.prog 31 #[.string s] (fun _ => True) (okScan s) := scan_of (scan_fn s hs)
theorem sc_len {s : ByteArray} {rs : List ByteArray} {z : Nat} (h : Sc (tl s) rs z) : rs.length ≤ s.size ∧ z ≤ s.size := by
  have h1 := flat_ge rs
  have h2 := congrArg List.length h.2.2.1
  rw [List.length_append, tl_len] at h2
  have h3 := h.2.1
  omega
theorem sc_ext {s : ByteArray} {rs : List ByteArray} {z : Nat} (h : Sc (tl s) rs z) : s.extract 0 z = strB (flat rs) := by
  apply tl_inj
  rw [tl_strB, tl_extract, List.drop_zero]
  have h3 := h.2.2.1
  have h4 := h.2.1
  rw [h3, List.take_left' h4]
theorem isRec_fn (s : ByteArray) : Fn Try.prog 19 #[.string s] (.bool (recB s)) := by
  by_cases h : 1 ≤ s.size ∧ s.size ≤ 4000
  · rw [recB_iff.2 h]; exact isRec_yes s h
  · rw [show recB s = false from Bool.eq_false_iff.2 fun q => h (recB_iff.1 q)]; exact isRec_no s h
end Go.Proofs.Ythpiojejhellhaa

namespace Go.Proofs.Ythpiojejhellhaa
open Go Go.ChangeShapes Go.WideShapes Go.ChangeAt Go.RowKit
set_option linter.unusedVariables false
theorem cellsStD : Try.prog.cellsOf 9 = 1 := kr
end Go.Proofs.Ythpiojejhellhaa

namespace Go.Proofs.Ythpiojejhellhaa
open Go Go.ChangeShapes Go.WideShapes Go.ChangeAt Go.RowKit
set_option linter.unusedVariables false
set_option maxRecDepth 100000
theorem extract_ofL {C : Array Value} {o m : Nat} {l : List Value} (hl : l.length = m) (hm : 0 < m) (h : ∀ j, j < m → C[o + j]? = l[j]?) : o + m ≤ C.size ∧ C.extract o (o + m) = l.toArray := by
  have hs : o + m ≤ C.size := by
    have h1 := h (m - 1) (by omega)
    rw [List.getElem?_eq_getElem (by omega)] at h1
    have := (Array.getElem?_eq_some_iff.1 h1).1
    omega
  refine ⟨hs, ?_⟩
  apply Array.toList_inj.1
  apply List.ext_getElem?
  intro i
  rw [Array.getElem?_toList, Array.getElem?_extract, List.toList_toArray]
  by_cases hi : i < m
  · rw [if_pos (by omega), h i hi]
  · rw [if_neg (by omega), List.getElem?_eq_none (by omega)]
section
variable {H : Type} {enc : TypeId × Value → H} {W : World} {sp : Nat → Bool} {held : Bool}
theorem spot_noneL {a : Addr} {v : Value} (h : W.cell? a = some v) : a = ⟨a.block, a.off, none⟩ ∧ ∃ C T fz, W.heap[a.block]? = some (.cells C T fz) ∧ C[a.off]? = some v := by
  obtain ⟨b, o, sp⟩ := a
  unfold World.cell? at h
  split at h
  · rename_i C T fz hh
    cases sp with
    | none => simp at h; exact ⟨rfl, C, T, fz, hh, h⟩
    | some x => simp at h
  · cases h
theorem cell_atL {b o : Nat} {C : Array Value} {T : TypeId} {fz : Nat × Nat} {v : Option Value} (hh : W.heap[b]? = some (.cells C T fz)) (h : W.cell? ⟨b, o, none⟩ = v) : C[o]? = v := by
  unfold World.cell? at h; simp only [hh] at h; simpa using h
end
end Go.Proofs.Ythpiojejhellhaa

namespace Go.Proofs.Ythpiojejhellhaa
open Go Go.RowKit Go.Proofs.Crc
set_option linter.unusedVariables false
theorem take_next {A B : List ByteArray} {i : Nat} (h : A.take i = B.take i) (hA : i < A.length) (hB : i < B.length) (he : A[i] = B[i]) : A.take (i + 1) = B.take (i + 1) := by
  rw [List.take_succ_eq_append_getElem hA, List.take_succ_eq_append_getElem hB, h, he]
set_option maxRecDepth 100000 in
set_option maxHeartbeats 4000000 in
theorem equal_fn (p q : Option Addr) (n c m k : Nat) (A B : List ByteArray) (hn9 : n ≤ 1000000000) : FnP Try.prog 41 #[.slice p n c, .slice q m k] (fun w => AtF sS w p n A ∧ AtF sS w q m B) (.bool (decide (A = B))) := by
  refine FnP.intro (c := codeOf Try.f41) [.tmp 4] 26 Try.func41 kr kr kr fun w hP => ?_
  obtain ⟨⟨hA, hA2⟩, hB, hB2⟩ := hP
  have H0 := St.start w
  refine rS [.v] H0 kr fun gs1 w1 H1 => ?_
  refine g_seq kr ?_
  by_cases hl : n = m
  · subst hl
    refine rS [.v, .v, .v, .v, .e (v := .bool (!(((n : Nat) : Int) == ((n : Nat) : Int)))) (v' := .bool false) (bool_eq (by rw [beq_self_eq_true]; rfl))] H1 kr fun gs2 w2 H2 => ?_
    refine g_cond_f kr kr ?_
    refine g_skip kr ?_
    show WP _ _ _ _ _ _
    refine g_seq kr ?_
    refine rS [.v, .v, .v] H2 kr fun gs3 w3 H3 => ?_
    refine g_block 0 kr ?_
    have H4 : St w.heap.size w w3 [] := H3.as kr
    clear H0 H1 H2 H3
    refine g_loop kr (fun mz ρ ww => ∃ (i : Nat), n - i = mz ∧ i ≤ n ∧ A.take i = B.take i ∧ St w.heap.size w ww [] ∧ Is [(0, .slice p n c), (1, .slice q n k), (11, .slice p n c), (12, iN n), (13, iN i)] ρ) (n - 0) ⟨0, rfl, Nat.zero_le _, rfl, H4, (Is.of ⟨kr, kr, kr, kr, kr, trivial⟩)⟩ ?_
    clear H4
    rintro _ _ w4 ⟨i, rfl, him, htk, H5, _, rfl⟩
    by_cases hi : i < n
    · have hiA : i < A.length := by omega
      have hiB : i < B.length := by omega
      rcases hA2 with rfl | ⟨ba, oa, CA, TA, fa, rfl, hha, hRa⟩
      · exact absurd hiA (Nat.not_lt_zero _)
      rcases hB2 with rfl | ⟨bb, ob', CB, TB, fb, rfl, hhb, hRb⟩
      · exact absurd hiB (Nat.not_lt_zero _)
      have ca : CA[oa + i * 1]? = some (.string A[i]) := hRa.cell (List.getElem?_eq_getElem hiA) 0 (by decide)
      have cb : CB[ob' + i * 1]? = some (.string B[i]) := hRb.cell (List.getElem?_eq_getElem hiB) 0 (by decide)
      refine rS [.e (v := .bool (decide (((i : Nat) : Int) < ((n : Nat) : Int)))) (v' := .bool true) (bool_eq (decide_eq_true (by omega)))] H5 kr fun gs4 w5 H6 => ?_
      refine g_seq kr ?_
      refine g_cond_t kr kr ?_
      refine g_skip kr ?_
      show WP _ _ _ _ _ _
      refine g_seq kr ?_
      refine g_block 1 kr ?_
      refine rS [.v, .v] H6 kr fun gs5 w6 H7 => ?_
      by_cases he : A[i] = B[i]
      · refine dS [.v, .v, .o (ins := [((.tmp 16), .slice (some ⟨ba, oa, none⟩) n c), ((.tmp 17), iN i)]) (v := .pointer (some ⟨ba, oa + i * 1, none⟩)) (fun ρ o w ho hi2 => idxQ_run (kd := .i64) (t := 24) (e := 9) (K := 1) (bytes := 16) kr (x := (.tmp 16)) (y := (.tmp 17)) ba oa n c i rfl ho hi2.1 hi2.2.1 (by omega) w), .fs (off := oa + i * 1) (v := .string A[i]) hha (lt_of_heap hha) ca, .v, .v, .o (ins := [((.tmp 20), .slice (some ⟨bb, ob', none⟩) n k), ((.tmp 21), iN i)]) (v := .pointer (some ⟨bb, ob' + i * 1, none⟩)) (fun ρ o w ho hi2 => idxQ_run (kd := .i64) (t := 24) (e := 9) (K := 1) (bytes := 16) kr (x := (.tmp 20)) (y := (.tmp 21)) bb ob' n k i rfl ho hi2.1 hi2.2.1 (by omega) w), .fs (off := ob' + i * 1) (v := .string B[i]) hhb (lt_of_heap hhb) cb, .e (v := .bool (!((A[i]).toList == (B[i]).toList))) (v' := .bool false) (bool_eq (by rw [str_same _ _ he]; rfl))] H7 kr fun w7 H8 => ?_
        refine g_cond_f kr kr ?_
        refine g_skip kr ?_
        show WP _ _ _ _ _ _
        refine rL [.e (v := .int .i64 (IntKind.i64.wrap (((i : Nat) : Int) + 1))) (v' := iN (i + 1)) (int_eq (wrapAdd_i64 (a := i) (b := 1) (by omega))), .v] H8 kr fun gs7 w8 H9 => ?_
        show ∃ m, _ ∧ _
        exact ⟨_, (by omega), i + 1, rfl, hi, take_next htk hiA hiB he, H9.as kr, (Is.of ⟨kr, kr, kr, kr, kr, trivial⟩)⟩
      · refine dS [.v, .v, .o (ins := [((.tmp 16), .slice (some ⟨ba, oa, none⟩) n c), ((.tmp 17), iN i)]) (v := .pointer (some ⟨ba, oa + i * 1, none⟩)) (fun ρ o w ho hi2 => idxQ_run (kd := .i64) (t := 24) (e := 9) (K := 1) (bytes := 16) kr (x := (.tmp 16)) (y := (.tmp 17)) ba oa n c i rfl ho hi2.1 hi2.2.1 (by omega) w), .fs (off := oa + i * 1) (v := .string A[i]) hha (lt_of_heap hha) ca, .v, .v, .o (ins := [((.tmp 20), .slice (some ⟨bb, ob', none⟩) n k), ((.tmp 21), iN i)]) (v := .pointer (some ⟨bb, ob' + i * 1, none⟩)) (fun ρ o w ho hi2 => idxQ_run (kd := .i64) (t := 24) (e := 9) (K := 1) (bytes := 16) kr (x := (.tmp 20)) (y := (.tmp 21)) bb ob' n k i rfl ho hi2.1 hi2.2.1 (by omega) w), .fs (off := ob' + i * 1) (v := .string B[i]) hhb (lt_of_heap hhb) cb, .e (v := .bool (!((A[i]).toList == (B[i]).toList))) (v' := .bool true) (bool_eq (by rw [str_other _ _ he]; rfl))] H7 kr fun w7 H8 => ?_
        refine g_cond_t kr kr ?_
        refine rS [.v] H8 kr fun gs7 w8 H9 => ?_
        exact rRe [.tmp 4] [] (v := .bool false) (v' := .bool (decide (A = B))) H9 (bool_eq (decide_eq_false fun h => he (by subst h; rfl)).symm) kr
    · obtain rfl : i = n := by omega
      have hAB : A = B := by rw [← List.take_length (l := A), ← List.take_length (l := B), ← hA, ← hB]; exact htk
      refine rS [.e (v := .bool (decide (((i : Nat) : Int) < ((i : Nat) : Int)))) (v' := .bool false) (bool_eq (decide_eq_false (by omega)))] H5 kr fun gs4 w5 H6 => ?_
      refine g_seq kr ?_
      refine g_cond_f kr kr ?_
      refine g_exit 0 kr ?_
      show WP _ _ _ _ _ _
      refine rS [.v] H6 kr fun gs5 w6 H7 => ?_
      exact rRe [.tmp 4] [] (v := .bool true) (v' := .bool (decide (A = B))) H7 (bool_eq (decide_eq_true hAB).symm) kr
  · refine rS [.v, .v, .v, .v, .e (v := .bool (!(((n : Nat) : Int) == ((m : Nat) : Int)))) (v' := .bool true) (bool_eq (by rw [beq_eq_false_iff_ne.2 (by omega)]; rfl))] H1 kr fun gs2 w2 H2 => ?_
    refine g_cond_t kr kr ?_
    refine rS [.v] H2 kr fun gs3 w3 H3 => ?_
    exact rRe [.tmp 4] [] (v := .bool false) (v' := .bool (decide (A = B))) H3 (bool_eq (decide_eq_false fun h => hl (by rw [hA, hB, h])).symm) kr
set_option maxRecDepth 100000 in
set_option maxHeartbeats 4000000 in
theorem same_fn (p q : Option Addr) (n c m k : Nat) (A B : List ByteArray) (hn9 : n ≤ 1000000000) : FnP Try.prog 21 #[.slice p n c, .slice q m k] (fun w => AtF sS w p n A ∧ AtF sS w q m B) (.bool (decide (A = B))) := by
  refine FnP.intro (c := codeOf Try.f21) [.tmp 4] 26 Try.func21 kr kr kr fun w hP => ?_
  obtain ⟨⟨hA, hA2⟩, hB, hB2⟩ := hP
  have H0 := St.start w
  refine rS [.v] H0 kr fun gs1 w1 H1 => ?_
  refine g_seq kr ?_
  by_cases hl : n = m
  · subst hl
    refine rS [.v, .v, .v, .v, .e (v := .bool (!(((n : Nat) : Int) == ((n : Nat) : Int)))) (v' := .bool false) (bool_eq (by rw [beq_self_eq_true]; rfl))] H1 kr fun gs2 w2 H2 => ?_
    refine g_cond_f kr kr ?_
    refine g_skip kr ?_
    show WP _ _ _ _ _ _
    refine g_seq kr ?_
    refine rS [.v, .v, .v] H2 kr fun gs3 w3 H3 => ?_
    refine g_block 0 kr ?_
    have H4 : St w.heap.size w w3 [] := H3.as kr
    clear H0 H1 H2 H3
    refine g_loop kr (fun mz ρ ww => ∃ (i : Nat), n - i = mz ∧ i ≤ n ∧ A.take i = B.take i ∧ St w.heap.size w ww [] ∧ Is [(0, .slice p n c), (1, .slice q n k), (11, .slice p n c), (12, iN n), (13, iN i)] ρ) (n - 0) ⟨0, rfl, Nat.zero_le _, rfl, H4, (Is.of ⟨kr, kr, kr, kr, kr, trivial⟩)⟩ ?_
    clear H4
    rintro _ _ w4 ⟨i, rfl, him, htk, H5, _, rfl⟩
    by_cases hi : i < n
    · have hiA : i < A.length := by omega
      have hiB : i < B.length := by omega
      rcases hA2 with rfl | ⟨ba, oa, CA, TA, fa, rfl, hha, hRa⟩
      · exact absurd hiA (Nat.not_lt_zero _)
      rcases hB2 with rfl | ⟨bb, ob', CB, TB, fb, rfl, hhb, hRb⟩
      · exact absurd hiB (Nat.not_lt_zero _)
      have ca : CA[oa + i * 1]? = some (.string A[i]) := hRa.cell (List.getElem?_eq_getElem hiA) 0 (by decide)
      have cb : CB[ob' + i * 1]? = some (.string B[i]) := hRb.cell (List.getElem?_eq_getElem hiB) 0 (by decide)
      refine rS [.e (v := .bool (decide (((i : Nat) : Int) < ((n : Nat) : Int)))) (v' := .bool true) (bool_eq (decide_eq_true (by omega)))] H5 kr fun gs4 w5 H6 => ?_
      refine g_seq kr ?_
      refine g_cond_t kr kr ?_
      refine g_skip kr ?_
      show WP _ _ _ _ _ _
      refine g_seq kr ?_
      refine g_block 1 kr ?_
      refine rS [.v, .v] H6 kr fun gs5 w6 H7 => ?_
      by_cases he : A[i] = B[i]
      · refine dS [.v, .v, .o (ins := [((.tmp 16), .slice (some ⟨ba, oa, none⟩) n c), ((.tmp 17), iN i)]) (v := .pointer (some ⟨ba, oa + i * 1, none⟩)) (fun ρ o w ho hi2 => idxQ_run (kd := .i64) (t := 24) (e := 9) (K := 1) (bytes := 16) kr (x := (.tmp 16)) (y := (.tmp 17)) ba oa n c i rfl ho hi2.1 hi2.2.1 (by omega) w), .fs (off := oa + i * 1) (v := .string A[i]) hha (lt_of_heap hha) ca, .v, .v, .o (ins := [((.tmp 20), .slice (some ⟨bb, ob', none⟩) n k), ((.tmp 21), iN i)]) (v := .pointer (some ⟨bb, ob' + i * 1, none⟩)) (fun ρ o w ho hi2 => idxQ_run (kd := .i64) (t := 24) (e := 9) (K := 1) (bytes := 16) kr (x := (.tmp 20)) (y := (.tmp 21)) bb ob' n k i rfl ho hi2.1 hi2.2.1 (by omega) w), .fs (off := ob' + i * 1) (v := .string B[i]) hhb (lt_of_heap hhb) cb, .e (v := .bool (!((A[i]).toList == (B[i]).toList))) (v' := .bool false) (bool_eq (by rw [str_same _ _ he]; rfl))] H7 kr fun w7 H8 => ?_
        refine g_cond_f kr kr ?_
        refine g_skip kr ?_
        show WP _ _ _ _ _ _
        refine rL [.e (v := .int .i64 (IntKind.i64.wrap (((i : Nat) : Int) + 1))) (v' := iN (i + 1)) (int_eq (wrapAdd_i64 (a := i) (b := 1) (by omega))), .v] H8 kr fun gs7 w8 H9 => ?_
        show ∃ m, _ ∧ _
        exact ⟨_, (by omega), i + 1, rfl, hi, take_next htk hiA hiB he, H9.as kr, (Is.of ⟨kr, kr, kr, kr, kr, trivial⟩)⟩
      · refine dS [.v, .v, .o (ins := [((.tmp 16), .slice (some ⟨ba, oa, none⟩) n c), ((.tmp 17), iN i)]) (v := .pointer (some ⟨ba, oa + i * 1, none⟩)) (fun ρ o w ho hi2 => idxQ_run (kd := .i64) (t := 24) (e := 9) (K := 1) (bytes := 16) kr (x := (.tmp 16)) (y := (.tmp 17)) ba oa n c i rfl ho hi2.1 hi2.2.1 (by omega) w), .fs (off := oa + i * 1) (v := .string A[i]) hha (lt_of_heap hha) ca, .v, .v, .o (ins := [((.tmp 20), .slice (some ⟨bb, ob', none⟩) n k), ((.tmp 21), iN i)]) (v := .pointer (some ⟨bb, ob' + i * 1, none⟩)) (fun ρ o w ho hi2 => idxQ_run (kd := .i64) (t := 24) (e := 9) (K := 1) (bytes := 16) kr (x := (.tmp 20)) (y := (.tmp 21)) bb ob' n k i rfl ho hi2.1 hi2.2.1 (by omega) w), .fs (off := ob' + i * 1) (v := .string B[i]) hhb (lt_of_heap hhb) cb, .e (v := .bool (!((A[i]).toList == (B[i]).toList))) (v' := .bool true) (bool_eq (by rw [str_other _ _ he]; rfl))] H7 kr fun w7 H8 => ?_
        refine g_cond_t kr kr ?_
        refine rS [.v] H8 kr fun gs7 w8 H9 => ?_
        exact rRe [.tmp 4] [] (v := .bool false) (v' := .bool (decide (A = B))) H9 (bool_eq (decide_eq_false fun h => he (by subst h; rfl)).symm) kr
    · obtain rfl : i = n := by omega
      have hAB : A = B := by rw [← List.take_length (l := A), ← List.take_length (l := B), ← hA, ← hB]; exact htk
      refine rS [.e (v := .bool (decide (((i : Nat) : Int) < ((i : Nat) : Int)))) (v' := .bool false) (bool_eq (decide_eq_false (by omega)))] H5 kr fun gs4 w5 H6 => ?_
      refine g_seq kr ?_
      refine g_cond_f kr kr ?_
      refine g_exit 0 kr ?_
      show WP _ _ _ _ _ _
      refine rS [.v] H6 kr fun gs5 w6 H7 => ?_
      exact rRe [.tmp 4] [] (v := .bool true) (v' := .bool (decide (A = B))) H7 (bool_eq (decide_eq_true hAB).symm) kr
  · refine rS [.v, .v, .v, .v, .e (v := .bool (!(((n : Nat) : Int) == ((m : Nat) : Int)))) (v' := .bool true) (bool_eq (by rw [beq_eq_false_iff_ne.2 (by omega)]; rfl))] H1 kr fun gs2 w2 H2 => ?_
    refine g_cond_t kr kr ?_
    refine rS [.v] H2 kr fun gs3 w3 H3 => ?_
    exact rRe [.tmp 4] [] (v := .bool false) (v' := .bool (decide (A = B))) H3 (bool_eq (decide_eq_false fun h => hl (by rw [hA, hB, h])).symm) kr
end Go.Proofs.Ythpiojejhellhaa

namespace Go.Proofs.Ythpiojejhellhaa
open Go Go.RowKit Go.Proofs.Crc
open D2 (Gh)
set_option linter.unusedVariables false
theorem new_fn : Fn Try.prog 15 #[] (lgV em 0 none 0 0) := by
  refine Fn.intro (c := codeOf Try.f15) [.cell 0 26] 2 Try.func15 kr kr kr fun w => ?_
  have H0 := St.start w
  refine rS [.a] H0 kr fun gs1 w1 H1 => ?_
  refine rS [.v, .s 0] H1 kr fun gs2 w2 H2 => ?_
  exact rRe [.cell 0 26] [0] (v := lgV em 0 none 0 0) (v' := lgV em 0 none 0 0) H2 rfl kr
theorem sure_fn (s : ByteArray) (a : Int) (p : Option Addr) (n c : Nat) (hr : rightM s a = true) : Fn Try.prog 29 #[lgV s a p n c] (lgV s ((s.size : Nat) : Int) p n c) := by
  refine Fn.intro (c := codeOf Try.f29) [.cell 2 26] 11 Try.func29 kr kr kr fun w => ?_
  have H0 := St.start w
  refine rS [.b, .a] H0 kr fun gs1 w1 H1 => ?_
  refine rS [.v, .l 0, .c (sync_ok s a hr), .v, .v, .v, .v, .s 0] H1 kr fun gs2 w2 H2 => ?_
  refine rS [.l 0, .s 1] H2 kr fun gs3 w3 H3 => ?_
  exact rRe [.cell 2 26] [1] (v := lgV s ((s.size : Nat) : Int) p n c) (v' := lgV s ((s.size : Nat) : Int) p n c) H3 rfl kr
def okRd (b : Bool) (A : List ByteArray) (v : Value) (T : List (Nat × Obj)) : Prop := match b with
  | true => ∃ (q : Option Addr) (m k : Nat), RowF sS 9 q m k T A ∧ v = .tuple #[.slice q m k, .bool true]
  | false => v = .tuple #[.slice none 0 0, .bool false] ∧ T = []
set_option maxRecDepth 100000 in
set_option maxHeartbeats 4000000 in
theorem read_fn (s : ByteArray) (a : Int) (p : Option Addr) (n c : Nat) (A : List ByteArray) : FnT Try.prog 25 #[lgV s a p n c] (fun w => AtF sS w p n A) (okRd (rightL s a A) A) := by
  refine FnT.intro (c := codeOf Try.f25) [.tmp 2, .tmp 3] 31 Try.func25 kr kr kr fun w hP => ?_
  have H0 := St.start w
  refine rS [.b, .v, .v] H0 kr fun gs1 w1 H1 => ?_
  refine g_seq kr ?_
  cases hr : rightM s a with
  | false =>
    have hL : rightL s a A = false := Bool.eq_false_iff.2 fun h => by rw [(rightL_iff.1 h).2.1] at hr; cases hr
    refine rS [.v, .l 0, .c (right_fn s a), .e (v := .bool (!(rightM s a))) (v' := .bool true) (bool_eq (by rw [hr]; rfl))] H1 kr fun gs2 w2 H2 => ?_
    refine g_cond_t kr kr ?_
    refine rS [.v, .v] H2 kr fun gs3 w3 H3 => ?_
    refine rRr [.tmp 2, .tmp 3] [] (.tuple #[.slice none 0 0, .bool false]) (outT w.heap.size w (okRd (rightL s a A) A)) H3 kr ?_
    exact ⟨[], by rw [hL]; exact ⟨rfl, rfl⟩, H3.sub (List.nil_sublist _)⟩
  | true =>
    have hz : s.size ≤ 200000 := (rightM_iff.1 hr).1
    refine rS [.v, .l 0, .c (right_fn s a), .e (v := .bool (!(rightM s a))) (v' := .bool false) (bool_eq (by rw [hr]; rfl))] H1 kr fun gs2 w2 H2 => ?_
    refine g_cond_f kr kr ?_
    refine g_skip kr ?_
    show WP _ _ _ _ _ _
    refine g_sreg [0, 1, 2, 3, 4, 5, 6, 7, 8] kr kr ?_
    refine rp [.v, .v, .l 0] H2 kr fun gs3 w3 H3 => ?_
    show WPs _ _ _ _ [3, 4, 5, 6, 7, 8] _ _
    have H4 : St w.heap.size w w3 [((gs1 0).b, lgO s a p n c)] := H3.as kr
    refine s_callFT H4 (some 14) 31 #[.string s] (scanT_fn s (by omega)) trivial kr kr ?_
    rintro _ T w4 ⟨rs, z, q, m, k, hsc, hrow, rfl⟩ H5
    have H6 : St w.heap.size w w4 (((gs1 0).b, lgO s a p n c) :: T) := H5.perm (List.perm_append_comm (l₁ := [((gs1 0).b, lgO s a p n c)]) (l₂ := T))
    refine rp [.v, .v, .v, .v, .v] H6 kr fun gs4 w5 H7 => ?_
    show WPs _ _ _ _ [] _ _
    refine s_nil ?_
    have H8 : St w.heap.size w w5 (((gs1 0).b, lgO s a p n c) :: T) := H7.as kr
    have hsl := sc_len hsc
    have hlen := hrow.len
    have hR := right_scan (A := A) hr hsc
    refine g_seq kr ?_
    by_cases hz1 : z = s.size
    · refine g_sreg [0, 1, 2, 3, 4, 5, 6, 7, 8, 9, 10, 11, 12] kr kr ?_
      refine rp [.v, .v, .v, .l 0, .v, .e (v := .bool (!(((z : Nat) : Int) == ((s.size : Nat) : Int)))) (v' := .bool false) (bool_eq (by rw [hz1, beq_self_eq_true]; rfl)), .v, .v, .v, .l 0] H8 kr fun gs5 w6 H9 => ?_
      show WPs _ _ _ _ [10, 11, 12] _ _
      have H10 : St w.heap.size w w6 (((gs1 0).b, lgO s a p n c) :: T) := H9.as kr
      refine s_callP H10 (some 27) 41 #[.slice q m k, .slice p n c] _ _ (equal_fn q p m k n c rs A (by omega)) ⟨hrow.atF H10 fun e he => by simp [he], hP.call H10.below⟩ (fun w => by kernel_rfl) kr ?_
      intro w7 H11
      by_cases hq : rs = A
      · have hL : rightL s a A = true := by rw [hR, hz1, hq]; simp
        refine rp [.e (v := .bool (!(decide (rs = A)))) (v' := .bool false) (bool_eq (by rw [decide_eq_true hq]; rfl)), .v] H11 kr fun gs6 w8 H12 => ?_
        show WPs _ _ _ _ [] _ _
        refine s_nil ?_
        show WP _ _ _ _ _ _
        refine g_cond_f kr kr ?_
        refine g_skip kr ?_
        show WP _ _ _ _ _ _
        refine rS [.v, .v, .v] H12 kr fun gs7 w9 H13 => ?_
        refine rRr [.tmp 2, .tmp 3] [] (.tuple #[.slice q m k, .bool true]) (outT w.heap.size w (okRd (rightL s a A) A)) H13 kr ?_
        have H14 : St w.heap.size w w9 (((gs1 0).b, lgO s a p n c) :: T) := H13.as kr
        exact ⟨T, by rw [hL]; exact ⟨q, m, k, hq ▸ hrow, rfl⟩, H14.sub (List.sublist_cons_self ..)⟩
      · have hL : rightL s a A = false := by rw [hR, decide_eq_false hq, Bool.and_false]
        refine rp [.e (v := .bool (!(decide (rs = A)))) (v' := .bool true) (bool_eq (by rw [decide_eq_false hq]; rfl)), .v] H11 kr fun gs6 w8 H12 => ?_
        show WPs _ _ _ _ [] _ _
        refine s_nil ?_
        show WP _ _ _ _ _ _
        refine g_cond_t kr kr ?_
        refine rS [.v, .v] H12 kr fun gs7 w9 H13 => ?_
        refine rRr [.tmp 2, .tmp 3] [] (.tuple #[.slice none 0 0, .bool false]) (outT w.heap.size w (okRd (rightL s a A) A)) H13 kr ?_
        exact ⟨[], by rw [hL]; exact ⟨rfl, rfl⟩, H13.sub (List.nil_sublist _)⟩
    · have hL : rightL s a A = false := by rw [hR, decide_eq_false hz1, Bool.false_and]
      refine rS [.v, .v, .v, .l 0, .v, .e (v := .bool (!(((z : Nat) : Int) == ((s.size : Nat) : Int)))) (v' := .bool true) (bool_eq (by rw [beq_eq_false_iff_ne.2 (by omega)]; rfl)), .v, .n, .n, .n, .n, .n, .v] H8 kr fun gs5 w6 H9 => ?_
      refine g_cond_t kr kr ?_
      refine rS [.v, .v] H9 kr fun gs7 w9 H13 => ?_
      refine rRr [.tmp 2, .tmp 3] [] (.tuple #[.slice none 0 0, .bool false]) (outT w.heap.size w (okRd (rightL s a A) A)) H13 kr ?_
      exact ⟨[], by rw [hL]; exact ⟨rfl, rfl⟩, H13.sub (List.nil_sublist _)⟩
end Go.Proofs.Ythpiojejhellhaa

namespace Go.Proofs.Ythpiojejhellhaa
open Go Go.RowKit Go.Proofs.Crc
open D2 (Gh)
set_option linter.unusedVariables false
set_option maxRecDepth 100000 in
set_option maxHeartbeats 4000000 in
theorem begin_fn (s : ByteArray) (a : Int) (p : Option Addr) (n c : Nat) (A : List ByteArray) (r : ByteArray) : FnT Try.prog 7 #[lgV s a p n c, .string r] (fun w => AtF sS w p n A) (okLog (beginM s a A r)) := by
  refine FnT.intro (c := codeOf Try.f7) [.cell 4 26, .tmp 5] 46 Try.func7 kr kr kr fun w hP => ?_
  have H0 := St.start w
  refine rS [.b, .a, .v] H0 kr fun gs1 w1 H1 => ?_
  by_cases hr : recB r = true
  · have hr2 := recB_iff.1 hr
    refine rS [.v, .c (frame_fn r hr2), .v, .v, .v, .v, .v] H1 kr fun gs2 w2 H2 => ?_
    refine g_seq kr ?_
    refine rS [.v, .v] H2 kr fun gs3 w3 H3 => ?_
    refine g_cond_f kr kr ?_
    refine g_skip kr ?_
    show WP _ _ _ _ _ _
    refine g_sreg [0, 1, 2, 3, 4, 5, 6] kr kr ?_
    refine rp [.l 0] H3 kr fun gs4 w4 H4 => ?_
    show WPs _ _ _ _ [1, 2, 3, 4, 5, 6] _ _
    have H5 : St w.heap.size w w4 [((gs1 0).b, lgO s a p n c), ((gs1 1).b, lgO em 0 none 0 0)] := H4.as kr
    refine s_callFT H5 (some 22) 25 #[lgV s a p n c] (read_fn s a p n c A) (hP.call H5.below) kr kr ?_
    intro v T w5 hok H6
    have H7 : St w.heap.size w w5 (((gs1 0).b, lgO s a p n c) :: ((gs1 1).b, lgO em 0 none 0 0) :: T) := H6.perm (List.perm_append_comm (l₁ := [((gs1 0).b, lgO s a p n c), ((gs1 1).b, lgO em 0 none 0 0)]) (l₂ := T))
    cases hL : rightL s a A with
    | false =>
      rw [hL] at hok
      obtain ⟨rfl, rfl⟩ := hok
      refine rp [.v, .v, .v, .v, .v] H7 kr fun gs5 w6 H8 => ?_
      show WPs _ _ _ _ [] _ _
      refine s_nil ?_
      show WP _ _ _ _ _ _
      refine g_seq kr ?_
      refine rS [.v, .v] H8 kr fun gs6 w7 H9 => ?_
      refine g_cond_t kr kr ?_
      refine rS [.v, .s 1, .v] H9 kr fun gs7 w8 H10 => ?_
      refine rRr [.cell 4 26, .tmp 5] [1] (.tuple #[lgV em 0 none 0 0, .int .i64 1]) (outT w.heap.size w (okLog (beginM s a A r))) H10 kr ?_
      refine ⟨[], ?_, H10.sub (List.nil_sublist _)⟩
      rw [show beginM s a A r = errL 1 by unfold beginM; rw [hL, if_neg (by simp)]]
      exact okLog_err 1
    | true =>
      rw [hL] at hok
      obtain ⟨q, m, k, hrow, rfl⟩ := hok
      obtain ⟨hA, hM, hfl⟩ := rightL_iff.1 hL
      obtain ⟨hz, ha0, ha1⟩ := rightM_iff.1 hM
      have hfz : (strB (frB (tl r))).size = r.size + 6 := by rw [strB_size, frB_len, tl_len]
      have hm := hrow.len
      have hml : m ≤ 1000000 := by
        have h1 := flat_ge A
        have h2 : (flat A).length = s.size := by rw [← hfl, strB_size]
        omega
      refine rp [.v, .v, .v, .v, .v] H7 kr fun gs5 w6 H8 => ?_
      show WPs _ _ _ _ [] _ _
      refine s_nil ?_
      show WP _ _ _ _ _ _
      refine g_seq kr ?_
      refine rS [.v, .v] H8 kr fun gs6 w7 H9 => ?_
      refine g_cond_f kr kr ?_
      refine g_skip kr ?_
      show WP _ _ _ _ _ _
      by_cases hl : s.size + (r.size + 6) ≤ 200000
      · obtain ⟨S, hS⟩ : ∃ S, s ++ strB (frB (tl r)) = S := ⟨_, rfl⟩
        have hap : Fn Try.prog 26 #[dvV s a, .string (strB (frB (tl r)))] (dvR S a 0) := by rw [← hS]; exact append_ok s (strB (frB (tl r))) a hM (by omega)
        refine g_sreg [0, 1, 2, 3, 4, 5, 6, 7, 8, 9] kr kr ?_
        refine rp [.v, .l 0, .v, .c hap, .v, .v, .v] H9 kr fun gs7 w8 H10 => ?_
        show WPs _ _ _ _ [7, 8, 9] _ _
        have H11 : St w.heap.size w w8 (((gs1 0).b, lgO s a p n c) :: ((gs1 1).b, lgO em 0 none 0 0) :: T) := H10.as kr
        refine s_alloc H11 (some 10) 23 (dvV em 0) kr kr kr ?_
        intro bg w9 H12
        refine rp [.s 0, .v] H12 kr fun gs8 w10 H13 => ?_
        show WPs _ _ _ _ [] _ _
        refine s_nil ?_
        show WP _ _ _ _ _ _
        have H14 : St w.heap.size w w10 ((bg, dvO S a) :: ((gs1 0).b, lgO s a p n c) :: ((gs1 1).b, lgO em 0 none 0 0) :: T) := H13.as kr
        refine g_seq kr ?_
        refine rS [.v, .v] H14 kr fun gs9 w11 H15 => ?_
        refine g_cond_f kr kr ?_
        refine g_skip kr ?_
        show WP _ _ _ _ _ _
        have H16 : St w.heap.size w w11 (T ++ [(bg, dvO S a), ((gs1 1).b, lgO em 0 none 0 0)]) := by
          have h9 : St w.heap.size w w11 ((bg, dvO S a) :: ((gs1 0).b, lgO s a p n c) :: ((gs1 1).b, lgO em 0 none 0 0) :: T) := H15.as kr
          exact (h9.sub (List.Sublist.cons_cons _ (List.sublist_cons_self ..))).perm (List.perm_append_comm (l₁ := T) (l₂ := [(bg, dvO S a), ((gs1 1).b, lgO em 0 none 0 0)]))
        generalize hb4 : (gs1 1).b = b4 at *
        refine g_seq kr ?_
        refine D2.g_draw0 [0, 1, 2, 3, 4, 5, 6, 7, 8] [(some 39, fun _ => dvV S a), (some 40, fun _ => .slice q m k), (some 41, fun _ => .string r), (some 42, fun _ => .string r), (some 43, fun y => .slice (some ⟨y.b, 0, none⟩) 1 1), (some 44, fun y => .slice (some ⟨y.b, 0, none⟩) (m + 1) y.cap), (some 45, fun y => .agg #[.string S, .int .i64 a, .slice (some ⟨y.b, 0, none⟩) (m + 1) y.cap]), (none, fun _ => undef), (some 5, fun _ => .int .i64 0)]
          (D2.chn [4, 5, 6, 7] fun j g ww => match j with
            | 0 => St w.heap.size w ww (T ++ [(bg, dvO S a), (b4, lgO em 0 none 0 0)])
            | 1 => St w.heap.size w ww (((g 4).b, .cells (sS.cs r).toArray 9 (0, 0)) :: (T ++ [(bg, dvO S a), (b4, lgO em 0 none 0 0)]))
            | 2 => St w.heap.size w ww (((g 5).b, .cells (g 5).cur 9 (0, 0)) :: [(bg, dvO S a), (b4, lgO em 0 none 0 0)]) ∧ Rw 1 (g 5).cur (g 5).cap (m + 1) (cellsF sS (A ++ [r]))
            | 3 => St w.heap.size w ww (((g 6).b, .cells (g 6).cur 9 (0, 0)) :: [(bg, dvO S a), (b4, lgO em 0 none 0 0)]) ∧ Rw 1 (g 6).cur (g 6).cap (m + 1) (cellsF sS (A ++ [r]))
            | _ => St w.heap.size w ww (((g 6).b, .cells (g 6).cur 9 (0, 0)) :: [(bg, dvO S a), (b4, lgO S a (some ⟨(g 6).b, 0, none⟩) (m + 1) (g 6).cap)]) ∧ Rw 1 (g 6).cur (g 6).cap (m + 1) (cellsF sS (A ++ [r])))
          kr kr kr H16.drew ⟨?_, ?_, ?_, ?_, ?_, ?_, ?_, ?_, ?_, trivial⟩ ?_
        · exact D2.gv_ld (fun _ _ _ h => h) 23 (.tmp 10) (fun _ => bg) 0 #[.string S, .int .i64 a] 23 (0, 0) (fun g => by kernel_rfl) (fun g => by kernel_rfl) (fun L g w hN hp => hp.get fun j hj h => by
      match j, h with
      | 0, h => exact (h.own (bg, dvO S a) (by simp)).2
      | 1, h => exact (h.own (bg, dvO S a) (by simp)).2
      | 2, h => exact (h.1.own (bg, dvO S a) (by simp)).2
      | 3, h => exact (h.1.own (bg, dvO S a) (by simp)).2
      | _ + 4, h => exact (h.1.own (bg, dvO S a) (by simp)).2) kr kr
        · exact D2.gv_val (fun _ _ _ h => h) (fun g w => by kernel_rfl)
        · exact D2.gv_val (fun _ _ _ h => h) (fun g w => by kernel_rfl)
        · exact D2.gv_cW (fun _ _ _ h => h) 27 #[.string r] (cloneS_fn r (by omega)) (fun L g w w' hN hp hb => by
      revert hp; unfold D2.chn
      generalize D2.stg [4, 5, 6, 7] L = j
      intro hp
      match j, hp with
      | 0, h => exact h.call hb
      | 1, h => exact h.call hb
      | 2, h => exact ⟨h.1.call hb, h.2⟩
      | 3, h => exact ⟨h.1.call hb, h.2⟩
      | _ + 4, h => exact ⟨h.1.call hb, h.2⟩) (fun g w => by kernel_rfl)
        · refine D2.gv_chn 4 0 (fun L hN => by
      have e4 := hN.1
      have e5 := hN.post 5 kr
      have e6 := hN.fwd e5 (show D2.edge _ 5 6 = true by kernel_rfl)
      have e7 := hN.fwd e6 (show D2.edge _ 6 7 = true by kernel_rfl)
      exact ⟨by (simp [D2.stg, e4, e5, e6, e7]) <;> rfl, by (simp [D2.stg, D2.put1, e4, e5, e6, e7]) <;> rfl⟩) fun g ww hq => ?_
          exact D2.run_new (F := fun b => .slice (some ⟨b, 0, none⟩) 1 1) (ob := .cells (sS.cs r).toArray 9 (0, 0)) kr ⟨{ b := ww.heap.size }, rfl, St.alloc hq _⟩
        · refine D2.gv_chn 5 1 (fun L hN => by
      have e5 := hN.1
      have e4 := hN.bef 4 kr
      have e6 := hN.post 6 kr
      have e7 := hN.fwd e6 (show D2.edge _ 6 7 = true by kernel_rfl)
      exact ⟨by (simp [D2.stg, e4, e5, e6, e7]) <;> rfl, by (simp [D2.stg, D2.put1, e4, e5, e6, e7]) <;> rfl⟩) fun g ww hq => ?_
          refine D2.run_of (op := appendOp 24 (.tmp 40) (.tmp 43)) kr fun o ho => ?_
          obtain ⟨b', cap', cur', w', hrun, HS', hr'⟩ := grow_one (S := sS) (bx := (g 4).b) (M0 := A) (y := r) (row := T) (Z := [(bg, dvO S a), (b4, lgO em 0 none 0 0)]) (n := m) (c := k) (p := q) (mc := 1) hq hrow (t := 24) (bytes := 16) kr ho kr kr (by omega) (by unfold maxLen; omega)
          exact ⟨_, w', hrun, { b := b', cap := cap', cur := cur' }, rfl, HS', hr'⟩
        · refine D2.gv_chn 6 2 (fun L hN => by
      have e6 := hN.1
      have e5 := hN.bef 5 kr
      have e4 := hN.back e5 (show D2.edge _ 4 5 = true by kernel_rfl)
      have e7 := hN.post 7 kr
      exact ⟨by (simp [D2.stg, e4, e5, e6, e7]) <;> rfl, by (simp [D2.stg, D2.put1, e4, e5, e6, e7]) <;> rfl⟩) fun g ww hq => ?_
          exact D2.run_val kr ⟨g 5, rfl, hq⟩
        · refine D2.gv_chn 7 3 (fun L hN => by
      have e7 := hN.1
      have e6 := hN.bef 6 kr
      have e5 := hN.back e6 (show D2.edge _ 5 6 = true by kernel_rfl)
      have e4 := hN.back e5 (show D2.edge _ 4 5 = true by kernel_rfl)
      exact ⟨by (simp [D2.stg, e4, e5, e6, e7]) <;> rfl, by (simp [D2.stg, D2.put1, e4, e5, e6, e7]) <;> rfl⟩) fun g ww hq => ?_
          exact D2.run_sto (t := 26) (x := .tmp 4) (y := .tmp 45) (C := #[.string em, .int .i64 0, .slice none 0 0]) (C' := #[.string S, .int .i64 a, .slice (some ⟨(g 6).b, 0, none⟩) (m + 1) (g 6).cap]) (T := 26) (off := 0) (b := b4) (v := .agg #[.string S, .int .i64 a, .slice (some ⟨(g 6).b, 0, none⟩) (m + 1) (g 6).cap]) kr (by subst hb4; kernel_rfl) kr kr kr (St.get hq.1 2 kr) (Nat.le_of_ble_eq_true kr) kr ⟨g 7, rfl, St.store (C := #[.string em, .int .i64 0, .slice none 0 0]) (T := 26) hq.1 2 kr, hq.2⟩
        · exact D2.gv_val (fun _ _ _ h => h) (fun g w => by kernel_rfl)
        · intro L1 g w12 hall hp
          have hq := hp.fin (fun k hk => hall k (by simp at hk; rcases hk with rfl | rfl | rfl | rfl <;> exact Nat.le_of_ble_eq_true kr))
          show WP _ _ _ _ _ _
          subst hb4
          refine rRr [.cell 4 26, .tmp 5] [2] (.tuple #[lgV S a (some ⟨(g 6).b, 0, none⟩) (m + 1) (g 6).cap, .int .i64 0]) (outT w.heap.size w (okLog (beginM s a A r))) hq.1 kr ?_
          refine ⟨[((g 6).b, .cells (g 6).cur 9 (0, 0))], ?_, hq.1.sub (List.Sublist.cons_cons _ (List.nil_sublist _))⟩
          rw [show beginM s a A r = ⟨S, a, A ++ [r], 0⟩ by unfold beginM; rw [if_pos ⟨hr, hL⟩, if_pos hl, hS]]
          exact ⟨_, _, _, .inr ⟨_, _, rfl, rfl, hq.2⟩, rfl⟩
      · refine g_sreg [0, 1, 2, 3, 4, 5, 6, 7, 8, 9] kr kr ?_
        refine rp [.v, .l 0, .v, .c (append_long s (strB (frB (tl r))) a hM (by omega)), .v, .v, .v] H9 kr fun gs7 w8 H10 => ?_
        show WPs _ _ _ _ [7, 8, 9] _ _
        have H11 : St w.heap.size w w8 (((gs1 0).b, lgO s a p n c) :: ((gs1 1).b, lgO em 0 none 0 0) :: T) := H10.as kr
        refine s_alloc H11 (some 10) 23 (dvV em 0) kr kr kr ?_
        intro bg w9 H12
        refine rp [.s 0, .v] H12 kr fun gs8 w10 H13 => ?_
        show WPs _ _ _ _ [] _ _
        refine s_nil ?_
        show WP _ _ _ _ _ _
        refine g_seq kr ?_
        refine rS [.v, .v] H13 kr fun gs9 w11 H15 => ?_
        refine g_cond_t kr kr ?_
        refine rS [.v, .v, .s 2, .v] H15 kr fun gs10 w12 H16 => ?_
        refine rRr [.cell 4 26, .tmp 5] [2] (.tuple #[lgV em 0 none 0 0, .int .i64 2]) (outT w.heap.size w (okLog (beginM s a A r))) H16 kr ?_
        refine ⟨[], ?_, H16.sub (List.nil_sublist _)⟩
        rw [show beginM s a A r = errL 2 by unfold beginM; rw [if_pos ⟨hr, hL⟩, if_neg hl]]
        exact okLog_err 2
  · refine rS [.v, .c (frameNo_fn r fun h => hr (recB_iff.2 h)), .v, .v, .v, .v, .v] H1 kr fun gs2 w2 H2 => ?_
    refine g_seq kr ?_
    refine rS [.v, .v] H2 kr fun gs3 w3 H3 => ?_
    refine g_cond_t kr kr ?_
    refine rS [.v, .v, .s 1, .v] H3 kr fun gs4 w4 H4 => ?_
    refine rRr [.cell 4 26, .tmp 5] [1] (.tuple #[lgV em 0 none 0 0, .int .i64 1]) (outT w.heap.size w (okLog (beginM s a A r))) H4 kr ?_
    refine ⟨[], ?_, H4.sub (List.nil_sublist _)⟩
    rw [show beginM s a A r = errL 1 by unfold beginM; rw [if_neg (fun h => hr h.1)]]
    exact okLog_err 1
set_option maxRecDepth 100000 in
set_option maxHeartbeats 4000000 in
theorem append_fn (s : ByteArray) (a : Int) (p : Option Addr) (n c : Nat) (A : List ByteArray) (r : ByteArray) : FnT Try.prog 9 #[lgV s a p n c, .string r] (fun w => AtF sS w p n A) (okLog (appendM s a A r)) := by
  refine FnT.intro (c := codeOf Try.f9) [.cell 4 26, .tmp 5] 20 Try.func9 kr kr kr fun w hP => ?_
  have H0 := St.start w
  refine rS [.b, .a, .v] H0 kr fun gs1 w1 H1 => ?_
  refine g_sreg [0, 1, 2, 3, 4, 5, 6, 7, 8] kr kr ?_
  refine rp [.l 0, .v] H1 kr fun gs2 w2 H2 => ?_
  show WPs _ _ _ _ [2, 3, 4, 5, 6, 7, 8] _ _
  have H3 : St w.heap.size w w2 [((gs1 0).b, lgO s a p n c), ((gs1 1).b, lgO em 0 none 0 0)] := H2.as kr
  refine s_callFT H3 (some 11) 7 #[lgV s a p n c, .string r] (begin_fn s a p n c A r) (hP.call H3.below) kr kr ?_
  rintro _ T w3 ⟨q, m, k, hrow, rfl⟩ H4
  have H5 : St w.heap.size w w3 (((gs1 0).b, lgO s a p n c) :: ((gs1 1).b, lgO em 0 none 0 0) :: T) := H4.perm (List.perm_append_comm (l₁ := [((gs1 0).b, lgO s a p n c), ((gs1 1).b, lgO em 0 none 0 0)]) (l₂ := T))
  rcases begin_e (s := s) (a := a) (A := A) (r := r) with ⟨_, hB, h1, h2, h3⟩ | ⟨hB, _⟩ | ⟨hB, _⟩
  · rw [hB] at hrow
    rw [hB]
    have hnext := right_next h1 h2 h3
    have hM := (rightL_iff.1 hnext).2.1
    generalize hS : s ++ strB (frB (tl r)) = S at *
    refine rp [.v, .v, .v] H5 kr fun gs3 w4 H6 => ?_
    show WPs _ _ _ _ [6, 7, 8] _ _
    have H7 : St w.heap.size w w4 (((gs1 0).b, lgO s a p n c) :: ((gs1 1).b, lgO em 0 none 0 0) :: T) := H6.as kr
    refine s_alloc H7 (some 6) 26 (lgV em 0 none 0 0) kr kr kr ?_
    intro bg w5 H8
    refine rp [.s 0, .v] H8 kr fun gs4 w6 H9 => ?_
    show WPs _ _ _ _ [] _ _
    refine s_nil ?_
    show WP _ _ _ _ _ _
    refine g_seq kr ?_
    refine rS [.v, .v] H9 kr fun gs5 w7 H10 => ?_
    refine g_cond_f kr kr ?_
    refine g_skip kr ?_
    show WP _ _ _ _ _ _
    refine rS [.l 0, .c (sure_fn S a q m k hM), .s 2, .v] H10 kr fun gs6 w8 H11 => ?_
    refine rRr [.cell 4 26, .tmp 5] [2] (.tuple #[lgV S ((S.size : Nat) : Int) q m k, .int .i64 0]) (outT w.heap.size w (okLog (appendM s a A r))) H11 kr ?_
    have H12 : St w.heap.size w w8 ((bg, lgO S a q m k) :: ((gs1 0).b, lgO s a p n c) :: ((gs1 1).b, lgO S ((S.size : Nat) : Int) q m k) :: T) := H11.as kr
    refine ⟨T, ?_, H12.sub ((List.sublist_cons_self ..).trans ((List.sublist_cons_self ..).trans (List.sublist_cons_self ..)))⟩
    rw [show appendM s a A r = ⟨S, ((S.size : Nat) : Int), A ++ [r], 0⟩ by unfold appendM; rw [hB, if_pos rfl]]
    exact ⟨q, m, k, hrow, rfl⟩
  · rw [hB] at hrow
    rw [hB]
    refine rp [.v, .v, .v] H5 kr fun gs3 w4 H6 => ?_
    show WPs _ _ _ _ [6, 7, 8] _ _
    have H7 : St w.heap.size w w4 (((gs1 0).b, lgO s a p n c) :: ((gs1 1).b, lgO em 0 none 0 0) :: T) := H6.as kr
    refine s_alloc H7 (some 6) 26 (lgV em 0 none 0 0) kr kr kr ?_
    intro bg w5 H8
    refine rp [.s 0, .v] H8 kr fun gs4 w6 H9 => ?_
    show WPs _ _ _ _ [] _ _
    refine s_nil ?_
    show WP _ _ _ _ _ _
    refine g_seq kr ?_
    refine rS [.v, .v] H9 kr fun gs5 w7 H10 => ?_
    refine g_cond_t kr kr ?_
    refine rS [.v, .v, .s 2, .v] H10 kr fun gs6 w8 H11 => ?_
    refine rRr [.cell 4 26, .tmp 5] [2] (.tuple #[lgV em 0 none 0 0, .int .i64 2]) (outT w.heap.size w (okLog (appendM s a A r))) H11 kr ?_
    refine ⟨[], ?_, H11.sub (List.nil_sublist _)⟩
    rw [show appendM s a A r = errL 2 by unfold appendM; rw [hB, if_neg (by decide)]]
    exact okLog_err 2
  · rw [hB] at hrow
    rw [hB]
    refine rp [.v, .v, .v] H5 kr fun gs3 w4 H6 => ?_
    show WPs _ _ _ _ [6, 7, 8] _ _
    have H7 : St w.heap.size w w4 (((gs1 0).b, lgO s a p n c) :: ((gs1 1).b, lgO em 0 none 0 0) :: T) := H6.as kr
    refine s_alloc H7 (some 6) 26 (lgV em 0 none 0 0) kr kr kr ?_
    intro bg w5 H8
    refine rp [.s 0, .v] H8 kr fun gs4 w6 H9 => ?_
    show WPs _ _ _ _ [] _ _
    refine s_nil ?_
    show WP _ _ _ _ _ _
    refine g_seq kr ?_
    refine rS [.v, .v] H9 kr fun gs5 w7 H10 => ?_
    refine g_cond_t kr kr ?_
    refine rS [.v, .v, .s 2, .v] H10 kr fun gs6 w8 H11 => ?_
    refine rRr [.cell 4 26, .tmp 5] [2] (.tuple #[lgV em 0 none 0 0, .int .i64 1]) (outT w.heap.size w (okLog (appendM s a A r))) H11 kr ?_
    refine ⟨[], ?_, H11.sub (List.nil_sublist _)⟩
    rw [show appendM s a A r = errL 1 by unfold appendM; rw [hB, if_neg (by decide)]]
    exact okLog_err 1
/-- What is opened. -/
def okOpen (s : ByteArray) (a : Int) (v : Value) (T : List (Nat × Obj)) : Prop := match rightM s a with
  | true => ∃ (rs : List ByteArray) (z : Nat), Sc (tl s) rs z ∧ okLog ⟨s.extract 0 z, ((z : Nat) : Int), rs, 0⟩ v T
  | false => okLog (errL 1) v T
set_option maxRecDepth 100000 in
set_option maxHeartbeats 4000000 in
theorem open_fn (s : ByteArray) (a : Int) : FnT Try.prog 11 #[dvV s a] (fun _ => True) (okOpen s a) := by
  refine FnT.intro (c := codeOf Try.f11) [.cell 2 26, .tmp 3] 28 Try.func11 kr kr kr fun w hP => ?_
  have H0 := St.start w
  refine rS [.b, .a, .v] H0 kr fun gs1 w1 H1 => ?_
  refine g_seq kr ?_
  cases hr : rightM s a with
  | false =>
    refine rS [.l 0, .c (right_fn s a), .e (v := .bool (!(rightM s a))) (v' := .bool true) (bool_eq (by rw [hr]; rfl))] H1 kr fun gs2 w2 H2 => ?_
    refine g_cond_t kr kr ?_
    refine rS [.v, .s 1, .v] H2 kr fun gs3 w3 H3 => ?_
    refine rRr [.cell 2 26, .tmp 3] [1] (.tuple #[lgV em 0 none 0 0, .int .i64 1]) (outT w.heap.size w (okOpen s a)) H3 kr ?_
    refine ⟨[], ?_, H3.sub (List.nil_sublist _)⟩
    unfold okOpen; rw [hr]; exact okLog_err 1
  | true =>
    obtain ⟨hz, ha0, ha1⟩ := rightM_iff.1 hr
    obtain ⟨k0, rfl⟩ : ∃ k0 : Nat, a = (k0 : Int) := ⟨a.toNat, by omega⟩
    refine rS [.l 0, .c (right_fn s ((k0 : Nat) : Int)), .e (v := .bool (!(rightM s ((k0 : Nat) : Int)))) (v' := .bool false) (bool_eq (by rw [hr]; rfl))] H1 kr fun gs2 w2 H2 => ?_
    refine g_cond_f kr kr ?_
    refine g_skip kr ?_
    show WP _ _ _ _ _ _
    refine g_sreg [0, 1, 2, 3, 4, 5, 6, 7] kr kr ?_
    refine rp [.v, .l 0] H2 kr fun gs3 w3 H3 => ?_
    show WPs _ _ _ _ [2, 3, 4, 5, 6, 7] _ _
    have H4 : St w.heap.size w w3 [((gs1 0).b, dvO s ((k0 : Nat) : Int)), ((gs1 1).b, lgO em 0 none 0 0)] := H3.as kr
    refine s_callFT H4 (some 15) 31 #[.string s] (scanT_fn s (by omega)) trivial kr kr ?_
    rintro _ T w4 ⟨rs, z, q, m, k, hsc, hrow, rfl⟩ H5
    have H6 : St w.heap.size w w4 (((gs1 0).b, dvO s ((k0 : Nat) : Int)) :: ((gs1 1).b, lgO em 0 none 0 0) :: T) := H5.perm (List.perm_append_comm (l₁ := [((gs1 0).b, dvO s ((k0 : Nat) : Int)), ((gs1 1).b, lgO em 0 none 0 0)]) (l₂ := T))
    have hsl := sc_len hsc
    refine rp [.v, .v, .v, .v, .v] H6 kr fun gs4 w5 H7 => ?_
    show WPs _ _ _ _ [] _ _
    refine s_nil ?_
    show WP _ _ _ _ _ _
    have hx : (s.extract 0 z).size = z := by rw [ByteArray.size_extract]; omega
    refine g_sreg [0, 1, 2, 3, 4, 5, 6, 7, 8] kr kr ?_
    refine rp [.l 0, .v, .c (cut_ok s k0 z hz (by omega) hsl.2), .v, .v, .v] H7 kr fun gs5 w6 H8 => ?_
    show WPs _ _ _ _ [6, 7, 8] _ _
    have H9 : St w.heap.size w w6 (((gs1 0).b, dvO s ((k0 : Nat) : Int)) :: ((gs1 1).b, lgO em 0 none 0 0) :: T) := H8.as kr
    refine s_alloc H9 (some 6) 23 (dvV em 0) kr kr kr ?_
    intro bg w7 H10
    refine rp [.s 0, .v] H10 kr fun gs6 w8 H11 => ?_
    show WPs _ _ _ _ [] _ _
    refine s_nil ?_
    show WP _ _ _ _ _ _
    have hX : rightM (s.extract 0 z) ((min k0 z : Nat) : Int) = true := rightM_iff.2 ⟨by omega, by omega, by omega⟩
    have hsure := sure_fn (s.extract 0 z) ((min k0 z : Nat) : Int) q m k hX
    rw [hx] at hsure
    refine rS [.l 0, .v, .v, .c hsure, .s 2, .v] H11 kr fun gs7 w9 H12 => ?_
    refine rRr [.cell 2 26, .tmp 3] [2] (.tuple #[lgV (s.extract 0 z) ((z : Nat) : Int) q m k, .int .i64 0]) (outT w.heap.size w (okOpen s ((k0 : Nat) : Int))) H12 kr ?_
    have H13 : St w.heap.size w w9 ((bg, dvO (s.extract 0 z) ((min k0 z : Nat) : Int)) :: ((gs1 0).b, dvO s ((k0 : Nat) : Int)) :: ((gs1 1).b, lgO (s.extract 0 z) ((z : Nat) : Int) q m k) :: T) := H12.as kr
    refine ⟨T, ?_, H13.sub ((List.sublist_cons_self ..).trans ((List.sublist_cons_self ..).trans (List.sublist_cons_self ..)))⟩
    unfold okOpen; rw [hr]
    exact ⟨rs, z, hsc, q, m, k, hrow, rfl⟩
end Go.Proofs.Ythpiojejhellhaa

namespace Go.Proofs.Ythpiojejhellhaa
open Go Go.RowKit Go.Proofs.Crc
open D2 (Gh)
set_option linter.unusedVariables false
theorem flat_next {A : List ByteArray} {i : Nat} (hi : i < A.length) : strB (flat (A.take i)) ++ strB (frB (tl A[i])) = strB (flat (A.take (i + 1))) := by
  rw [← flat_snoc1, List.take_succ_eq_append_getElem hi]
theorem flat_next_len {A : List ByteArray} {i : Nat} (hi : i < A.length) : (flat (A.take (i + 1))).length = (flat (A.take i)).length + (A[i].size + 6) := by
  rw [List.take_succ_eq_append_getElem hi, flat_snoc, List.length_append, frB_len, tl_len]
set_option maxRecDepth 100000 in
set_option maxHeartbeats 4000000 in
theorem framesR_fn (p : Option Addr) (n c : Nat) (A : List ByteArray) (hn9 : n ≤ 1000) : FnP Try.prog 22 #[.slice p n c] (fun w => AtF sS w p n A) (.tuple #[.string (if A.all recB = true then strB (flat A) else em), .bool (A.all recB)]) := by
  refine FnP.intro (c := codeOf Try.f22) [.tmp 2, .tmp 3] 22 Try.func22 kr kr kr fun w hP => ?_
  obtain ⟨hA, hA2⟩ := hP
  have H0 := St.start w
  refine rS [.v, .v] H0 kr fun gs1 w1 H1 => ?_
  refine rS [.v] H1 kr fun gs2 w2 H2 => ?_
  refine g_seq kr ?_
  refine rS [.v, .v, .v] H2 kr fun gs3 w3 H3 => ?_
  refine g_block 0 kr ?_
  have H4 : St w.heap.size w w3 [] := H3.as kr
  clear H0 H1 H2 H3
  refine g_loop kr (fun mz ρ ww => ∃ (i : Nat), n - i = mz ∧ i ≤ n ∧ (∀ x ∈ A.take i, recB x = true) ∧ (flat (A.take i)).length ≤ 4006 * i ∧ St w.heap.size w ww [] ∧ Is [(4, .string (strB (flat (A.take i)))), (7, .slice p n c), (8, iN n), (9, iN i)] ρ) (n - 0) ⟨0, rfl, Nat.zero_le _, fun x h => by simp at h, Nat.le_refl _, H4, (Is.of ⟨kr, kr, kr, kr, trivial⟩)⟩ ?_
  clear H4
  rintro _ _ w4 ⟨i, rfl, him, hall, hsz, H5, _, rfl⟩
  by_cases hi : i < n
  · have hiA : i < A.length := by omega
    rcases hA2 with rfl | ⟨ba, oa, CA, TA, fa, rfl, hha, hRa⟩
    · exact absurd hiA (Nat.not_lt_zero _)
    have ca : CA[oa + i * 1]? = some (.string A[i]) := hRa.cell (List.getElem?_eq_getElem hiA) 0 (by decide)
    refine rS [.e (v := .bool (decide (((i : Nat) : Int) < ((n : Nat) : Int)))) (v' := .bool true) (bool_eq (decide_eq_true (by omega)))] H5 kr fun gs4 w5 H6 => ?_
    refine g_seq kr ?_
    refine g_cond_t kr kr ?_
    refine g_skip kr ?_
    show WP _ _ _ _ _ _
    refine g_seq kr ?_
    refine g_block 1 kr ?_
    refine rS [.o (ins := [((.tmp 7), .slice (some ⟨ba, oa, none⟩) n c), ((.tmp 9), iN i)]) (v := .pointer (some ⟨ba, oa + i * 1, none⟩)) (fun ρ o w ho hi2 => idxQ_run (kd := .i64) (t := 24) (e := 9) (K := 1) (bytes := 16) kr (x := (.tmp 7)) (y := (.tmp 9)) ba oa n c i rfl ho hi2.1 hi2.2.1 (by omega) w), .fs (off := oa + i * 1) (v := .string A[i]) hha (lt_of_heap hha) ca, .v] H6 kr fun gs5 w6 H7 => ?_
    refine g_seq kr ?_
    cases hr : recB A[i] with
    | true =>
      have hr2 := recB_iff.1 hr
      have hs1 : (strB (flat (A.take i))).size ≤ 4006 * i := by rw [strB_size]; exact hsz
      have hs2 : (strB (frB (tl A[i]))).size = A[i].size + 6 := by rw [strB_size, frB_len, tl_len]
      refine rS [.v, .c (isRec_fn A[i]), .e (v := .bool (!(recB A[i]))) (v' := .bool false) (bool_eq (by rw [hr]; rfl))] H7 kr fun gs6 w7 H8 => ?_
      refine g_cond_f kr kr ?_
      refine g_skip kr ?_
      show WP _ _ _ _ _ _
      refine rL [.v, .v, .c (frameR_fn A[i] hr2.2), .oe (ins := [((.tmp 16), .string (strB (flat (A.take i)))), ((.tmp 18), .string (strB (frB (tl A[i]))))]) (v := .string (strB (flat (A.take i)) ++ strB (frB (tl A[i])))) (v' := .string (strB (flat (A.take (i + 1))))) (fun ρ o w ho hi => sadd_run (t := 9) (t' := 9) (x := (.tmp 16)) (y := (.tmp 18)) (strB (flat (A.take i))) (strB (frB (tl A[i]))) w ho hi.1 hi.2.1 (by omega)) (congrArg Value.string (flat_next hiA)), .v] H8 kr fun gs7 w8 H9 => ?_
      show WP _ _ _ _ _ _
      refine rL [.e (v := .int .i64 (IntKind.i64.wrap (((i : Nat) : Int) + 1))) (v' := iN (i + 1)) (int_eq (wrapAdd_i64 (a := i) (b := 1) (by omega))), .v] H9 kr fun gs8 w9 H10 => ?_
      show ∃ m, _ ∧ _
      refine ⟨_, (by omega), i + 1, rfl, hi, fun x hx => ?_, by rw [flat_next_len hiA]; omega, H10.as kr, (Is.of ⟨kr, kr, kr, kr, trivial⟩)⟩
      rw [List.take_succ_eq_append_getElem hiA] at hx
      rcases List.mem_append.1 hx with h | h
      · exact hall x h
      · rw [List.mem_singleton.1 h]; exact hr
    | false =>
      have hno : A.all recB = false := by
        rw [List.all_eq_false]
        exact ⟨A[i], List.getElem_mem hiA, by rw [hr]; decide⟩
      refine rS [.v, .c (isRec_fn A[i]), .e (v := .bool (!(recB A[i]))) (v' := .bool true) (bool_eq (by rw [hr]; rfl))] H7 kr fun gs6 w7 H8 => ?_
      refine g_cond_t kr kr ?_
      refine rS [.v, .v] H8 kr fun gs7 w8 H9 => ?_
      exact rRe [.tmp 2, .tmp 3] [] (v := .tuple #[.string em, .bool false]) (v' := .tuple #[.string (if A.all recB = true then strB (flat A) else em), .bool (A.all recB)]) H9 (by rw [hno]; rfl) kr
  · obtain rfl : i = n := by omega
    have hall2 : A.all recB = true := by
      rw [hA, List.take_length] at hall
      exact List.all_eq_true.2 hall
    refine rS [.e (v := .bool (decide (((i : Nat) : Int) < ((i : Nat) : Int)))) (v' := .bool false) (bool_eq (decide_eq_false (by omega)))] H5 kr fun gs4 w5 H6 => ?_
    refine g_seq kr ?_
    refine g_cond_f kr kr ?_
    refine g_exit 0 kr ?_
    show WP _ _ _ _ _ _
    refine rS [.v, .v, .v] H6 kr fun gs5 w6 H7 => ?_
    exact rRe [.tmp 2, .tmp 3] [] (v := .tuple #[.string (strB (flat (A.take i))), .bool true]) (v' := .tuple #[.string (if A.all recB = true then strB (flat A) else em), .bool (A.all recB)]) H7 (by rw [if_pos hall2, hall2, hA, List.take_length]) kr
set_option maxRecDepth 100000 in
set_option maxHeartbeats 4000000 in
theorem rightLR_fn (s : ByteArray) (a : Int) (p : Option Addr) (n c : Nat) (A : List ByteArray) (hn9 : n ≤ 1000) : FnP Try.prog 13 #[lgV s a p n c] (fun w => AtF sS w p n A) (.bool (rightL s a A)) := by
  refine FnP.intro (c := codeOf Try.f13) [.tmp 2] 24 Try.func13 kr kr kr fun w hP => ?_
  have H0 := St.start w
  have hfr := framesR_fn p n c A hn9
  have hri := rightR_fn s a
  refine rS [.b, .v] H0 kr fun gs1 w1 H1 => ?_
  cases hall : A.all recB with
  | false =>
    rw [hall] at hfr
    have hL : rightL s a A = false := by unfold rightL; rw [hall]; rfl
    refine rS [.v, .l 0, .cp (pre := fun w => AtF sS w p n A) hfr [] (fun w' hb hd => hP.call hb), .v, .v, .v, .v, .v] H1 kr fun gs2 w2 H2 => ?_
    refine rS [.v, .v, .n, .n, .n, .v, .v, .n, .n, .n, .n, .n, .v, .v] H2 kr fun gs3 w3 H3 => ?_
    exact rRe [.tmp 2] [] (v := .bool false) (v' := .bool (rightL s a A)) H3 (by rw [hL]) kr
  | true =>
    rw [hall, if_pos rfl] at hfr
    refine rS [.v, .l 0, .cp (pre := fun w => AtF sS w p n A) hfr [] (fun w' hb hd => hP.call hb), .v, .v, .v, .v, .v] H1 kr fun gs2 w2 H2 => ?_
    cases hr : rightM s a with
    | false =>
      rw [hr] at hri
      have hL : rightL s a A = false := by unfold rightL; rw [hr]; simp
      refine rS [.v, .v, .v, .l 0, .c hri, .v, .v, .n, .n, .n, .n, .n, .v, .v] H2 kr fun gs3 w3 H3 => ?_
      exact rRe [.tmp 2] [] (v := .bool false) (v' := .bool (rightL s a A)) H3 (by rw [hL]) kr
    | true =>
      rw [hr] at hri
      have hL : rightL s a A = decide (strB (flat A) = s) := by unfold rightL; rw [hr, hall]; simp
      refine rS [.v, .v, .v, .l 0, .c hri, .v, .v, .v, .v, .v, .l 0, .e (v := .bool ((strB (flat A)).toList == s.toList)) (v' := .bool (decide (strB (flat A) = s))) (bool_eq (by
        by_cases h : strB (flat A) = s
        · rw [str_same _ _ h, decide_eq_true h]
        · rw [str_other _ _ h, decide_eq_false h])), .v, .v] H2 kr fun gs3 w3 H3 => ?_
      exact rRe [.tmp 2] [] (v := .bool (decide (strB (flat A) = s))) (v' := .bool (rightL s a A)) H3 (by rw [hL]) kr
end Go.Proofs.Ythpiojejhellhaa

namespace Go.Proofs.Ythpiojejhellhaa
open Go Go.RowKit Go.Proofs.Crc
open D2 (Gh)
set_option linter.unusedVariables false
abbrev oneA : ByteArray := ⟨#[97]⟩
theorem right_em : rightL em 0 [] = true := by decide
theorem append_a : appendM em 0 [] oneA = ⟨strB (frB (tl oneA)), (((strB (frB (tl oneA))).size : Nat) : Int), [oneA], 0⟩ := by
  have h : beginM em 0 [] oneA = ⟨em ++ strB (frB (tl oneA)), 0, [] ++ [oneA], 0⟩ := by
    unfold beginM
    rw [if_pos ⟨by decide, right_em⟩, if_pos (by decide)]
  have e : em ++ strB (frB (tl oneA)) = strB (frB (tl oneA)) := by
    apply tl_inj
    rw [tl_add]; rfl
  unfold appendM
  rw [h, if_pos rfl, e]; rfl
set_option maxRecDepth 100000 in
set_option maxHeartbeats 4000000 in
theorem aliveW_fn : Fn Try.prog 16 #[] (.bool true) := by
  refine Fn.intro (c := codeOf Try.f16) [.tmp 0] 39 Try.func16 kr kr kr fun w => ?_
  have H0 := St.start w
  refine rS [.v] H0 kr fun gs1 w1 H1 => ?_
  refine g_sreg [0, 1, 2, 3, 4, 5, 6, 7] kr kr ?_
  refine rp [.c new_fn] H1 kr fun gs101 v1 K1 => ?_
  show WPs _ _ _ _ [1, 2, 3, 4, 5, 6, 7] _ _
  have K2 : St w.heap.size w v1 ([]) := K1.as kr
  refine s_callFT K2 (some 5) 9 #[lgV em 0 none 0 0, .string oneA] (append_fn em 0 none 0 0 [] oneA) ⟨rfl, .inl rfl⟩ kr kr ?_
  rintro _ T v2 ⟨q, m, k, hrow, rfl⟩ K3
  have K4 : St w.heap.size w v2 ((T ++ [])) := K3.perm (List.perm_append_comm_assoc [] T [])
  rw [append_a] at hrow
  rw [append_a]
  obtain ⟨S, hS⟩ : ∃ S, strB (frB (tl oneA)) = S := ⟨_, rfl⟩
  have hsz : S.size = 7 := by rw [← hS, strB_size, frB_len]; rfl
  rw [hS]
  rw [hS] at hrow
  rcases hrow with ⟨_, _, _, _, h0⟩ | ⟨bq, cur, rfl, rfl, hrw⟩
  · cases h0
  obtain rfl : 1 = m := hrw.lenF
  have hc : cur[0 + 0 * 1]? = some (.string oneA) := hrw.rowAt.cell (i := 0) rfl 0 (by decide)
  refine rp [.v, .v, .v] K4 kr fun gs102 v3 K5 => ?_
  show WPs _ _ _ _ [5, 6, 7] _ _
  have K6 : St w.heap.size w v3 ([(bq, .cells cur 9 (0, 0))]) := K5.as kr
  refine s_alloc K6 (some 1) 26 (lgV em 0 none 0 0) kr kr kr ?_
  intro bg v4 K7
  refine rp [.s 0, .v] K7 kr fun gs103 v5 K8 => ?_
  show WPs _ _ _ _ [] _ _
  refine s_nil ?_
  show WP _ _ _ _ _ _
  refine rS [.v, .v, .v, .v, .l 0, .v, .v, .v, .v, .v, .l 0, .o (ins := [((.tmp 18), .slice (some ⟨bq, 0, none⟩) 1 k), ((.const (.int .i64 0)), .int .i64 0)]) (v := .pointer (some ⟨bq, 0 + 0 * 1, none⟩)) (fun ρ o w ho hi2 => idxQ_run (kd := .i64) (t := 24) (e := 9) (K := 1) (bytes := 16) kr (x := (.tmp 18)) (y := (.const (.int .i64 0))) bq 0 1 k 0 rfl ho hi2.1 hi2.2.1 (by decide) w), .ls 1 (C := cur) (off := 0 + 0 * 1) (v := .string oneA) hc, .v, .v, .v, .v, .v, .l 0, .v, .v, .l 0, .v, .e (v := .bool (((S.size : Nat) : Int) == ((S.size : Nat) : Int))) (v' := .bool true) (bool_eq (beq_self_eq_true _)), .v, .v, .v, .v, .l 0, .e (v := .bool (decide (((S.size : Nat) : Int) > 0))) (v' := .bool true) (bool_eq (decide_eq_true (by omega))), .v, .v] K8 kr fun gs104 v6 K9 => ?_
  exact rRe [.tmp 0] [] (v := .bool true) (v' := .bool true) K9 rfl kr
end Go.Proofs.Ythpiojejhellhaa

namespace Go.Proofs.Ythpiojejhellhaa
open Go Go.RowKit Go.Proofs.Crc
set_option linter.unusedVariables false
theorem flat_append (a b : List ByteArray) : flat (a ++ b) = flat a ++ flat b := by unfold flat; simp
theorem sc_cons {x : ByteArray} (hx : IsR (tl x)) {l : List UInt8} {rs : List ByteArray} {p : Nat} (h : Sc l rs p) : Sc (frB (tl x) ++ l) (x :: rs) ((frB (tl x)).length + p) := by
  obtain ⟨h1, h2, h3, h4⟩ := h
  refine ⟨fun s hs => ?_, ?_, ?_, ?_⟩
  · rcases List.mem_cons.1 hs with rfl | hs
    · exact hx
    · exact h1 s hs
  · rw [flat_cons, List.length_append, h2]
  · rw [flat_cons, List.append_assoc, List.drop_append, List.drop_of_length_le (by omega), List.nil_append, Nat.add_sub_cancel_left, ← h3]
  · rw [List.drop_append, List.drop_of_length_le (by omega), List.nil_append, Nat.add_sub_cancel_left]; exact h4
/-- What is left whole. -/
theorem sc_left : ∀ (A : List ByteArray) (L : Nat), (∀ x ∈ A, IsR (tl x)) → L ≤ (flat A).length →
    ∃ N, N ≤ A.length ∧ (flat (A.take N)).length ≤ L ∧ (N < A.length → L < (flat (A.take (N + 1))).length) ∧ Sc ((flat A).take L) (A.take N) (flat (A.take N)).length
  | [], L, _, hL => by
    have h0 : (flat []).length = 0 := rfl
    obtain rfl : L = 0 := by omega
    exact ⟨0, Nat.le_refl _, Nat.le_refl _, fun h => absurd h (by decide), sc_flat0 (fun x h => by simp at h)⟩
  | x :: A, L, hA, hL => by
    have hx : IsR (tl x) := hA x List.mem_cons_self
    by_cases hc : L < (frB (tl x)).length
    · refine ⟨0, Nat.zero_le _, Nat.zero_le _, fun _ => ?_, ?_⟩
      · show L < (flat [x]).length
        rw [flat_cons, List.length_append]; omega
      · have h := Sc.mk' [] ((frB (tl x)).take L) (fun s hs => by simp at hs) (fst_cut (tl x) hx L hc)
        rw [flat_cons, List.take_append_of_le_length (by omega)]
        exact h
    · rw [flat_cons, List.length_append] at hL
      obtain ⟨N, h1, h2, h3, h4⟩ := sc_left A (L - (frB (tl x)).length) (fun y hy => hA y (List.mem_cons_of_mem _ hy)) (by omega)
      refine ⟨N + 1, Nat.succ_le_succ h1, ?_, fun h => ?_, ?_⟩
      · show (flat (x :: A.take N)).length ≤ L
        rw [flat_cons, List.length_append]; omega
      · show L < (flat (x :: A.take (N + 1))).length
        have := h3 (by simpa using h)
        rw [flat_cons, List.length_append]; omega
      · have h9 := sc_cons hx h4
        have e1 : (flat (x :: A)).take L = frB (tl x) ++ (flat A).take (L - (frB (tl x)).length) := by
          rw [flat_cons, List.take_append, List.take_of_length_le (by omega)]
        rw [e1]
        show Sc _ (x :: A.take N) (flat (x :: A.take N)).length
        rw [flat_cons, List.length_append]; exact h9
theorem flat_mono (A : List ByteArray) {j k : Nat} (h : j ≤ k) : (flat (A.take j)).length ≤ (flat (A.take k)).length := by
  have e : A.take k = A.take j ++ (A.take k).drop j := by
    have h1 := List.take_append_drop j (A.take k)
    rw [List.take_take, Nat.min_eq_left h] at h1
    exact h1.symm
  rw [e, flat_append, List.length_append]; omega
theorem flat_le (A : List ByteArray) (h : ∀ x ∈ A, x.size ≤ 200) : (flat A).length ≤ 206 * A.length := by
  induction A with
  | nil => exact Nat.zero_le _
  | cons x A ih =>
    have h1 := ih fun y hy => h y (List.mem_cons_of_mem _ hy)
    have h2 := h x List.mem_cons_self
    rw [flat_cons, List.length_append, frB_len, tl_len, List.length_cons]; omega
/-- A log as it has become: A its records, the first j of them sure. -/
structure LogAt (A : List ByteArray) (j : Nat) : Prop where
  isR : ∀ x ∈ A, IsR (tl x)
  small : ∀ x ∈ A, x.size ≤ 200
  len : A.length ≤ 14
  sure : j ≤ A.length
theorem LogAt.size {A : List ByteArray} {j : Nat} (h : LogAt A j) : (strB (flat A)).size ≤ 2884 := by
  have h1 := flat_le A h.small
  have h2 := h.len
  rw [strB_size]; omega
theorem LogAt.kle {A : List ByteArray} {j : Nat} (h : LogAt A j) : (flat (A.take j)).length ≤ (strB (flat A)).size := by
  have h1 := flat_mono A h.sure
  rw [List.take_length] at h1
  rw [strB_size]; exact h1
theorem LogAt.right {A : List ByteArray} {j : Nat} (h : LogAt A j) : rightL (strB (flat A)) (((flat (A.take j)).length : Nat) : Int) A = true := by
  have h1 := h.size
  have h2 := h.kle
  exact rightL_iff.2 ⟨h.isR, rightM_iff.2 ⟨by omega, by omega, by omega⟩, rfl⟩
theorem LogAt.nil : LogAt [] 0 := ⟨fun x h => by simp at h, fun x h => by simp at h, by decide, by decide⟩
theorem LogAt.next {A : List ByteArray} {j : Nat} (h : LogAt A j) {U : ByteArray} (hU : recB U = true) (hz : U.size ≤ 200) (hl : A.length < 14) {j' : Nat} (hj : j' = j ∨ j' = A.length + 1) : LogAt (A ++ [U]) j' := by
  refine ⟨fun x hx => ?_, fun x hx => ?_, ?_, ?_⟩
  · rcases List.mem_append.1 hx with q | q
    · exact h.isR x q
    · rw [List.mem_singleton.1 q]; exact recB_R.1 hU
  · rcases List.mem_append.1 hx with q | q
    · exact h.small x q
    · rw [List.mem_singleton.1 q]; exact hz
  · rw [List.length_append, List.length_singleton]; omega
  · have := h.sure
    rw [List.length_append, List.length_singleton]; omega
theorem LogAt.begin {A : List ByteArray} {j : Nat} (h : LogAt A j) {U : ByteArray} (hU : recB U = true) (hz : U.size ≤ 200) : beginM (strB (flat A)) (((flat (A.take j)).length : Nat) : Int) A U = ⟨strB (flat (A ++ [U])), (((flat ((A ++ [U]).take j)).length : Nat) : Int), A ++ [U], 0⟩ := by
  have h1 := h.size
  unfold beginM
  rw [if_pos ⟨hU, h.right⟩, if_pos (by omega), flat_snoc1, List.take_append_of_le_length h.sure]
theorem LogAt.append {A : List ByteArray} {j : Nat} (h : LogAt A j) {U : ByteArray} (hU : recB U = true) (hz : U.size ≤ 200) : appendM (strB (flat A)) (((flat (A.take j)).length : Nat) : Int) A U = ⟨strB (flat (A ++ [U])), (((flat ((A ++ [U]).take (A.length + 1))).length : Nat) : Int), A ++ [U], 0⟩ := by
  unfold appendM
  rw [h.begin hU hz, if_pos rfl]
  have e : (A ++ [U]).take (A.length + 1) = A ++ [U] := List.take_of_length_le (by rw [List.length_append, List.length_singleton]; exact Nat.le_refl _)
  rw [e, strB_size]
theorem LogAt.no {A : List ByteArray} {s : ByteArray} {a : Int} {U : ByteArray} (hU : recB U = false) : beginM s a A U = errL 1 ∧ appendM s a A U = errL 1 := by
  have h : beginM s a A U = errL 1 := by
    unfold beginM
    rw [if_neg (fun q => by rw [hU] at q; exact absurd q.1 (by decide))]
  refine ⟨h, ?_⟩
  unfold appendM
  rw [h, if_neg (by decide)]
/-- Records, and if they are made sure. -/
def aS : Fl (ByteArray × Bool) where
  K := 2
  cs x := [.string x.1, .bool x.2]
  pos := by decide
  len _ := rfl
  one _ := fun u hu => by
    rcases List.mem_cons.1 hu with rfl | hu
    · rfl
    · obtain rfl := List.mem_singleton.1 hu; rfl
end Go.Proofs.Ythpiojejhellhaa

namespace Go.Proofs.Ythpiojejhellhaa
open Go Go.ChangeShapes Go.WideShapes Go.ChangeAt Go.RowKit
set_option linter.unusedVariables false
set_option maxRecDepth 100000
theorem cellsAW : Try.prog.cellsOf 41 = 2 := kr
theorem cellsBo : Try.prog.cellsOf 4 = 1 := kr
section
variable {H : Type} {enc : TypeId × Value → H} {W : World} {sp : Nat → Bool} {held : Bool}
theorem trod_actW (fuel : Nat) (cs : List Value) (x : DataW H × List MemPlace) (h : DataW.trod enc Try.prog W 0 sp held fuel 41 cs = some x) : ∃ a : ByteArray × Bool, cs = aS.cs a := by
  obtain ⟨xs, m, rfl, rfl, hl, hlen, hf⟩ := DataW.trod_struct Try.underlying41 h
  rw [cellsAW] at hl
  obtain ⟨c0, c1, rfl⟩ : ∃ c0 c1, cs = [c0, c1] := by
    match cs, hl with
    | [c0, c1], _ => exact ⟨c0, c1, rfl⟩
  obtain ⟨y0, y1, rfl⟩ : ∃ y0 y1, xs = [y0, y1] := by
    match xs, hlen with
    | [y0, y1], _ => exact ⟨y0, y1, rfl⟩
  have g0 := hf 0 _ rfl
  have g1 := hf 1 _ rfl
  change DataW.trod enc Try.prog W 0 sp held m 9 (([c0, c1].drop 0).take (Try.prog.cellsOf 9)) = some y0 at g0
  change DataW.trod enc Try.prog W 0 sp held m 4 (([c0, c1].drop 1).take (Try.prog.cellsOf 4)) = some y1 at g1
  rw [cellsStD] at g0
  rw [cellsBo] at g1
  obtain ⟨s, e0, rfl, _⟩ := DataW.trod_string Try.underlying9 (show DataW.trod enc Try.prog W 0 sp held m 9 [c0] = some y0 from g0)
  obtain ⟨b, e1, _⟩ := DataW.trod_bool Try.underlying4 (show DataW.trod enc Try.prog W 0 sp held m 4 [c1] = some y1 from g1)
  obtain rfl : c0 = .string s := by simpa using e0
  obtain rfl : c1 = .bool b := by simpa using e1
  exact ⟨(s, b), rfl⟩
theorem openActsW {v : Value} {d : DataW H} {p : List MemPlace} {base : Nat} (hv : Value.okWide Try.prog W .any base 39 v) (h : DataW.Trod enc Try.prog W 0 sp held 39 v d p) :
    ∃ (q : Option Addr) (n c : Nat) (As : List (ByteArray × Bool)), v = .slice q n c ∧ AtF aS W q n As := by
  obtain ⟨ao, len0, cap0, rfl⟩ := okWide_slice Try.underlying39 hv
  obtain ⟨fuel, hf⟩ := h
  rcases DataW.trod_slice Try.underlying39 hf with ⟨hc, hx⟩ | ⟨a, len, cap, elems, rest, n', rfl, hc, hx, _, hlc, hcm, hel, hels, _, _⟩
  · obtain ⟨rfl, rfl, rfl⟩ : ao = none ∧ len0 = 0 ∧ cap0 = 0 := by simpa [Value.cells] using hc
    exact ⟨none, 0, 0, [], rfl, rfl, .inl rfl⟩
  · obtain ⟨rfl, rfl, rfl⟩ : ao = some a ∧ len0 = len ∧ cap0 = cap := by simpa [Value.cells] using hc
    have rows : ∀ q, q ≤ len0 → ∃ L : List (ByteArray × Bool), L.length = q ∧ ∀ (i : Nat) (z : ByteArray × Bool), L[i]? = some z → W.cells? 0 (a.add (i * 2)) 2 = some (aS.cs z) := by
      intro q
      induction q with
      | zero => exact fun _ => ⟨[], rfl, fun i z h => by simp at h⟩
      | succ q ihq =>
        intro hq
        obtain ⟨L, hL, hcc⟩ := ihq (by omega)
        have hi := hels q (by omega)
        rw [cellsAW] at hi
        have hlt : q < elems.length := by omega
        rw [List.getElem?_eq_getElem hlt] at hi
        obtain ⟨cs', hcs, ht⟩ := Option.bind_eq_some_iff.1 hi
        obtain ⟨nd, rfl⟩ := trod_actW n' cs' _ ht
        refine ⟨L ++ [nd], by simp [hL], fun i z hz => ?_⟩
        by_cases hiq : i < L.length
        · rw [List.getElem?_append_left hiq] at hz; exact hcc i z hz
        · rw [List.getElem?_append_right (by omega)] at hz
          have : i - L.length = 0 := by
            have := (List.getElem?_eq_some_iff.1 hz).1; simp at this; omega
          rw [this] at hz
          simp at hz; subst hz
          obtain rfl : i = q := by omega
          exact hcs
    obtain ⟨L, hL, hcl⟩ := rows len0 (Nat.le_refl _)
    refine ⟨some a, len0, cap0, L, rfl, hL.symm, ?_⟩
    cases L with
    | nil => exact .inl rfl
    | cons z0 L0 =>
      have f0 := (World.cells?_some (hcl 0 z0 rfl)).2.2 0 (by omega)
      rw [Nat.zero_mul] at f0
      have e0 : (a.add 0).add 0 = a := rfl
      rw [e0] at f0
      obtain ⟨ea, C, T, fz, hh, hC0⟩ := spot_noneL (v := .string z0.1) (by rw [f0]; rfl)
      refine .inr ⟨a.block, a.off, C, T, fz, congrArg some ea, hh, fun i z hz => ?_⟩
      refine extract_ofL (aS.len z) (by decide) fun j hj => ?_
      have h9 := (World.cells?_some (hcl i z hz)).2.2 j hj
      rw [ea, addr_add, addr_add] at h9
      exact cell_atL hh h9
end
end Go.Proofs.Ythpiojejhellhaa

namespace Go.Proofs.Ythpiojejhellhaa
open Go Go.RowKit Go.Proofs.Crc
open D2 (Gh)
set_option linter.unusedVariables false
/-- Behind the acts. -/
def FinW (p : Option Addr) (n c : Nat) (more : Int) (last : ByteArray) (w : World) (ρ : Env) (ww : World) : Prop := ∃ (b7 : Nat) (A : List ByteArray) (j : Nat) (q : Option Addr) (m k : Nat) (T : List (Nat × Obj)),
  LogAt A j ∧ RowF sS 9 q m k T A ∧ St w.heap.size w ww ((b7, lgO (strB (flat A)) (((flat (A.take j)).length : Nat) : Int) q m k) :: T) ∧ Is [(1, .int .i64 more), (2, .string last), (7, .pointer (some ⟨b7, 0, none⟩)), (8, iN j)] ρ
set_option maxRecDepth 100000 in
set_option maxHeartbeats 8000000 in
theorem acts_w (p : Option Addr) (n c : Nat) (As : List (ByteArray × Bool)) (more : Int) (last : ByteArray) (w : World) (hP : AtF aS w p n As) {ρ : Env} {ww : World} {Q : Exit → Env → World → Prop} (b7 : Nat)
    (H : St w.heap.size w ww [(b7, lgO (strB (flat [])) (((flat ([].take 0)).length : Nat) : Int) none 0 0)]) (hI : Is [(1, .int .i64 more), (2, .string last), (7, .pointer (some ⟨b7, 0, none⟩)), (8, iN 0), (29, .slice p n c), (30, iN n), (31, iN 0)] ρ) (hQ : ∀ ρ ww, FinW p n c more last w ρ ww → Q .normal ρ ww) :
    WP Try.prog 204 (seqR (seqL (seqR (seqR (seqR (codeOf Try.f4)))))) Q ρ ww := by
  obtain ⟨hA0, hA2⟩ := hP
  refine g_mono (Q := fun e ρ ww => e = .normal ∧ FinW p n c more last w ρ ww) ?_ (fun e ρ ww h => by obtain ⟨rfl, h⟩ := h; exact hQ ρ ww h)
  refine g_block 0 kr ?_
  refine g_loop kr (fun mz ρ ww => ∃ (i : Nat) (A : List ByteArray) (j : Nat) (q : Option Addr) (m k : Nat) (T : List (Nat × Obj)), n - i = mz ∧ i ≤ n ∧ LogAt A j ∧ A.length ≤ i ∧ RowF sS 9 q m k T A ∧ St w.heap.size w ww ((b7, lgO (strB (flat A)) (((flat (A.take j)).length : Nat) : Int) q m k) :: T) ∧ Is [(1, .int .i64 more), (2, .string last), (7, .pointer (some ⟨b7, 0, none⟩)), (8, iN j), (29, .slice p n c), (30, iN n), (31, iN i)] ρ) (n - 0) ⟨0, [], 0, none, 0, 0, [], rfl, Nat.zero_le _, LogAt.nil, Nat.le_refl _, .inl ⟨rfl, rfl, rfl, rfl, rfl⟩, H, hI⟩ ?_
  clear H hI
  rintro _ _ w4 ⟨i, A, j, q, m, k, T, rfl, him, hA, hAi, hrow, H5, _, rfl⟩
  by_cases hi : i < n
  · have hiA : i < As.length := by omega
    rcases hA2 with rfl | ⟨ba, oa, CA, TA, fa, rfl, hha, hRa⟩
    · exact absurd hiA (Nat.not_lt_zero _)
    obtain ⟨x, hx⟩ : ∃ x, As[i]? = some x := ⟨_, List.getElem?_eq_getElem hiA⟩
    have cx : oa + i * 2 + 2 ≤ CA.size ∧ CA.extract (oa + i * 2) (oa + i * 2 + 2) = #[.string x.1, .bool x.2] := hRa i x hx
    refine rS [.e (v := .bool (decide (((i : Nat) : Int) < ((n : Nat) : Int)))) (v' := .bool true) (bool_eq (decide_eq_true (by omega)))] H5 kr fun gs4 w5 H6 => ?_
    refine g_seq kr ?_
    refine g_cond_t kr kr ?_
    refine g_skip kr ?_
    show WP _ _ _ _ _ _
    refine g_seq kr ?_
    refine g_block 1 kr ?_
    have H9 : St w.heap.size w w5 ((b7, lgO (strB (flat A)) (((flat (A.take j)).length : Nat) : Int) q m k) :: T) := H6.as kr
    generalize w5 = v9 at H9 ⊢
    clear H5 H6
    refine g_sreg [0, 1, 2, 3, 4, 5] kr kr ?_
    refine rp [.v, .o (ins := [((.tmp 29), .slice (some ⟨ba, oa, none⟩) n c), ((.tmp 31), iN i)]) (v := .pointer (some ⟨ba, oa + i * 2, none⟩)) (fun ρ o w ho hi2 => idxQ_run (kd := .i64) (t := 39) (e := 41) (K := 2) (bytes := 24) kr (x := (.tmp 29)) (y := (.tmp 31)) ba oa n c i rfl ho hi2.1 hi2.2.1 hi w), .fp (off := oa + i * 2) (n := 2) (W := #[.string x.1, .bool x.2]) hha (lt_of_heap hha) cx.1 cx.2] H9 kr fun gs101 v1 K1 => ?_
    show WPs _ _ _ _ [3, 4, 5] _ _
    have K2 : St w.heap.size w v1 ((b7, lgO (strB (flat A)) (((flat (A.take j)).length : Nat) : Int) q m k) :: T) := K1.as kr
    refine s_alloc K2 (some 10) 41 (.agg #[.string em, .bool false]) kr kr kr ?_
    intro b10 v2 K3
    refine rp [.v, .s 0] K3 kr fun gs102 v3 K4 => ?_
    show WPs _ _ _ _ [] _ _
    refine s_nil ?_
    show WP _ _ _ _ _ _
    have K5 : St w.heap.size w v3 ((b10, Obj.cells #[.string x.1, .bool x.2] 41 (0, 0)) :: (b7, lgO (strB (flat A)) (((flat (A.take j)).length : Nat) : Int) q m k) :: T) := K4.as kr
    refine g_seq kr ?_
    by_cases h14 : 14 ≤ i
    · refine rS [.v, .e (v := .bool (decide (((i : Nat) : Int) ≥ 14))) (v' := .bool true) (bool_eq (decide_eq_true (by omega)))] K5 kr fun gs103 v4 K6 => ?_
      refine g_cond_t kr kr ?_
      refine g_exit 0 kr ?_
      have K7 : St w.heap.size w v4 ((b10, Obj.cells #[.string x.1, .bool x.2] 41 (0, 0)) :: (b7, lgO (strB (flat A)) (((flat (A.take j)).length : Nat) : Int) q m k) :: T) := K6.as kr
      exact ⟨rfl, b7, A, j, q, m, k, T, hA, hrow, K7.sub (List.sublist_cons_self ..), (Is.of ⟨kr, kr, kr, kr, trivial⟩)⟩
    · refine rS [.v, .e (v := .bool (decide (((i : Nat) : Int) ≥ 14))) (v' := .bool false) (bool_eq (decide_eq_false (by omega)))] K5 kr fun gs103 v4 K6 => ?_
      refine g_cond_f kr kr ?_
      refine g_skip kr ?_
      show WP _ _ _ _ _ _
      obtain ⟨x1, x2⟩ := x
      obtain ⟨U, hU⟩ : ∃ U, x1.extract 0 (min x1.size 200) = U := ⟨_, rfl⟩
      have zU : U.size ≤ 200 := by rw [← hU, ByteArray.size_extract]; omega
      refine rS [.v, .l 0, .v, .l 0, .v, .e (v := .int .i64 (if (200 : Int) < ((x1.size : Nat) : Int) then (200 : Int) else ((x1.size : Nat) : Int))) (v' := iN (min x1.size 200)) (int_eq (by split <;> omega)), .oe (ins := [((.tmp 39), .string x1), ((.tmp 43), iN (min x1.size 200))]) (v := .string (x1.extract 0 (min x1.size 200))) (v' := .string U) (fun ρ o w ho hi => scut_run (t := 9) (kd := .i64) kr (x := (.tmp 39)) (y := (.tmp 43)) x1 (min x1.size 200) ho hi.1 hi.2.1 (Nat.min_le_left _ _) w) (congrArg Value.string hU), .v] K6 kr fun gs104 v5 K7 => ?_
      refine g_sreg [0, 1, 2, 3, 4, 5, 6, 7, 8] kr kr ?_
      refine rp [.l 1, .v] K7 kr fun gs105 v6 K8 => ?_
      show WPs _ _ _ _ [2, 3, 4, 5, 6, 7, 8] _ _
      have K9 : St w.heap.size w v6 ((b10, Obj.cells #[.string x1, .bool x2] 41 (0, 0)) :: (b7, lgO (strB (flat A)) (((flat (A.take j)).length : Nat) : Int) q m k) :: T) := K8.as kr
      refine s_callFT K9 (some 48) 7 #[lgV (strB (flat A)) (((flat (A.take j)).length : Nat) : Int) q m k, .string U] (begin_fn (strB (flat A)) (((flat (A.take j)).length : Nat) : Int) q m k A U) (hrow.atF K9 (fun e he => by simp [he])) kr kr ?_
      rintro _ T1 v7 ⟨q1, m1, k1, hrow1, rfl⟩ K10
      have K11 : St w.heap.size w v7 ((b10, Obj.cells #[.string x1, .bool x2] 41 (0, 0)) :: (b7, lgO (strB (flat A)) (((flat (A.take j)).length : Nat) : Int) q m k) :: (T1 ++ T)) := K10.perm (List.perm_append_comm_assoc [(b10, Obj.cells #[.string x1, .bool x2] 41 (0, 0)), (b7, lgO (strB (flat A)) (((flat (A.take j)).length : Nat) : Int) q m k)] T1 T)
      have hrec := isRec_fn U
      cases hr : recB U with
      | true =>
        cases x2 with
        | true =>
          rw [hA.begin hr zU] at hrow1
          rw [hA.begin hr zU]
          rw [hr] at hrec
          replace hrow1 : RowF sS 9 q1 m1 k1 T1 (A ++ [U]) := hrow1
          refine rp [.v, .v, .v] K11 kr fun gs106 v8 K12 => ?_
          show WPs _ _ _ _ [6, 7, 8] _ _
          have K13 : St w.heap.size w v8 ((b10, Obj.cells #[.string x1, .bool true] 41 (0, 0)) :: (b7, lgO (strB (flat A)) (((flat (A.take j)).length : Nat) : Int) q m k) :: (T1 ++ T)) := K12.as kr
          refine s_alloc K13 (some 12) 26 (lgV em 0 none 0 0) kr kr kr ?_
          intro b12 v9 K14
          refine rp [.s 0, .v] K14 kr fun gs107 v10 K15 => ?_
          show WPs _ _ _ _ [] _ _
          refine s_nil ?_
          show WP _ _ _ _ _ _
          refine g_seq kr ?_
          refine rS [.v, .l 1] K15 kr fun gs108 v11 K16 => ?_
          refine g_cond_t kr kr ?_
          refine g_reg0 [0, 1, 2, 3, 4, 5, 6, 7] kr ?_
          refine rp [.l 2, .v] K16 kr fun gs109 v12 K17 => ?_
          show WPs _ _ _ _ [2, 3, 4, 5, 6, 7] _ _
          have K18 : St w.heap.size w v12 ((b12, lgO (strB (flat (A ++ [U]))) (((flat ((A ++ [U]).take j)).length : Nat) : Int) q1 m1 k1) :: (b10, Obj.cells #[.string x1, .bool true] 41 (0, 0)) :: (b7, lgO (strB (flat A)) (((flat (A.take j)).length : Nat) : Int) q m k) :: (T1 ++ T)) := K17.as kr
          refine s_callFT K18 (some 56) 9 #[lgV (strB (flat A)) (((flat (A.take j)).length : Nat) : Int) q m k, .string U] (append_fn (strB (flat A)) (((flat (A.take j)).length : Nat) : Int) q m k A U) (hrow.atF K18 (fun e he => by simp [he])) kr kr ?_
          rintro _ T2 v13 ⟨q2, m2, k2, hrow2, rfl⟩ K19
          have K20 : St w.heap.size w v13 ((b12, lgO (strB (flat (A ++ [U]))) (((flat ((A ++ [U]).take j)).length : Nat) : Int) q1 m1 k1) :: (b10, Obj.cells #[.string x1, .bool true] 41 (0, 0)) :: (b7, lgO (strB (flat A)) (((flat (A.take j)).length : Nat) : Int) q m k) :: (T2 ++ (T1 ++ T))) := K19.perm (List.perm_append_comm_assoc [(b12, lgO (strB (flat (A ++ [U]))) (((flat ((A ++ [U]).take j)).length : Nat) : Int) q1 m1 k1), (b10, Obj.cells #[.string x1, .bool true] 41 (0, 0)), (b7, lgO (strB (flat A)) (((flat (A.take j)).length : Nat) : Int) q m k)] T2 (T1 ++ T))
          rw [hA.append hr zU] at hrow2
          rw [hA.append hr zU]
          replace hrow2 : RowF sS 9 q2 m2 k2 T2 (A ++ [U]) := hrow2
          refine rp [.v, .v, .v, .s 0, .v] K20 kr fun gs110 v14 K21 => ?_
          show WPs _ _ _ _ [] _ _
          refine s_nil ?_
          show WP _ _ _ _ _ _
          have K22 : St w.heap.size w v14 ((b12, lgO (strB (flat (A ++ [U]))) (((flat ((A ++ [U]).take (A.length + 1))).length : Nat) : Int) q2 m2 k2) :: (b10, Obj.cells #[.string x1, .bool true] 41 (0, 0)) :: (b7, lgO (strB (flat A)) (((flat (A.take j)).length : Nat) : Int) q m k) :: (T2 ++ (T1 ++ T))) := K21.as kr
          refine g_seq kr ?_
          refine rS [.v, .v, .v, .c hrec, .v] K22 kr fun gs111 v15 K23 => ?_
          refine g_cond_f kr kr ?_
          refine g_skip kr ?_
          show WP _ _ _ _ _ _
          refine g_seq kr ?_
          refine rS [.v, .v] K23 kr fun gs112 v16 K24 => ?_
          refine g_cond_f kr kr ?_
          refine g_skip kr ?_
          show WP _ _ _ _ _ _
          refine rS [.l 0, .s 2] K24 kr fun gs113 v17 K25 => ?_
          refine rS [.v, .l 1] K25 kr fun gs114 v18 K26 => ?_
          refine g_cond_t kr kr ?_
          have hm2 : m2 = A.length + 1 := by have h9 := hrow2.len; rw [List.length_append, List.length_singleton] at h9; omega
          refine rL [.v, .l 2, .e (v := iN m2) (v' := iN (A.length + 1)) (by rw [hm2]), .v] K26 kr fun gs115 v19 K27 => ?_
          show WP _ _ _ _ _ _
          refine rL [.e (v := .int .i64 (IntKind.i64.wrap (((i : Nat) : Int) + 1))) (v' := iN (i + 1)) (int_eq (wrapAdd_i64 (a := i) (b := 1) (by omega))), .v] K27 kr fun gs116 v20 K28 => ?_
          have K29 : St w.heap.size w v20 ((b12, lgO (strB (flat (A ++ [U]))) (((flat ((A ++ [U]).take (A.length + 1))).length : Nat) : Int) q2 m2 k2) :: (b10, Obj.cells #[.string x1, .bool true] 41 (0, 0)) :: (b7, lgO (strB (flat (A ++ [U]))) (((flat ((A ++ [U]).take (A.length + 1))).length : Nat) : Int) q2 m2 k2) :: (T2 ++ (T1 ++ T))) := K28.as kr
          show ∃ m, _ ∧ _
          exact ⟨_, (by omega), i + 1, A ++ [U], (A.length + 1), q2, m2, k2, T2, rfl, hi, hA.next hr zU (by omega) (.inr rfl), (by rw [List.length_append, List.length_singleton]; omega), hrow2, K29.sub (List.Sublist.trans (List.Sublist.cons_cons _ (List.sublist_append_left _ _)) (List.Sublist.trans (List.sublist_cons_self ..) (List.sublist_cons_self ..))), (Is.of ⟨kr, kr, kr, kr, kr, kr, kr, trivial⟩)⟩
        | false =>
          rw [hA.begin hr zU] at hrow1
          rw [hA.begin hr zU]
          rw [hr] at hrec
          replace hrow1 : RowF sS 9 q1 m1 k1 T1 (A ++ [U]) := hrow1
          refine rp [.v, .v, .v] K11 kr fun gs106 v8 K12 => ?_
          show WPs _ _ _ _ [6, 7, 8] _ _
          have K13 : St w.heap.size w v8 ((b10, Obj.cells #[.string x1, .bool false] 41 (0, 0)) :: (b7, lgO (strB (flat A)) (((flat (A.take j)).length : Nat) : Int) q m k) :: (T1 ++ T)) := K12.as kr
          refine s_alloc K13 (some 12) 26 (lgV em 0 none 0 0) kr kr kr ?_
          intro b12 v9 K14
          refine rp [.s 0, .v] K14 kr fun gs107 v10 K15 => ?_
          show WPs _ _ _ _ [] _ _
          refine s_nil ?_
          show WP _ _ _ _ _ _
          refine g_seq kr ?_
          refine rS [.v, .l 1] K15 kr fun gs108 v11 K16 => ?_
          refine g_cond_f kr kr ?_
          refine g_skip kr ?_
          show WP _ _ _ _ _ _
          refine g_seq kr ?_
          refine rS [.v, .v, .v, .c hrec, .v] K16 kr fun gs109 v12 K17 => ?_
          refine g_cond_f kr kr ?_
          refine g_skip kr ?_
          show WP _ _ _ _ _ _
          refine g_seq kr ?_
          refine rS [.v, .v] K17 kr fun gs110 v13 K18 => ?_
          refine g_cond_f kr kr ?_
          refine g_skip kr ?_
          show WP _ _ _ _ _ _
          refine rS [.l 0, .s 2] K18 kr fun gs111 v14 K19 => ?_
          refine rS [.v, .l 1] K19 kr fun gs112 v15 K20 => ?_
          refine g_cond_f kr kr ?_
          refine g_skip kr ?_
          show WP _ _ _ _ _ _
          refine rL [.e (v := .int .i64 (IntKind.i64.wrap (((i : Nat) : Int) + 1))) (v' := iN (i + 1)) (int_eq (wrapAdd_i64 (a := i) (b := 1) (by omega))), .v] K20 kr fun gs113 v16 K21 => ?_
          have K22 : St w.heap.size w v16 ((b12, lgO (strB (flat (A ++ [U]))) (((flat ((A ++ [U]).take j)).length : Nat) : Int) q1 m1 k1) :: (b10, Obj.cells #[.string x1, .bool false] 41 (0, 0)) :: (b7, lgO (strB (flat (A ++ [U]))) (((flat ((A ++ [U]).take j)).length : Nat) : Int) q1 m1 k1) :: (T1 ++ T)) := K21.as kr
          show ∃ m, _ ∧ _
          exact ⟨_, (by omega), i + 1, A ++ [U], j, q1, m1, k1, T1, rfl, hi, hA.next hr zU (by omega) (.inl rfl), (by rw [List.length_append, List.length_singleton]; omega), hrow1, K22.sub (List.Sublist.trans (List.Sublist.cons_cons _ (List.sublist_append_left _ _)) (List.Sublist.trans (List.sublist_cons_self ..) (List.sublist_cons_self ..))), (Is.of ⟨kr, kr, kr, kr, kr, kr, kr, trivial⟩)⟩
      | false =>
        cases x2 with
        | true =>
          rw [(LogAt.no hr).1] at hrow1
          rw [(LogAt.no hr).1]
          rw [hr] at hrec
          replace hrow1 : RowF sS 9 q1 m1 k1 T1 [] := hrow1
          refine rp [.v, .v, .v] K11 kr fun gs106 v8 K12 => ?_
          show WPs _ _ _ _ [6, 7, 8] _ _
          have K13 : St w.heap.size w v8 ((b10, Obj.cells #[.string x1, .bool true] 41 (0, 0)) :: (b7, lgO (strB (flat A)) (((flat (A.take j)).length : Nat) : Int) q m k) :: (T1 ++ T)) := K12.as kr
          refine s_alloc K13 (some 12) 26 (lgV em 0 none 0 0) kr kr kr ?_
          intro b12 v9 K14
          refine rp [.s 0, .v] K14 kr fun gs107 v10 K15 => ?_
          show WPs _ _ _ _ [] _ _
          refine s_nil ?_
          show WP _ _ _ _ _ _
          refine g_seq kr ?_
          refine rS [.v, .l 1] K15 kr fun gs108 v11 K16 => ?_
          refine g_cond_t kr kr ?_
          refine g_reg0 [0, 1, 2, 3, 4, 5, 6, 7] kr ?_
          refine rp [.l 2, .v] K16 kr fun gs109 v12 K17 => ?_
          show WPs _ _ _ _ [2, 3, 4, 5, 6, 7] _ _
          have K18 : St w.heap.size w v12 ((b12, lgO em 0 q1 m1 k1) :: (b10, Obj.cells #[.string x1, .bool true] 41 (0, 0)) :: (b7, lgO (strB (flat A)) (((flat (A.take j)).length : Nat) : Int) q m k) :: (T1 ++ T)) := K17.as kr
          refine s_callFT K18 (some 56) 9 #[lgV (strB (flat A)) (((flat (A.take j)).length : Nat) : Int) q m k, .string U] (append_fn (strB (flat A)) (((flat (A.take j)).length : Nat) : Int) q m k A U) (hrow.atF K18 (fun e he => by simp [he])) kr kr ?_
          rintro _ T2 v13 ⟨q2, m2, k2, hrow2, rfl⟩ K19
          have K20 : St w.heap.size w v13 ((b12, lgO em 0 q1 m1 k1) :: (b10, Obj.cells #[.string x1, .bool true] 41 (0, 0)) :: (b7, lgO (strB (flat A)) (((flat (A.take j)).length : Nat) : Int) q m k) :: (T2 ++ (T1 ++ T))) := K19.perm (List.perm_append_comm_assoc [(b12, lgO em 0 q1 m1 k1), (b10, Obj.cells #[.string x1, .bool true] 41 (0, 0)), (b7, lgO (strB (flat A)) (((flat (A.take j)).length : Nat) : Int) q m k)] T2 (T1 ++ T))
          rw [(LogAt.no hr).2] at hrow2
          rw [(LogAt.no hr).2]
          replace hrow2 : RowF sS 9 q2 m2 k2 T2 [] := hrow2
          refine rp [.v, .v, .v, .s 0, .v] K20 kr fun gs110 v14 K21 => ?_
          show WPs _ _ _ _ [] _ _
          refine s_nil ?_
          show WP _ _ _ _ _ _
          have K22 : St w.heap.size w v14 ((b12, lgO em 0 q2 m2 k2) :: (b10, Obj.cells #[.string x1, .bool true] 41 (0, 0)) :: (b7, lgO (strB (flat A)) (((flat (A.take j)).length : Nat) : Int) q m k) :: (T2 ++ (T1 ++ T))) := K21.as kr
          refine g_seq kr ?_
          refine rS [.v, .v, .v, .c hrec, .v] K22 kr fun gs111 v15 K23 => ?_
          refine g_cond_f kr kr ?_
          refine g_skip kr ?_
          show WP _ _ _ _ _ _
          refine g_seq kr ?_
          refine rS [.v, .v] K23 kr fun gs112 v16 K24 => ?_
          refine g_cond_t kr kr ?_
          refine g_exit 1 kr ?_
          show WP _ _ _ _ _ _
          refine rL [.e (v := .int .i64 (IntKind.i64.wrap (((i : Nat) : Int) + 1))) (v' := iN (i + 1)) (int_eq (wrapAdd_i64 (a := i) (b := 1) (by omega))), .v] K24 kr fun gs113 v17 K25 => ?_
          have K26 : St w.heap.size w v17 ((b12, lgO em 0 q2 m2 k2) :: (b10, Obj.cells #[.string x1, .bool true] 41 (0, 0)) :: (b7, lgO (strB (flat A)) (((flat (A.take j)).length : Nat) : Int) q m k) :: (T2 ++ (T1 ++ T))) := K25.as kr
          show ∃ m, _ ∧ _
          exact ⟨_, (by omega), i + 1, A, j, q, m, k, T, rfl, hi, hA, (by omega), hrow, K26.sub (List.Sublist.trans (List.Sublist.cons_cons _ (List.Sublist.trans (List.Sublist.trans (List.Sublist.refl _) (List.sublist_append_right _ _)) (List.sublist_append_right _ _))) (List.Sublist.trans (List.sublist_cons_self ..) (List.sublist_cons_self ..))), (Is.of ⟨kr, kr, kr, kr, kr, kr, kr, trivial⟩)⟩
        | false =>
          rw [(LogAt.no hr).1] at hrow1
          rw [(LogAt.no hr).1]
          rw [hr] at hrec
          replace hrow1 : RowF sS 9 q1 m1 k1 T1 [] := hrow1
          refine rp [.v, .v, .v] K11 kr fun gs106 v8 K12 => ?_
          show WPs _ _ _ _ [6, 7, 8] _ _
          have K13 : St w.heap.size w v8 ((b10, Obj.cells #[.string x1, .bool false] 41 (0, 0)) :: (b7, lgO (strB (flat A)) (((flat (A.take j)).length : Nat) : Int) q m k) :: (T1 ++ T)) := K12.as kr
          refine s_alloc K13 (some 12) 26 (lgV em 0 none 0 0) kr kr kr ?_
          intro b12 v9 K14
          refine rp [.s 0, .v] K14 kr fun gs107 v10 K15 => ?_
          show WPs _ _ _ _ [] _ _
          refine s_nil ?_
          show WP _ _ _ _ _ _
          refine g_seq kr ?_
          refine rS [.v, .l 1] K15 kr fun gs108 v11 K16 => ?_
          refine g_cond_f kr kr ?_
          refine g_skip kr ?_
          show WP _ _ _ _ _ _
          refine g_seq kr ?_
          refine rS [.v, .v, .v, .c hrec, .v] K16 kr fun gs109 v12 K17 => ?_
          refine g_cond_f kr kr ?_
          refine g_skip kr ?_
          show WP _ _ _ _ _ _
          refine g_seq kr ?_
          refine rS [.v, .v] K17 kr fun gs110 v13 K18 => ?_
          refine g_cond_t kr kr ?_
          refine g_exit 1 kr ?_
          show WP _ _ _ _ _ _
          refine rL [.e (v := .int .i64 (IntKind.i64.wrap (((i : Nat) : Int) + 1))) (v' := iN (i + 1)) (int_eq (wrapAdd_i64 (a := i) (b := 1) (by omega))), .v] K18 kr fun gs111 v14 K19 => ?_
          have K20 : St w.heap.size w v14 ((b12, lgO em 0 q1 m1 k1) :: (b10, Obj.cells #[.string x1, .bool false] 41 (0, 0)) :: (b7, lgO (strB (flat A)) (((flat (A.take j)).length : Nat) : Int) q m k) :: (T1 ++ T)) := K19.as kr
          show ∃ m, _ ∧ _
          exact ⟨_, (by omega), i + 1, A, j, q, m, k, T, rfl, hi, hA, (by omega), hrow, K20.sub (List.Sublist.trans (List.Sublist.cons_cons _ (List.Sublist.trans (List.Sublist.refl _) (List.sublist_append_right _ _))) (List.Sublist.trans (List.sublist_cons_self ..) (List.sublist_cons_self ..))), (Is.of ⟨kr, kr, kr, kr, kr, kr, kr, trivial⟩)⟩
  · refine rS [.e (v := .bool (decide (((i : Nat) : Int) < ((n : Nat) : Int)))) (v' := .bool false) (bool_eq (decide_eq_false (by omega)))] H5 kr fun gs4 w5 H6 => ?_
    refine g_seq kr ?_
    refine g_cond_f kr kr ?_
    refine g_exit 0 kr ?_
    have H9 : St w.heap.size w w5 ((b7, lgO (strB (flat A)) (((flat (A.take j)).length : Nat) : Int) q m k) :: T) := H6.as kr
    exact ⟨rfl, b7, A, j, q, m, k, T, hA, hrow, H9, (Is.of ⟨kr, kr, kr, kr, trivial⟩)⟩
end Go.Proofs.Ythpiojejhellhaa

namespace Go.Proofs.Ythpiojejhellhaa
open Go Go.RowKit Go.Proofs.Crc
open D2 (Gh)
set_option linter.unusedVariables false
theorem sext_all (s : ByteArray) : s.extract 0 s.size = s := by
  apply tl_inj
  rw [tl_extract, List.drop_zero, show ByteArray.size s = (tl s).length from rfl, List.take_length]
set_option maxRecDepth 100000 in
set_option maxHeartbeats 8000000 in
theorem walWhole_v (p : Option Addr) (n c : Nat) (As : List (ByteArray × Bool)) (more : Int) (last : ByteArray) : FnP Try.prog 4 #[.slice p n c, .int .i64 more, .string last] (fun w => AtF aS w p n As) (.bool true) := by
  refine FnP.intro (c := codeOf Try.f4) [.tmp 6] 204 Try.func4 kr kr kr fun w hP => ?_
  have H0 := St.start w
  refine rS [.v] H0 kr fun gs1 w1 H1 => ?_
  refine rS [.c new_fn, .a, .s 0] H1 kr fun gs2 w2 H2 => ?_
  refine rS [.v] H2 kr fun gs3 w3 H3 => ?_
  refine g_seq kr ?_
  refine rS [.v, .v, .v] H3 kr fun gs4 w4 H4 => ?_
  refine acts_w p n c As more last w hP (gs2 1).b (H4.as kr) (Is.of ⟨kr, kr, kr, kr, kr, kr, kr, trivial⟩) fun ρ w5 hF => ?_
  clear H0 H1 H2 H3 H4
  obtain ⟨b7, A, j, q, m, k, T, hA, hrow, H5, _, rfl⟩ := hF
  show WP _ _ _ _ _ _
  have hm := hrow.len
  have hslok := hrow.slOk
  have hzF := hA.size
  have hkF := hA.kle
  have hj := hA.sure
  have h14 := hA.len
  obtain ⟨F, hF⟩ : ∃ F, strB (flat A) = F := ⟨_, rfl⟩
  obtain ⟨kk, hkk⟩ : ∃ kk, (flat (A.take j)).length = kk := ⟨_, rfl⟩
  rw [hF, hkk] at H5 hkF
  rw [hF] at hzF
  obtain ⟨L, hL⟩ : ∃ L, leftM F kk more = L := ⟨_, rfl⟩
  have hLF : L ≤ F.size := by rw [← hL]; exact leftM_le hkF
  have hkL : kk ≤ L := by rw [← hL]; exact leftM_ge
  obtain ⟨X, hX⟩ : ∃ X, F.extract 0 L = X := ⟨_, rfl⟩
  have hXz : X.size = L := by rw [← hX, ByteArray.size_extract]; omega
  have hFl : (flat A).length = F.size := by rw [← hF, strB_size]
  have hXt : tl X = (flat A).take L := by rw [← hX, tl_extract, List.drop_zero, ← hF, tl_strB]
  have hcr := crash_ok F kk more (by omega) hkF
  rw [hL, hX] at hcr
  obtain ⟨N, hN1, hN2, hN3, hsc⟩ := sc_left A L hA.isR (by omega)
  have hjN : j ≤ N := by
    rcases Nat.lt_or_ge N j with h | h
    · exfalso
      have h1 := hN3 (by omega)
      have h2 := flat_mono A (show N + 1 ≤ j from h)
      omega
    · exact h
  obtain ⟨P, hPd⟩ : ∃ P, A.take N = P := ⟨_, rfl⟩
  obtain ⟨z, hz⟩ : ∃ z, (flat P).length = z := ⟨_, rfl⟩
  have hPl : P.length = N := by rw [← hPd, List.length_take]; omega
  rw [hPd] at hN2 hsc
  rw [hz, ← hXt] at hsc
  rw [hz] at hN2
  have hLP : LogAt P N := ⟨fun x hx => hA.isR x (List.mem_of_mem_take (hPd ▸ hx)), fun x hx => hA.small x (List.mem_of_mem_take (hPd ▸ hx)), by omega, by omega⟩
  have hPN : P.take N = P := List.take_of_length_le (by omega)
  obtain ⟨Y, hY⟩ : ∃ Y, strB (flat P) = Y := ⟨_, rfl⟩
  have hYz : Y.size = z := by rw [← hY, strB_size, hz]
  have hxY : X.extract 0 z = Y := by rw [sc_ext hsc, hY]
  have hMX : rightM X ((L : Nat) : Int) = true := rightM_iff.2 ⟨by omega, by omega, by omega⟩
  have hRP : rightL Y ((z : Nat) : Int) P = true := by
    have h9 := hLP.right
    rwa [hPN, hY, hz] at h9
  have happ : ∀ U : ByteArray, recB U = true → U.size ≤ 200 → appendM Y ((z : Nat) : Int) P U = ⟨strB (flat (P ++ [U])), (((strB (flat (P ++ [U]))).size : Nat) : Int), P ++ [U], 0⟩ := fun U h1 h2 => by
    have h9 := hLP.append h1 h2
    rw [hPN, hY, hz] at h9
    rw [h9, strB_size, List.take_of_length_le (by rw [List.length_append, List.length_singleton]; exact Nat.le_refl _)]
  have hfr : ∀ k9, FnP Try.prog 22 #[.slice q N k9] (fun w => AtF sS w q N P) (.tuple #[.string Y, .bool true]) := fun k9 => by
    have h9 := framesR_fn q N k9 P (by omega)
    rwa [show P.all recB = true from all_R.2 hLP.isR, if_pos rfl, hY] at h9
  have hfr2 : ∀ k9, FnP Try.prog 22 #[.slice q (N + 1) k9] (fun w => AtF sS w q (N + 1) (A.take (N + 1))) (.tuple #[.string (strB (flat (A.take (N + 1)))), .bool true]) := fun k9 => by
    have h9 := framesR_fn q (N + 1) k9 (A.take (N + 1)) (by omega)
    rwa [show (A.take (N + 1)).all recB = true from all_R.2 fun x hx => hA.isR x (List.mem_of_mem_take hx), if_pos rfl] at h9
  replace hfr := hfr k
  replace hfr2 := hfr2 k
  have hatP : ∀ {w9 : World} {l9 : List (Nat × Obj)}, St w.heap.size w w9 l9 → (∀ e ∈ T, e ∈ l9) → AtF sS w9 q N P := fun h hl => by rw [← hPd]; exact (hrow.atF h hl).take N (by omega)
  have hatP2 : N < A.length → ∀ {w9 : World} {l9 : List (Nat × Obj)}, St w.heap.size w w9 l9 → (∀ e ∈ T, e ∈ l9) → AtF sS w9 q (N + 1) (A.take (N + 1)) := fun h0 _ _ h hl => (hrow.atF h hl).take (N + 1) (by omega)
  have hsame0 : ∀ q2 k2, FnP Try.prog 21 #[.slice q2 N k2, .slice q N k] (fun w => AtF sS w q2 N P ∧ AtF sS w q N P) (.bool true) := fun q2 k2 => by
    have h9 := same_fn q2 q N k2 N k P P (by omega)
    rwa [decide_eq_true rfl] at h9
  have hright0 : ∀ q2 k2, FnP Try.prog 13 #[lgV Y ((z : Nat) : Int) q2 N k2] (fun w => AtF sS w q2 N P) (.bool true) := fun q2 k2 => by
    have h9 := rightLR_fn Y ((z : Nat) : Int) q2 N k2 P (by omega)
    rwa [hRP] at h9
  obtain ⟨U, hU⟩ : ∃ U, last.extract 0 (min last.size 200) = U := ⟨_, rfl⟩
  have zU : U.size ≤ 200 := by rw [← hU, ByteArray.size_extract]; omega
  refine rS [.v, .l 0, .v] H5 kr fun gs101 v1 K1 => ?_
  refine g_sreg [0, 1, 2, 3, 4, 5, 6, 7, 8, 9] kr kr ?_
  refine rp [.v, .l 0, .v, .c hcr, .v, .v, .v] K1 kr fun gs102 v2 K2 => ?_
  show WPs _ _ _ _ [7, 8, 9] _ _
  have K3 : St w.heap.size w v2 ((b7, lgO F ((kk : Nat) : Int) q m k) :: T) := K2.as kr
  refine s_alloc K3 (some 15) 23 (dvV em 0) kr kr kr ?_
  intro b15 v3 K4
  refine rp [.s 0, .v] K4 kr fun gs103 v4 K5 => ?_
  show WPs _ _ _ _ [] _ _
  refine s_nil ?_
  show WP _ _ _ _ _ _
  refine g_sreg [0, 1, 2, 3, 4, 5, 6, 7] kr kr ?_
  refine rp [.l 0] K5 kr fun gs104 v5 K6 => ?_
  show WPs _ _ _ _ [1, 2, 3, 4, 5, 6, 7] _ _
  have K7 : St w.heap.size w v5 ((b15, dvO X ((L : Nat) : Int)) :: (b7, lgO F ((kk : Nat) : Int) q m k) :: T) := K6.as kr
  refine s_callFT K7 (some 84) 11 #[dvV X ((L : Nat) : Int)] (open_fn X ((L : Nat) : Int)) trivial kr kr ?_
  rintro v T2 v6 hop K8
  have K9 : St w.heap.size w v6 ((b15, dvO X ((L : Nat) : Int)) :: (b7, lgO F ((kk : Nat) : Int) q m k) :: (T2 ++ T)) := K8.perm (List.perm_append_comm_assoc [(b15, dvO X ((L : Nat) : Int)), (b7, lgO F ((kk : Nat) : Int) q m k)] T2 T)
  unfold okOpen at hop
  rw [hMX] at hop
  obtain ⟨rs, z', hsc', q2, m2, k2, hrow2, rfl⟩ := hop
  obtain ⟨rfl, rfl⟩ := hsc.uniq hsc'
  replace hrow2 : RowF sS 9 q2 m2 k2 T2 P := hrow2
  obtain rfl : N = m2 := by have h9 := hrow2.len; omega
  rw [hxY]
  refine rp [.v, .v, .v] K9 kr fun gs105 v7 K10 => ?_
  show WPs _ _ _ _ [5, 6, 7] _ _
  have K11 : St w.heap.size w v7 ((b15, dvO X ((L : Nat) : Int)) :: (b7, lgO F ((kk : Nat) : Int) q m k) :: (T2 ++ T)) := K10.as kr
  refine s_alloc K11 (some 17) 26 (lgV em 0 none 0 0) kr kr kr ?_
  intro b17 v8 K12
  refine rp [.s 0, .v] K12 kr fun gs106 v9 K13 => ?_
  show WPs _ _ _ _ [] _ _
  refine s_nil ?_
  show WP _ _ _ _ _ _
  refine rS [.v, .l 0, .v, .v] K13 kr fun gs107 v10 K14 => ?_
  refine g_seq kr ?_
  refine g_seq kr ?_
  have K15 : St w.heap.size w v10 ((b17, lgO Y ((z : Nat) : Int) q2 N k2) :: (b15, dvO X ((L : Nat) : Int)) :: (b7, lgO F ((kk : Nat) : Int) q m k) :: (T2 ++ T)) := K14.as kr
  refine D2.g_draw0 [0, 1, 2, 3, 4, 5, 6, 7, 8, 9, 10, 11, 12, 13, 14, 15, 16, 17, 18, 19, 20, 21, 22, 23, 24, 25, 26, 27, 28, 29, 30, 31, 32, 33, 34] [(some 90, fun _ => .int .i64 0), (some 91, fun _ => .bool false), (some 92, fun _ => .bool false), (some 93, fun _ => .int .i64 0), (some 94, fun _ => .bool false), (some 95, fun _ => .bool false), (some 96, fun _ => .bool false), (some 97, fun _ => iN N), (some 98, fun _ => iN j), (some 99, fun _ => .bool false), (some 100, fun _ => .bool false), (some 101, fun _ => .bool false), (some 102, fun _ => iN N), (some 103, fun _ => .slice q m k), (some 104, fun _ => iN m), (some 105, fun _ => .bool false), (some 106, fun _ => .bool false), (some 107, fun _ => .bool false), (some 108, fun _ => .pointer (some ⟨b17, 2, none⟩)), (some 109, fun _ => .slice q2 N k2), (some 110, fun _ => .slice q m k), (some 111, fun _ => iN N), (some 112, fun _ => .slice q N k), (some 113, fun _ => .bool true), (some 114, fun _ => .bool false), (some 115, fun _ => .bool false), (some 116, fun _ => .bool false), (some 117, fun _ => lgV Y ((z : Nat) : Int) q2 N k2), (some 118, fun _ => .bool true), (some 119, fun _ => .bool false), (some 120, fun _ => .bool false), (some 121, fun _ => .bool false), (some 122, fun _ => .bool true), (some 123, fun _ => .bool false), (some 124, fun _ => .bool false)]
      (fun _ _ ww => St w.heap.size w ww ((b17, lgO Y ((z : Nat) : Int) q2 N k2) :: (b15, dvO X ((L : Nat) : Int)) :: (b7, lgO F ((kk : Nat) : Int) q m k) :: (T2 ++ T))) kr kr kr K15.drew ⟨?_, ?_, ?_, ?_, ?_, ?_, ?_, ?_, ?_, ?_, ?_, ?_, ?_, ?_, ?_, ?_, ?_, ?_, ?_, ?_, ?_, ?_, ?_, ?_, ?_, ?_, ?_, ?_, ?_, ?_, ?_, ?_, ?_, ?_, ?_, trivial⟩ ?_
  · exact D2.gv_val (fun _ _ _ h => h) (fun g w => by kernel_rfl)
  · exact D2.gv_val (fun _ _ _ h => h) (fun g w => by kernel_rfl)
  · exact D2.gv_val (fun _ _ _ h => h) (fun g w => by kernel_rfl)
  · exact D2.gv_val (fun _ _ _ h => h) (fun g w => by kernel_rfl)
  · exact D2.gv_val (fun _ _ _ h => h) (fun g w => by kernel_rfl)
  · exact D2.gv_val (fun _ _ _ h => h) (fun g w => by kernel_rfl)
  · exact D2.gv_val (fun _ _ _ h => h) (fun g w => by kernel_rfl)
  · exact D2.gv_val (fun _ _ _ h => h) (fun g w => by kernel_rfl)
  · exact D2.gv_val (fun _ _ _ h => h) (fun g w => by kernel_rfl)
  · exact D2.gv_valE (V' := (.bool (decide (((N : Nat) : Int) < ((j : Nat) : Int))))) (fun _ _ _ h => h) (fun g w => by kernel_rfl) (bool_eq (decide_eq_false (by omega)))
  · exact D2.gv_val (fun _ _ _ h => h) (fun g w => by kernel_rfl)
  · exact D2.gv_val (fun _ _ _ h => h) (fun g w => by kernel_rfl)
  · exact D2.gv_val (fun _ _ _ h => h) (fun g w => by kernel_rfl)
  · exact D2.gv_val (fun _ _ _ h => h) (fun g w => by kernel_rfl)
  · exact D2.gv_val (fun _ _ _ h => h) (fun g w => by kernel_rfl)
  · exact D2.gv_valE (V' := (.bool (decide (((N : Nat) : Int) > ((m : Nat) : Int))))) (fun _ _ _ h => h) (fun g w => by kernel_rfl) (bool_eq (decide_eq_false (by omega)))
  · exact D2.gv_val (fun _ _ _ h => h) (fun g w => by kernel_rfl)
  · exact D2.gv_val (fun _ _ _ h => h) (fun g w => by kernel_rfl)
  · exact D2.gv_val (fun _ _ _ h => h) (fun g w => by kernel_rfl)
  · exact D2.gv_ld (fun _ _ _ h => h) 24 (.tmp 108) (fun _ => b17) 2 #[.string Y, .int .i64 ((z : Nat) : Int), .slice q2 N k2] 26 (0, 0) (fun g => by kernel_rfl) (fun g => by kernel_rfl) (fun L g w hN hp => (hp.own (b17, lgO Y ((z : Nat) : Int) q2 N k2) (by simp)).2) kr kr
  · exact D2.gv_val (fun _ _ _ h => h) (fun g w => by kernel_rfl)
  · exact D2.gv_val (fun _ _ _ h => h) (fun g w => by kernel_rfl)
  · exact D2.gv_op (fun _ _ _ h => h) _ (fun g => by kernel_rfl) (fun g o w ho => cutK_run (t := 24) (e := 9) (size := 1) (bytes := 16) (kd := .i64) kr (x := (.tmp 110)) (y := (.tmp 111)) hslok (by omega) ho kr kr w)
  · exact D2.gv_cpW (fun _ _ _ h => h) 21 #[.slice q2 N k2, .slice q N k] (hsame0 q2 k2) (fun L g w hN hp => ⟨hrow2.atF hp (fun e he => by simp [he]), hatP hp (fun e he => by simp [he])⟩) (fun L g w w' hN hp hb => hp.call hb) (fun g w => by kernel_rfl)
  · exact D2.gv_val (fun _ _ _ h => h) (fun g w => by kernel_rfl)
  · exact D2.gv_val (fun _ _ _ h => h) (fun g w => by kernel_rfl)
  · exact D2.gv_val (fun _ _ _ h => h) (fun g w => by kernel_rfl)
  · exact D2.gv_ld (fun _ _ _ h => h) 26 (.tmp 17) (fun _ => b17) 0 #[.string Y, .int .i64 ((z : Nat) : Int), .slice q2 N k2] 26 (0, 0) (fun g => by kernel_rfl) (fun g => by kernel_rfl) (fun L g w hN hp => (hp.own (b17, lgO Y ((z : Nat) : Int) q2 N k2) (by simp)).2) kr kr
  · exact D2.gv_cpW (fun _ _ _ h => h) 13 #[lgV Y ((z : Nat) : Int) q2 N k2] (hright0 q2 k2) (fun L g w hN hp => hrow2.atF hp (fun e he => by simp [he])) (fun L g w w' hN hp hb => hp.call hb) (fun g w => by kernel_rfl)
  · exact D2.gv_val (fun _ _ _ h => h) (fun g w => by kernel_rfl)
  · exact D2.gv_val (fun _ _ _ h => h) (fun g w => by kernel_rfl)
  · exact D2.gv_val (fun _ _ _ h => h) (fun g w => by kernel_rfl)
  · exact D2.gv_cW (fun _ _ _ h => h) 16 #[] (aliveW_fn) (fun L g w w' hN hp hb => hp.call hb) (fun g w => by kernel_rfl)
  · exact D2.gv_val (fun _ _ _ h => h) (fun g w => by kernel_rfl)
  · exact D2.gv_val (fun _ _ _ h => h) (fun g w => by kernel_rfl)
  intro L9 g9 v11 _ K16
  show WP _ _ _ _ _ _
  refine g_cond_f kr kr ?_
  refine g_skip kr ?_
  show WP _ _ _ _ _ _
  refine g_sreg [0, 1, 2, 3, 4, 5, 6, 7, 8] kr kr ?_
  refine rp [.v, .v, .o (ins := [((.tmp 126), .slice q m k), ((.tmp 127), iN N)]) (v := .slice q N k) (fun ρ o w ho hi => cutK_run (t := 24) (e := 9) (size := 1) (bytes := 16) (kd := .i64) kr (x := (.tmp 126)) (y := (.tmp 127)) hslok (by omega) ho hi.1 hi.2.1 w)] K16 kr fun gs108 v12 K17 => ?_
  show WPs _ _ _ _ [3, 4, 5, 6, 7, 8] _ _
  have K18 : St w.heap.size w v12 ((b17, lgO Y ((z : Nat) : Int) q2 N k2) :: (b15, dvO X ((L : Nat) : Int)) :: (b7, lgO F ((kk : Nat) : Int) q m k) :: (T2 ++ T)) := K17.as kr
  refine s_callP K18 (some 129) 22 #[.slice q N k] _ _ (hfr) (hatP K18 (fun e he => by simp [he])) (fun w => by kernel_rfl) kr ?_
  intro v13 K19
  refine rp [.v, .v, .v, .v, .v] K19 kr fun gs109 v14 K20 => ?_
  show WPs _ _ _ _ [] _ _
  refine s_nil ?_
  show WP _ _ _ _ _ _
  have K21 : St w.heap.size w v14 ((b17, lgO Y ((z : Nat) : Int) q2 N k2) :: (b15, dvO X ((L : Nat) : Int)) :: (b7, lgO F ((kk : Nat) : Int) q m k) :: (T2 ++ T)) := K20.as kr
  refine g_seq kr ?_
  refine g_mono (Q := fun e ρ ww => e = .normal ∧ St w.heap.size w ww ((b17, lgO Y ((z : Nat) : Int) q2 N k2) :: (b15, dvO X ((L : Nat) : Int)) :: (b7, lgO F ((kk : Nat) : Int) q m k) :: (T2 ++ T)) ∧ Is [(2, .string last), (17, .pointer (some ⟨b17, 0, none⟩)), (19, iN N), (20, .string Y)] ρ) ?_ ?_
  · by_cases hlt0 : N < m
    · have hlt : N < A.length := by omega
      refine rS [.v, .v, .v, .e (v := .bool (decide (((N : Nat) : Int) < ((m : Nat) : Int)))) (v' := .bool true) (bool_eq (decide_eq_true (by omega)))] K21 kr fun gs110 v15 K22 => ?_
      refine g_cond_t kr kr ?_
      refine g_sreg [0, 1, 2, 3, 4, 5, 6, 7, 8, 9] kr kr ?_
      refine rp [.v, .v, .e (v := .int .i64 (IntKind.i64.wrap (((N : Nat) : Int) + 1))) (v' := iN (N + 1)) (int_eq (wrapAdd_i64 (a := N) (b := 1) (by omega))), .o (ins := [((.tmp 137), .slice q m k), ((.tmp 139), iN (N + 1))]) (v := .slice q (N + 1) k) (fun ρ o w ho hi => cutK_run (t := 24) (e := 9) (size := 1) (bytes := 16) (kd := .i64) kr (x := (.tmp 137)) (y := (.tmp 139)) hslok (by omega) ho hi.1 hi.2.1 w)] K22 kr fun gs111 v16 K23 => ?_
      show WPs _ _ _ _ [4, 5, 6, 7, 8, 9] _ _
      have K24 : St w.heap.size w v16 ((b17, lgO Y ((z : Nat) : Int) q2 N k2) :: (b15, dvO X ((L : Nat) : Int)) :: (b7, lgO F ((kk : Nat) : Int) q m k) :: (T2 ++ T)) := K23.as kr
      refine s_callP K24 (some 141) 22 #[.slice q (N + 1) k] _ _ (hfr2) (hatP2 hlt K24 (fun e he => by simp [he])) (fun w => by kernel_rfl) kr ?_
      intro v17 K25
      refine rp [.v, .v, .v, .v, .v] K25 kr fun gs112 v18 K26 => ?_
      show WPs _ _ _ _ [] _ _
      refine s_nil ?_
      show WP _ _ _ _ _ _
      refine rS [.v, .v, .v, .l 1, .v, .e (v := .bool (decide ((((strB (flat (A.take (N + 1)))).size : Nat) : Int) ≤ ((X.size : Nat) : Int)))) (v' := .bool false) (bool_eq (decide_eq_false (by rw [strB_size, hXz]; have h9 := hN3 hlt; omega)))] K26 kr fun gs113 v19 K27 => ?_
      refine g_cond_f kr kr ?_
      refine g_skip kr ?_
      have K28 : St w.heap.size w v19 ((b17, lgO Y ((z : Nat) : Int) q2 N k2) :: (b15, dvO X ((L : Nat) : Int)) :: (b7, lgO F ((kk : Nat) : Int) q m k) :: (T2 ++ T)) := K27.as kr
      exact ⟨rfl, K28, (Is.of ⟨kr, kr, kr, kr, trivial⟩)⟩
    · skip
      refine rS [.v, .v, .v, .e (v := .bool (decide (((N : Nat) : Int) < ((m : Nat) : Int)))) (v' := .bool false) (bool_eq (decide_eq_false (by omega)))] K21 kr fun gs110 v15 K22 => ?_
      refine g_cond_f kr kr ?_
      refine g_skip kr ?_
      have K23 : St w.heap.size w v15 ((b17, lgO Y ((z : Nat) : Int) q2 N k2) :: (b15, dvO X ((L : Nat) : Int)) :: (b7, lgO F ((kk : Nat) : Int) q m k) :: (T2 ++ T)) := K22.as kr
      exact ⟨rfl, K23, (Is.of ⟨kr, kr, kr, kr, trivial⟩)⟩
  · rintro _ _ wT ⟨rfl, HT, _, rfl⟩
    show WP _ _ _ _ _ _
    refine rS [.v, .v, .v, .e (v := .int .i64 (if (200 : Int) < ((last.size : Nat) : Int) then (200 : Int) else ((last.size : Nat) : Int))) (v' := iN (min last.size 200)) (int_eq (by split <;> omega)), .oe (ins := [((.tmp 150), .string last), ((.tmp 153), iN (min last.size 200))]) (v := .string (last.extract 0 (min last.size 200))) (v' := .string U) (fun ρ o w ho hi => scut_run (t := 9) (kd := .i64) kr (x := (.tmp 150)) (y := (.tmp 153)) last (min last.size 200) ho hi.1 hi.2.1 (Nat.min_le_left _ _) w) (congrArg Value.string hU), .v] HT kr fun gs110 v15 K22 => ?_
    refine g_sreg [0, 1, 2, 3, 4, 5, 6, 7, 8] kr kr ?_
    refine rp [.l 0, .v] K22 kr fun gs111 v16 K23 => ?_
    show WPs _ _ _ _ [2, 3, 4, 5, 6, 7, 8] _ _
    have K24 : St w.heap.size w v16 ((b17, lgO Y ((z : Nat) : Int) q2 N k2) :: (b15, dvO X ((L : Nat) : Int)) :: (b7, lgO F ((kk : Nat) : Int) q m k) :: (T2 ++ T)) := K23.as kr
    refine s_callFT K24 (some 158) 9 #[lgV Y ((z : Nat) : Int) q2 N k2, .string U] (append_fn Y ((z : Nat) : Int) q2 N k2 P U) (hrow2.atF K24 (fun e he => by simp [he])) kr kr ?_
    rintro _ T3 v17 ⟨q3, m3, k3, hrow3, rfl⟩ K25
    have K26 : St w.heap.size w v17 ((b17, lgO Y ((z : Nat) : Int) q2 N k2) :: (b15, dvO X ((L : Nat) : Int)) :: (b7, lgO F ((kk : Nat) : Int) q m k) :: (T3 ++ (T2 ++ T))) := K25.perm (List.perm_append_comm_assoc [(b17, lgO Y ((z : Nat) : Int) q2 N k2), (b15, dvO X ((L : Nat) : Int)), (b7, lgO F ((kk : Nat) : Int) q m k)] T3 (T2 ++ T))
    have hrec := isRec_fn U
    cases hr : recB U with
    | true =>
        rw [hr] at hrec
        have hap := happ U hr zU
        obtain ⟨V, hV⟩ : ∃ V, strB (flat (P ++ [U])) = V := ⟨_, rfl⟩
        have hVz : V.size ≤ 4000 := by rw [← hV, flat_snoc1, hY, add_size, frB_size, tl_len]; omega
        rw [hV] at hap
        rw [hap] at hrow3
        rw [hap]
        replace hrow3 : RowF sS 9 q3 m3 k3 T3 (P ++ [U]) := hrow3
        refine rp [.v, .v, .v] K26 kr fun gs112 v18 K27 => ?_
        show WPs _ _ _ _ [6, 7, 8] _ _
        have K28 : St w.heap.size w v18 ((b17, lgO Y ((z : Nat) : Int) q2 N k2) :: (b15, dvO X ((L : Nat) : Int)) :: (b7, lgO F ((kk : Nat) : Int) q m k) :: (T3 ++ (T2 ++ T))) := K27.as kr
        refine s_alloc K28 (some 24) 26 (lgV em 0 none 0 0) kr kr kr ?_
        intro b24 v19 K29
        refine rp [.s 0, .v] K29 kr fun gs113 v20 K30 => ?_
        show WPs _ _ _ _ [] _ _
        refine s_nil ?_
        show WP _ _ _ _ _ _
        have K31 : St w.heap.size w v20 ((b24, lgO V ((V.size : Nat) : Int) q3 m3 k3) :: (b17, lgO Y ((z : Nat) : Int) q2 N k2) :: (b15, dvO X ((L : Nat) : Int)) :: (b7, lgO F ((kk : Nat) : Int) q m k) :: (T3 ++ (T2 ++ T))) := K30.as kr
        refine g_seq kr ?_
        refine rS [.v, .c hrec, .v] K31 kr fun gs114 v21 K32 => ?_
        refine g_cond_f kr kr ?_
        refine g_skip kr ?_
        show WP _ _ _ _ _ _
        have hM3 : rightM V ((V.size : Nat) : Int) = true := rightM_iff.2 ⟨by omega, by omega, by omega⟩
        have hR3 : ∀ x ∈ P ++ [U], IsR (tl x) := (rightL_iff.1 (right_next hr hRP (by omega))).1
        have hVl : (flat (P ++ [U])).length = V.size := by rw [← hV, strB_size]
        have hsc3 : Sc (tl V) (P ++ [U]) V.size := by
          have h9 := sc_flat0 hR3
          rwa [hVl, show flat (P ++ [U]) = tl V by rw [← hV, tl_strB]] at h9
        refine g_sreg [0, 1, 2, 3, 4, 5, 6, 7, 8] kr kr ?_
        refine rp [.v, .l 0] K32 kr fun gs115 v22 K33 => ?_
        show WPs _ _ _ _ [2, 3, 4, 5, 6, 7, 8] _ _
        have K34 : St w.heap.size w v22 ((b24, lgO V ((V.size : Nat) : Int) q3 m3 k3) :: (b17, lgO Y ((z : Nat) : Int) q2 N k2) :: (b15, dvO X ((L : Nat) : Int)) :: (b7, lgO F ((kk : Nat) : Int) q m k) :: (T3 ++ (T2 ++ T))) := K33.as kr
        refine s_callFT K34 (some 169) 11 #[dvV V ((V.size : Nat) : Int)] (open_fn V ((V.size : Nat) : Int)) trivial kr kr ?_
        rintro v T4 v23 hop3 K35
        have K36 : St w.heap.size w v23 ((b24, lgO V ((V.size : Nat) : Int) q3 m3 k3) :: (b17, lgO Y ((z : Nat) : Int) q2 N k2) :: (b15, dvO X ((L : Nat) : Int)) :: (b7, lgO F ((kk : Nat) : Int) q m k) :: (T4 ++ (T3 ++ (T2 ++ T)))) := K35.perm (List.perm_append_comm_assoc [(b24, lgO V ((V.size : Nat) : Int) q3 m3 k3), (b17, lgO Y ((z : Nat) : Int) q2 N k2), (b15, dvO X ((L : Nat) : Int)), (b7, lgO F ((kk : Nat) : Int) q m k)] T4 (T3 ++ (T2 ++ T)))
        unfold okOpen at hop3
        rw [hM3] at hop3
        obtain ⟨rs, z4, hsc4, q4, m4, k4, hrow4, rfl⟩ := hop3
        obtain ⟨rfl, rfl⟩ := hsc3.uniq hsc4
        replace hrow4 : RowF sS 9 q4 m4 k4 T4 (P ++ [U]) := hrow4
        have hm4 := hrow4.len
        rw [List.length_append, List.length_singleton] at hm4
        rcases hrow4 with ⟨_, _, _, _, h0⟩ | ⟨bq, cur4, rfl, rfl, hrw4⟩
        · simp at h0
        have hc4 : cur4[0 + N * 1]? = some (.string U) := hrw4.rowAt.cell (i := N) (by rw [List.getElem?_append_right (by omega), hPl, Nat.sub_self]; rfl) 0 (by decide)
        rw [sext_all V]
        refine rp [.v, .v, .v] K36 kr fun gs116 v24 K37 => ?_
        show WPs _ _ _ _ [6, 7, 8] _ _
        have K38 : St w.heap.size w v24 ((b24, lgO V ((V.size : Nat) : Int) q3 m3 k3) :: (b17, lgO Y ((z : Nat) : Int) q2 N k2) :: (b15, dvO X ((L : Nat) : Int)) :: (b7, lgO F ((kk : Nat) : Int) q m k) :: ([(bq, .cells cur4 9 (0, 0))] ++ (T3 ++ (T2 ++ T)))) := K37.as kr
        refine s_alloc K38 (some 26) 26 (lgV em 0 none 0 0) kr kr kr ?_
        intro b26 v25 K39
        refine rp [.s 0, .v] K39 kr fun gs117 v26 K40 => ?_
        show WPs _ _ _ _ [] _ _
        refine s_nil ?_
        show WP _ _ _ _ _ _
        have K41 : St w.heap.size w v26 ((b26, lgO V ((V.size : Nat) : Int) (some ⟨bq, 0, none⟩) m4 k4) :: (b24, lgO V ((V.size : Nat) : Int) q3 m3 k3) :: (b17, lgO Y ((z : Nat) : Int) q2 N k2) :: (b15, dvO X ((L : Nat) : Int)) :: (b7, lgO F ((kk : Nat) : Int) q m k) :: ([(bq, .cells cur4 9 (0, 0))] ++ (T3 ++ (T2 ++ T)))) := K40.as kr
        refine rS [.v, .v, .v, .v, .v, .v, .v, .v, .v, .v, .v, .l 2, .v, .e (v := .bool (((Y.size : Nat) : Int) == ((Y.size : Nat) : Int))) (v' := .bool true) (bool_eq (beq_self_eq_true _)), .v, .v, .v, .l 0, .v, .v, .e (v := .int .i64 (IntKind.i64.wrap (((N : Nat) : Int) + 1))) (v' := iN (N + 1)) (int_eq (wrapAdd_i64 (a := N) (b := 1) (by omega))), .e (v := .bool (((m4 : Nat) : Int) == ((N + 1 : Nat) : Int))) (v' := .bool true) (bool_eq (beq_iff_eq.2 (by omega))), .v, .v, .v, .l 0, .v, .o (ins := [((.tmp 197), .slice (some ⟨bq, 0, none⟩) m4 k4), ((.tmp 198), iN N)]) (v := .pointer (some ⟨bq, 0 + N * 1, none⟩)) (fun ρ o w ho hi2 => idxQ_run (kd := .i64) (t := 24) (e := 9) (K := 1) (bytes := 16) kr (x := (.tmp 197)) (y := (.tmp 198)) bq 0 m4 k4 N rfl ho hi2.1 hi2.2.1 (by omega) w), .ls 5 (C := cur4) (off := 0 + N * 1) (v := .string U) hc4, .v, .e (v := .bool (U.toList == U.toList)) (v' := .bool true) (bool_eq (str_self U)), .v, .v] K41 kr fun gs118 v27 K42 => ?_
        exact rRe [.tmp 6] [] (v := .bool true) (v' := .bool true) K42 rfl kr
    | false =>
        rw [hr] at hrec
        have hap : appendM Y ((z : Nat) : Int) P U = errL 1 := (LogAt.no hr).2
        rw [hap] at hrow3
        rw [hap]
        refine rp [.v, .v, .v] K26 kr fun gs112 v18 K27 => ?_
        show WPs _ _ _ _ [6, 7, 8] _ _
        have K28 : St w.heap.size w v18 ((b17, lgO Y ((z : Nat) : Int) q2 N k2) :: (b15, dvO X ((L : Nat) : Int)) :: (b7, lgO F ((kk : Nat) : Int) q m k) :: (T3 ++ (T2 ++ T))) := K27.as kr
        refine s_alloc K28 (some 24) 26 (lgV em 0 none 0 0) kr kr kr ?_
        intro b24 v19 K29
        refine rp [.s 0, .v] K29 kr fun gs113 v20 K30 => ?_
        show WPs _ _ _ _ [] _ _
        refine s_nil ?_
        show WP _ _ _ _ _ _
        have K31 : St w.heap.size w v20 ((b24, lgO em 0 q3 m3 k3) :: (b17, lgO Y ((z : Nat) : Int) q2 N k2) :: (b15, dvO X ((L : Nat) : Int)) :: (b7, lgO F ((kk : Nat) : Int) q m k) :: (T3 ++ (T2 ++ T))) := K30.as kr
        refine g_seq kr ?_
        refine rS [.v, .c hrec, .v] K31 kr fun gs114 v21 K32 => ?_
        refine g_cond_t kr kr ?_
        refine rS [.v, .v, .v] K32 kr fun gs115 v22 K33 => ?_
        exact rRe [.tmp 6] [] (v := .bool true) (v' := .bool true) K33 rfl kr
end Go.Proofs.Ythpiojejhellhaa
