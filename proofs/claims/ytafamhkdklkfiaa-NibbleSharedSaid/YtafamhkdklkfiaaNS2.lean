/-
  Texts of the proof, part 2.
-/
import Derived.Test.YtafamhkdklkfiaaProg
import Derived.Test.YtafamhkdklkfiaaNS1

namespace Go.Proofs.Ytafamhkdklkfiaa
open Go Go.RowKit
set_option linter.unusedVariables false
set_option maxRecDepth 100000 in
set_option maxHeartbeats 2000000 in
theorem may_fn (s : ByteArray) (hs : ByteArray.size s ≤ 1000000000000) : Fn Try.prog 20 #[.string s] (.bool (isP (tl s))) := by
  refine Fn.intro (c := codeOf Try.f20) [.tmp 2] 14 Try.func20 kr kr kr fun w => ?_
  have H0 := St.start w
  refine rS [.v] H0 kr fun gs1 w1 H1 => ?_
  clear H0
  refine g_seq kr ?_
  refine rS [.v, .v, .v] H1 kr fun gs2 w2 H2 => ?_
  clear H1
  refine g_block 0 kr ?_
  have HL1 : St w.heap.size w w2 [] := H2.as kr
  clear H2
  refine g_loop kr (fun mz ρ ww => ∃ (i : Nat), ByteArray.size s - i = mz ∧ (i ≤ ByteArray.size s) ∧ (isP (List.take i (tl s)) = true) ∧ St w.heap.size w ww [] ∧ Is [(0, .string s), (5, .int .i64 ((ByteArray.size s : Nat) : Int)), (6, .int .i64 ((i : Nat) : Int))] ρ) (ByteArray.size s - 0) ⟨0, rfl, (by omega), rfl, HL1, (Is.of ⟨kr, kr, kr, trivial⟩)⟩ ?_
  clear HL1
  rintro _ _ w3 ⟨i, rfl, hi, hp, H3, _, rfl⟩
  by_cases hc2 : (i : Nat) < ByteArray.size s
  · skip
    refine rS [.e (v := .bool (decide (((i : Nat) : Int) < ((ByteArray.size s : Nat) : Int)))) (v' := .bool true) (bool_eq (decide_eq_true (by omega)))] H3 kr fun gs4 w4 H4 => ?_
    clear H3
    refine g_seq kr ?_
    refine g_cond_t kr kr ?_
    refine g_skip kr ?_
    show WP _ _ _ _ _ _
    refine g_seq kr ?_
    refine g_block 1 kr ?_
    refine rS [.v, .v] H4 kr fun gs5 w5 H5 => ?_
    clear H4
    refine g_sreg [0, 1, 2, 3] kr kr ?_
    refine rp [.v, .v, .o (ins := [((.tmp 9), .string s), ((.tmp 10), .int .i64 ((i : Nat) : Int))]) (v := .int .u8 ((by_ s i : Nat) : Int)) (fun ρ o w ho hi => sindex_run (t := 9) (kd := .i64) kr (x := (.tmp 9)) (y := (.tmp 10)) s i ho hi.1 hi.2.1 (by omega) w)] H5 kr fun gs6 w6 H6 => ?_
    show WPs _ _ _ _ [3] _ _
    clear H5
    by_cases hc3 : (by_ s i : Nat) > 15
    · skip
      refine rp [.e (v := .bool (decide (15 < ((by_ s i : Nat) : Int)))) (v' := .bool true) (bool_eq (decide_eq_true (by omega)))] H6 kr fun gs7 w7 H7 => ?_
      show WPs _ _ _ _ [] _ _
      clear H6
      refine s_nil ?_
      refine g_cond_t kr kr ?_
      refine rS [.v] H7 kr fun gs8 w8 H8 => ?_
      clear H7
      refine g_ret kr ?_
      show ∃ vs, Res _ _ _ _ vs ∧ _
      refine ⟨[.bool false], (.tmp (.bool false) kr .nil), ?_, H8.below⟩
      exact bool_eq (isP_not (l := tl s) (i := i) (by rw [tl_len]; omega) (show ¬ by_ s i ≤ 15 by omega)).symm
    · skip
      refine rp [.e (v := .bool (decide (15 < ((by_ s i : Nat) : Int)))) (v' := .bool false) (bool_eq (decide_eq_false (by omega)))] H6 kr fun gs9 w9 H9 => ?_
      show WPs _ _ _ _ [] _ _
      clear H6
      refine s_nil ?_
      refine g_cond_f kr kr ?_
      refine g_skip kr ?_
      show WP _ _ _ _ _ _
      refine rL [.e (v := .int .i64 (IntKind.i64.wrap (((i : Nat) : Int) + 1))) (v' := .int .i64 ((i + 1 : Nat) : Int)) (int_eq (wrapAdd_i64 (a := i) (b := 1) (by omega))), .v] H9 kr fun gs10 w10 H10 => ?_
      clear H9
      have HL4 : St w.heap.size w w10 [] := H10.as kr
      clear H10
      show ∃ m, _ ∧ _
      exact ⟨_, (by omega), (i + 1), rfl, (by omega), (by rw [isP_step (by rw [tl_len]; omega), hp]; exact decide_eq_true (show by_ s i ≤ 15 by omega)), HL4, (Is.of ⟨kr, kr, kr, trivial⟩)⟩
  · skip
    refine rS [.e (v := .bool (decide (((i : Nat) : Int) < ((ByteArray.size s : Nat) : Int)))) (v' := .bool false) (bool_eq (decide_eq_false (by omega)))] H3 kr fun gs11 w11 H11 => ?_
    clear H3
    refine g_seq kr ?_
    refine g_cond_f kr kr ?_
    refine g_exit 0 kr ?_
    show WP _ _ _ _ _ _
    refine rS [.v] H11 kr fun gs12 w12 H12 => ?_
    clear H11
    refine g_ret kr ?_
    show ∃ vs, Res _ _ _ _ vs ∧ _
    refine ⟨[.bool true], (.tmp (.bool true) kr .nil), ?_, H12.below⟩
    obtain rfl : i = ByteArray.size s := by omega
    rw [List.take_of_length_le (show (tl s).length ≤ ByteArray.size s by rw [tl_len]; omega)] at hp
    exact bool_eq hp.symm
set_option maxRecDepth 100000 in
set_option maxHeartbeats 2000000 in
theorem odd_fn (n : Nat) (hn : n ≤ 9223372036854775807) : Fn Try.prog 21 #[.int .i64 ((n : Nat) : Int)] (.bool (decide (n % 2 = 1))) := by
  refine Fn.intro (c := codeOf Try.f21) [.tmp 2] 6 Try.func21 kr kr kr fun w => ?_
  have H0 := St.start w
  refine rS [.v] H0 kr fun gs1 w1 H1 => ?_
  clear H0
  refine g_sreg [0, 1, 2, 3] kr kr ?_
  refine rp [.v, .e (v := .int .i64 (Int.tmod ((n : Nat) : Int) 2)) (v' := .int .i64 ((n % 2 : Nat) : Int)) (int_eq (remN n 2))] H1 kr fun gs2 w2 H2 => ?_
  show WPs _ _ _ _ [2, 3] _ _
  clear H1
  by_cases hc1 : (n % 2 : Nat) = 1
  · skip
    refine rp [.e (v := .bool (((n % 2 : Nat) : Int) == 1)) (v' := .bool true) (bool_eq (beq_iff_eq.2 (by omega))), .v] H2 kr fun gs3 w3 H3 => ?_
    show WPs _ _ _ _ [] _ _
    clear H2
    refine s_nil ?_
    refine g_ret kr ?_
    show ∃ vs, Res _ _ _ _ vs ∧ _
    refine ⟨[.bool true], (.tmp (.bool true) kr .nil), ?_, H3.below⟩
    exact bool_eq (decide_eq_true (by omega)).symm
  · skip
    refine rp [.e (v := .bool (((n % 2 : Nat) : Int) == 1)) (v' := .bool false) (bool_eq (beq_eq_false_iff_ne.2 (by omega))), .v] H2 kr fun gs4 w4 H4 => ?_
    show WPs _ _ _ _ [] _ _
    clear H2
    refine s_nil ?_
    refine g_ret kr ?_
    show ∃ vs, Res _ _ _ _ vs ∧ _
    refine ⟨[.bool false], (.tmp (.bool false) kr .nil), ?_, H4.below⟩
    exact bool_eq (decide_eq_false (by omega)).symm
set_option maxRecDepth 100000 in
set_option maxHeartbeats 2000000 in
theorem head_fn (n : Nat) (e : Bool) (hn : n ≤ 9223372036854775807) : Fn Try.prog 24 #[.int .i64 ((n : Nat) : Int), .bool e] (.string (strB (hdP n e))) := by
  refine Fn.intro (c := codeOf Try.f24) [.tmp 4] 16 Try.func24 kr kr kr fun w => ?_
  have H0 := St.start w
  refine rS [.v] H0 kr fun gs1 w1 H1 => ?_
  clear H0
  refine rS [.v] H1 kr fun gs2 w2 H2 => ?_
  clear H1
  refine g_seq kr ?_
  refine rS [.v] H2 kr fun gs3 w3 H3 => ?_
  clear H2
  refine Or.elim (Bool.eq_false_or_eq_true (e)).symm (fun hq1 => ?_) (fun hq1 => ?_)
  · skip
    refine g_now 1 (v := .bool e) (v' := .bool false) (bool_eq hq1) kr ?_
    refine g_now 6 (v := .bool e) (v' := .bool false) (bool_eq hq1) kr ?_
    refine g_cond_f kr kr ?_
    refine g_skip kr ?_
    show WP _ _ _ _ _ _
    refine g_seq kr ?_
    refine rS [.v, .c (odd_fn n (by omega))] H3 kr fun gs4 w4 H4 => ?_
    clear H3
    refine Or.elim (Bool.eq_false_or_eq_true (decide (n % 2 = 1))).symm (fun hq2 => ?_) (fun hq2 => ?_)
    · skip
      refine g_now 8 (v := .bool (decide (n % 2 = 1))) (v' := .bool false) (bool_eq hq2) kr ?_
      refine g_cond_f kr kr ?_
      refine g_skip kr ?_
      show WP _ _ _ _ _ _
      refine rS [.v, .nw (fun b => .slice (some ⟨b, 0, none⟩) 2 2) #[.int .u8 0, .int .u8 0] 5, .w fun nn => .x (op := .convert 38 9 (.tmp 14)) (ins := [((.tmp 14), .slice (some ⟨(nn 0), 0, none⟩) 2 2)]) [(0, ((nn 0), Obj.cells #[.int .u8 0, .int .u8 0] 5 (0, 0)))] (bytesX (t := 38) (t' := 9) (e := 5) [0, 0] kr kr kr (Rw.lit #[.int .u8 0, .int .u8 0] 2 (by rfl) (by unfold maxLen; omega))), .v] H4 kr fun gs5 w5 H5 => ?_
      clear H4
      refine g_ret kr ?_
      show ∃ vs, Res _ _ _ _ vs ∧ _
      refine ⟨[.string (strOfNums ([0, 0]))], (.tmp (.string (strOfNums ([0, 0]))) kr .nil), ?_, H5.below⟩
      rw [hdP, if_neg (of_decide_eq_false hq2), hq1]; rfl
    · skip
      refine g_now 8 (v := .bool (decide (n % 2 = 1))) (v' := .bool true) (bool_eq hq2) kr ?_
      refine g_cond_t kr kr ?_
      refine rS [.v, .v, .nw (fun b => .slice (some ⟨b, 0, none⟩) 1 1) #[.int .u8 1] 5, .w fun nn => .x (op := .convert 38 9 (.tmp 11)) (ins := [((.tmp 11), .slice (some ⟨(nn 0), 0, none⟩) 1 1)]) [(0, ((nn 0), Obj.cells #[.int .u8 1] 5 (0, 0)))] (bytesX (t := 38) (t' := 9) (e := 5) [1] kr kr kr (Rw.lit #[.int .u8 1] 1 (by rfl) (by unfold maxLen; omega))), .v] H4 kr fun gs6 w6 H6 => ?_
      clear H4
      refine g_ret kr ?_
      show ∃ vs, Res _ _ _ _ vs ∧ _
      refine ⟨[.string (strOfNums ([1]))], (.tmp (.string (strOfNums ([1]))) kr .nil), ?_, H6.below⟩
      rw [hdP, if_pos (of_decide_eq_true hq2), hq1]; rfl
  · skip
    refine g_now 1 (v := .bool e) (v' := .bool true) (bool_eq hq1) kr ?_
    refine g_now 6 (v := .bool e) (v' := .bool true) (bool_eq hq1) kr ?_
    refine g_cond_t kr kr ?_
    refine rL [.v] H3 kr fun gs7 w7 H7 => ?_
    clear H3
    show WP _ _ _ _ _ _
    refine g_seq kr ?_
    refine rS [.v, .c (odd_fn n (by omega))] H7 kr fun gs8 w8 H8 => ?_
    clear H7
    refine Or.elim (Bool.eq_false_or_eq_true (decide (n % 2 = 1))).symm (fun hq3 => ?_) (fun hq3 => ?_)
    · skip
      refine g_now 8 (v := .bool (decide (n % 2 = 1))) (v' := .bool false) (bool_eq hq3) kr ?_
      refine g_cond_f kr kr ?_
      refine g_skip kr ?_
      show WP _ _ _ _ _ _
      refine rS [.v, .nw (fun b => .slice (some ⟨b, 0, none⟩) 2 2) #[.int .u8 2, .int .u8 0] 5, .w fun nn => .x (op := .convert 38 9 (.tmp 14)) (ins := [((.tmp 14), .slice (some ⟨(nn 0), 0, none⟩) 2 2)]) [(0, ((nn 0), Obj.cells #[.int .u8 2, .int .u8 0] 5 (0, 0)))] (bytesX (t := 38) (t' := 9) (e := 5) [2, 0] kr kr kr (Rw.lit #[.int .u8 2, .int .u8 0] 2 (by rfl) (by unfold maxLen; omega))), .v] H8 kr fun gs9 w9 H9 => ?_
      clear H8
      refine g_ret kr ?_
      show ∃ vs, Res _ _ _ _ vs ∧ _
      refine ⟨[.string (strOfNums ([2, 0]))], (.tmp (.string (strOfNums ([2, 0]))) kr .nil), ?_, H9.below⟩
      rw [hdP, if_neg (of_decide_eq_false hq3), hq1]; rfl
    · skip
      refine g_now 8 (v := .bool (decide (n % 2 = 1))) (v' := .bool true) (bool_eq hq3) kr ?_
      refine g_cond_t kr kr ?_
      refine rS [.v, .v, .nw (fun b => .slice (some ⟨b, 0, none⟩) 1 1) #[.int .u8 3] 5, .w fun nn => .x (op := .convert 38 9 (.tmp 11)) (ins := [((.tmp 11), .slice (some ⟨(nn 0), 0, none⟩) 1 1)]) [(0, ((nn 0), Obj.cells #[.int .u8 3] 5 (0, 0)))] (bytesX (t := 38) (t' := 9) (e := 5) [3] kr kr kr (Rw.lit #[.int .u8 3] 1 (by rfl) (by unfold maxLen; omega))), .v] H8 kr fun gs10 w10 H10 => ?_
      clear H8
      refine g_ret kr ?_
      show ∃ vs, Res _ _ _ _ vs ∧ _
      refine ⟨[.string (strOfNums ([3]))], (.tmp (.string (strOfNums ([3]))) kr .nil), ?_, H10.below⟩
      rw [hdP, if_pos (of_decide_eq_true hq3), hq1]; rfl
end Go.Proofs.Ytafamhkdklkfiaa

namespace Go.Proofs.Ytafamhkdklkfiaa
open Go Go.RowKit
set_option linter.unusedVariables false
set_option maxRecDepth 100000 in
set_option maxHeartbeats 2000000 in
theorem join_fn (s : ByteArray) (hs : ByteArray.size s ≤ 1000000000000) : Fn Try.prog 22 #[.string s] (.string (strB (jn (tl s)))) := by
  refine Fn.intro (c := codeOf Try.f22) [.tmp 2] 31 Try.func22 kr kr kr fun w => ?_
  have H0 := St.start w
  refine rS [.v] H0 kr fun gs1 w1 H1 => ?_
  clear H0
  refine g_sreg [0, 1, 2, 3, 4] kr kr ?_
  refine rp [.v, .v, .e (v := .int .i64 (IntKind.i64.wrap (((ByteArray.size s : Nat) : Int).tdiv 2))) (v' := .int .i64 (((ByteArray.size s) / 2 : Nat) : Int)) (int_eq (quoN_i64 (a := ByteArray.size s) (b := 2) (by omega)))] H1 kr fun gs2 w2 H2 => ?_
  show WPs _ _ _ _ [3, 4] _ _
  clear H1
  refine s_make H2 (some 8) 38 5 1 (.int .u8 0) (.tmp 7) (.tmp 7) .i64 .i64 ((ByteArray.size s) / 2) kr kr kr kr rfl kr kr (by omega) (by unfold maxLen; omega) ?_
  intro b_1 cur_2 w3 H3 hr_3; clear H2
  have hr_3z : Rw 1 cur_2 ((ByteArray.size s) / 2) ((ByteArray.size s) / 2) (cellsB (List.take 0 (jn (tl s)) ++ List.replicate ((tl s).length / 2 - 0) 0)) := by rw [List.take_zero, List.nil_append, Nat.sub_zero, tl_len, cellsB_zeros']; exact hr_3
  refine rp [.v] H3 kr fun gs4 w4 H4 => ?_
  show WPs _ _ _ _ [] _ _
  clear H3
  refine s_nil ?_
  refine g_seq kr ?_
  refine rS [.v, .v, .v] H4 kr fun gs5 w5 H5 => ?_
  clear H4
  refine g_block 0 kr ?_
  have HL1 : St w.heap.size w w5 [(b_1, Obj.cells cur_2 5 (0, 0))] := H5.as kr
  clear H5
  refine g_loop kr (fun mz ρ ww => ∃ (cur : Array Value) (i : Nat), ByteArray.size s / 2 - i = mz ∧ (Rw 1 cur (ByteArray.size s / 2) (ByteArray.size s / 2) (cellsB (List.take i (jn (tl s)) ++ List.replicate ((tl s).length / 2 - i) 0))) ∧ (i ≤ ByteArray.size s / 2) ∧ St w.heap.size w ww [(b_1, Obj.cells cur 5 (0, 0))] ∧ Is [(0, .string s), (2, .string (⟨#[]⟩)), (3, .slice (some ⟨b_1, 0, none⟩) ((ByteArray.size s) / 2) ((ByteArray.size s) / 2)), (10, .int .i64 (((ByteArray.size s) / 2 : Nat) : Int)), (11, .int .i64 ((i : Nat) : Int))] ρ) (ByteArray.size s / 2 - 0) ⟨cur_2, 0, rfl, hr_3z, (by omega), HL1, (Is.of ⟨kr, kr, kr, kr, kr, trivial⟩)⟩ ?_
  clear HL1
  rintro _ _ w6 ⟨cur, i, rfl, hr, hi, H6, _, rfl⟩
  by_cases hc2 : (i : Nat) < (ByteArray.size s) / 2
  · skip
    refine rS [.e (v := .bool (decide (((i : Nat) : Int) < (((ByteArray.size s) / 2 : Nat) : Int)))) (v' := .bool true) (bool_eq (decide_eq_true (by omega)))] H6 kr fun gs7 w7 H7 => ?_
    clear H6
    refine g_seq kr ?_
    refine g_cond_t kr kr ?_
    refine g_skip kr ?_
    show WP _ _ _ _ _ _
    refine g_seq kr ?_
    refine g_block 1 kr ?_
    refine rS [.v, .v] H7 kr fun gs8 w8 H8 => ?_
    clear H7
    obtain ⟨cx, hx1, hx2, hx3⟩ := hr.putB i (UInt8.ofBitVec (UInt8.toBitVec (List.getD (tl s) (2 * i) 0) <<< 4 ||| UInt8.toBitVec (List.getD (tl s) (2 * i + 1) 0))) (by omega)
    rw [shl4, jn_set (tl s) i (by rw [tl_len]; omega)] at hx3
    refine dL [.v, .v, .v, .v, .e (v := .int .i64 (IntKind.i64.wrap (2 * ((i : Nat) : Int)))) (v' := .int .i64 ((2 * i : Nat) : Int)) (int_eq (wrapMul_i64 (a := 2) (b := i) (by omega))), .o (ins := [((.tmp 16), .string s), ((.tmp 18), .int .i64 ((2 * i : Nat) : Int))]) (v := .int .u8 ((BitVec.toNat (UInt8.toBitVec (List.getD (tl s) (2 * i) 0)) : Nat) : Int)) (fun ρ o w ho hi => sindex_run (t := 9) (kd := .i64) kr (x := (.tmp 16)) (y := (.tmp 18)) s (2 * i) ho hi.1 hi.2.1 (by omega) w), .e (v := .int .u8 (IntKind.u8.wrap ((((BitVec.toNat (UInt8.toBitVec (List.getD (tl s) (2 * i) 0)) : Nat) : Int)) * 2 ^ (min 4 8)))) (v' := .int .u8 ((BitVec.toNat ((UInt8.toBitVec (List.getD (tl s) (2 * i) 0)) <<< 4) : Nat) : Int)) (bv_shl_u8 (UInt8.toBitVec (List.getD (tl s) (2 * i) 0)) 4), .v, .v, .e (v := .int .i64 (IntKind.i64.wrap (2 * ((i : Nat) : Int)))) (v' := .int .i64 ((2 * i : Nat) : Int)) (int_eq (wrapMul_i64 (a := 2) (b := i) (by omega))), .e (v := .int .i64 (IntKind.i64.wrap (((2 * i : Nat) : Int) + 1))) (v' := .int .i64 (((2 * i) + 1 : Nat) : Int)) (int_eq (wrapAdd_i64 (a := 2 * i) (b := 1) (by omega))), .o (ins := [((.tmp 21), .string s), ((.tmp 24), .int .i64 (((2 * i) + 1 : Nat) : Int))]) (v := .int .u8 ((BitVec.toNat (UInt8.toBitVec (List.getD (tl s) ((2 * i) + 1) 0)) : Nat) : Int)) (fun ρ o w ho hi => sindex_run (t := 9) (kd := .i64) kr (x := (.tmp 21)) (y := (.tmp 24)) s ((2 * i) + 1) ho hi.1 hi.2.1 (by omega) w), .e (v := .int .u8 (Go.bits .or .u8 (((BitVec.toNat ((UInt8.toBitVec (List.getD (tl s) (2 * i) 0)) <<< 4) : Nat) : Int)) (((BitVec.toNat (UInt8.toBitVec (List.getD (tl s) ((2 * i) + 1) 0)) : Nat) : Int)))) (v' := .int .u8 ((BitVec.toNat (((UInt8.toBitVec (List.getD (tl s) (2 * i) 0)) <<< 4) ||| (UInt8.toBitVec (List.getD (tl s) ((2 * i) + 1) 0))) : Nat) : Int)) (bv_or_u8 ((UInt8.toBitVec (List.getD (tl s) (2 * i) 0)) <<< 4) (UInt8.toBitVec (List.getD (tl s) ((2 * i) + 1) 0))), .o (ins := [((.tmp 14), .slice (some ⟨b_1, 0, none⟩) ((ByteArray.size s) / 2) ((ByteArray.size s) / 2)), ((.tmp 15), .int .i64 ((i : Nat) : Int))]) (v := .pointer (some ⟨b_1, 0 + i * 1, none⟩)) (fun ρ o w ho hi => idxS_run (kd := .i64) (t := 38) (e := 5) (size := 1) (bytes := 1) kr (x := (.tmp 14)) (y := (.tmp 15)) b_1 0 ((ByteArray.size s) / 2) ((ByteArray.size s) / 2) i ho hi.1 hi.2.1 (by omega) w), .se (C := cur) (C' := cx) (off := 0 + i * 1) (v := .int .u8 ((BitVec.toNat (((UInt8.toBitVec (List.getD (tl s) (2 * i) 0)) <<< 4) ||| (UInt8.toBitVec (List.getD (tl s) ((2 * i) + 1) 0))) : Nat) : Int)) 0 hx2 hx1] H8 kr fun w9 H9 => ?_
    clear H8
    show WP _ _ _ _ _ _
    refine g_keep [0, 2, 3, 4, 10, 11, 12] fun ρ1 => ?_
    have HK3 := H9.keep
    clear H9
    refine rL [.e (v := .int .i64 (IntKind.i64.wrap (((i : Nat) : Int) + 1))) (v' := .int .i64 ((i + 1 : Nat) : Int)) (int_eq (wrapAdd_i64 (a := i) (b := 1) (by omega))), .v] HK3 kr fun gs10 w10 H10 => ?_
    clear HK3
    have HL4 : St w.heap.size w w10 [(b_1, Obj.cells cx 5 (0, 0))] := H10.as kr
    clear H10
    show ∃ m, _ ∧ _
    exact ⟨_, (by omega), cx, (i + 1), rfl, hx3, (by omega), HL4, (Is.of ⟨kr, kr, kr, kr, kr, trivial⟩)⟩
  · skip
    refine rS [.e (v := .bool (decide (((i : Nat) : Int) < (((ByteArray.size s) / 2 : Nat) : Int)))) (v' := .bool false) (bool_eq (decide_eq_false (by omega)))] H6 kr fun gs11 w11 H11 => ?_
    clear H6
    refine g_seq kr ?_
    refine g_cond_f kr kr ?_
    refine g_exit 0 kr ?_
    show WP _ _ _ _ _ _
    refine g_sreg [0, 1, 2] kr kr ?_
    refine rp [.v] H11 kr fun gs12 w12 H12 => ?_
    show WPs _ _ _ _ [1, 2] _ _
    clear H11
    refine s_bytesStrB H12 (some 30) 38 9 5 (.tmp 29) 0 b_1 ((ByteArray.size s) / 2) ((ByteArray.size s) / 2) cur 5 (0, 0) (List.take i (jn (tl s)) ++ List.replicate ((tl s).length / 2 - i) 0) kr kr kr kr kr kr kr hr ?_
    refine rp [.v] H12 kr fun gs13 w13 H13 => ?_
    show WPs _ _ _ _ [] _ _
    clear H12
    refine s_nil ?_
    refine g_ret kr ?_
    show ∃ vs, Res _ _ _ _ vs ∧ _
    refine ⟨[.string (strB (List.take i (jn (tl s)) ++ List.replicate ((tl s).length / 2 - i) 0))], (.tmp (.string (strB (List.take i (jn (tl s)) ++ List.replicate ((tl s).length / 2 - i) 0))) kr .nil), ?_, H13.below⟩
    obtain rfl : i = ByteArray.size s / 2 := by omega
    rw [tl_len, Nat.sub_self, List.replicate_zero, List.append_nil, List.take_of_length_le (show (jn (tl s)).length ≤ ByteArray.size s / 2 by rw [jn_len, tl_len]; omega)]
    rfl
end Go.Proofs.Ytafamhkdklkfiaa

namespace Go.Proofs.Ytafamhkdklkfiaa
open Go Go.RowKit
set_option linter.unusedVariables false
def kyB (l : List UInt8) : Bool := isP l && !decide (l.length % 2 = 1)
def kyS (l : List UInt8) : ByteArray := bif kyB l then strB (jn l) else ⟨#[]⟩
def kyN (l : List UInt8) : Int := bif kyB l then 0 else 1
/-- What stands behind a head that is cut off. -/
def cutS (w p : ByteArray) : ByteArray := bif isPre w p then w.extract p.size w.size else w
def uV (l : List UInt8) : Value := .tuple #[.string (uS l), .bool (uE l), .int .i64 (uN l)]
set_option maxRecDepth 100000 in
set_option maxHeartbeats 2000000 in
theorem pack_yes (s : ByteArray) (hs : ByteArray.size s ≤ 100000000000) (e : Bool) (hp : isP (tl s) = true) : Fn Try.prog 15 #[.string s, .bool e] (.tuple #[.string (strB (pk (tl s) e)), .int .i64 0]) := by
  refine Fn.intro (c := codeOf Try.f15) [.tmp 4, .tmp 5] 16 Try.func15 kr kr kr fun w => ?_
  have H0 := St.start w
  refine rS [.v, .v] H0 kr fun gs1 w1 H1 => ?_
  clear H0
  refine g_seq kr ?_
  refine g_sreg [0, 1, 2] kr kr ?_
  refine rp [.v, .c (may_fn s (by omega))] H1 kr fun gs2 w2 H2 => ?_
  show WPs _ _ _ _ [2] _ _
  clear H1
  refine Or.elim (Bool.eq_false_or_eq_true (isP (tl s))).symm (fun hq1 => ?_) (fun hq1 => ?_)
  · skip
    refine s_now 7 (v := .bool (isP (tl s))) (v' := .bool false) (bool_eq hq1) kr ?_
    refine rp [.v] H2 kr fun gs3 w3 H3 => ?_
    show WPs _ _ _ _ [] _ _
    clear H2
    refine s_nil ?_
    refine g_cond_t kr kr ?_
    refine rS [.v, .v] H3 kr fun gs4 w4 H4 => ?_
    clear H3
    refine g_ret kr ?_
    show ∃ vs, Res _ _ _ _ vs ∧ _
    refine ⟨[.string (⟨#[]⟩), .int .i64 1], (.tmp (.string (⟨#[]⟩)) kr (.tmp (.int .i64 1) kr .nil)), ?_, H4.below⟩
    exact (absurd (hp.symm.trans hq1) (by decide))
  · skip
    refine s_now 7 (v := .bool (isP (tl s))) (v' := .bool true) (bool_eq hq1) kr ?_
    refine rp [.v] H2 kr fun gs5 w5 H5 => ?_
    show WPs _ _ _ _ [] _ _
    clear H2
    refine s_nil ?_
    refine g_cond_f kr kr ?_
    refine g_skip kr ?_
    show WP _ _ _ _ _ _
    refine g_sreg [0, 1, 2, 3, 4, 5, 6, 7, 8] kr kr ?_
    refine rp [.v, .v, .v, .c (head_fn (ByteArray.size s) e (by omega)), .v] H5 kr fun gs6 w6 H6 => ?_
    show WPs _ _ _ _ [5, 6, 7, 8] _ _
    clear H5
    have hcz := (hdP_len (ByteArray.size s) e).2
    have hcy : ByteArray.size (strB (hdP (ByteArray.size s) e)) = (hdP (ByteArray.size s) e).length := rfl
    have hcw : ByteArray.size (strB (hdP (ByteArray.size s) e) ++ s) = ByteArray.size (strB (hdP (ByteArray.size s) e)) + ByteArray.size s := by rw [← tl_len, tl_add, List.length_append, tl_len, tl_len]
    refine rp [.o (ins := [((.tmp 12), .string (strB (hdP (ByteArray.size s) e))), ((.tmp 13), .string s)]) (v := .string ((strB (hdP (ByteArray.size s) e)) ++ s)) (fun ρ o w ho hi => sadd_run (t := 9) (t' := 9) (x := (.tmp 12)) (y := (.tmp 13)) (strB (hdP (ByteArray.size s) e)) s w ho hi.1 hi.2.1 (by omega)), .c (join_fn ((strB (hdP (ByteArray.size s) e)) ++ s) (by omega)), .v, .v] H6 kr fun gs7 w7 H7 => ?_
    show WPs _ _ _ _ [] _ _
    clear H6
    refine s_nil ?_
    refine g_ret kr ?_
    show ∃ vs, Res _ _ _ _ vs ∧ _
    refine ⟨[.string (strB (jn (tl ((strB (hdP (ByteArray.size s) e)) ++ s)))), .int .i64 0], (.tmp (.string (strB (jn (tl ((strB (hdP (ByteArray.size s) e)) ++ s))))) kr (.tmp (.int .i64 0) kr .nil)), ?_, H7.below⟩
    exact (rfl)
end Go.Proofs.Ytafamhkdklkfiaa

namespace Go.Proofs.Ytafamhkdklkfiaa
open Go Go.RowKit
set_option linter.unusedVariables false
theorem shr_go {s t : ByteArray} {i : Nat} (h1 : i < s.size) (h2 : i < t.size) (h : by_ s i = by_ t i) : shr ((tl s).drop i) ((tl t).drop i) = 1 + shr ((tl s).drop (i + 1)) ((tl t).drop (i + 1)) := by
  rw [shr_step _ _ _ (by rw [tl_len]; omega) (by rw [tl_len]; omega), if_pos (UInt8.toNat_inj.1 h)]
theorem shr_stop {s t : ByteArray} {i : Nat} (h1 : i < s.size) (h2 : i < t.size) (h : ¬ by_ s i = by_ t i) : shr ((tl s).drop i) ((tl t).drop i) = 0 := by
  rw [shr_step _ _ _ (by rw [tl_len]; omega) (by rw [tl_len]; omega), if_neg fun e => h (congrArg UInt8.toNat e)]
theorem shr_end {s t : ByteArray} {i : Nat} (h : s.size ≤ i ∨ t.size ≤ i) : shr ((tl s).drop i) ((tl t).drop i) = 0 :=
  shr_nil (by rw [List.length_drop, List.length_drop, tl_len, tl_len]; omega)
set_option maxRecDepth 100000 in
set_option maxHeartbeats 2000000 in
theorem share_fn (s t : ByteArray) (hs : ByteArray.size s ≤ 1000000000000) (ht : ByteArray.size t ≤ 1000000000000) : Fn Try.prog 13 #[.string s, .string t] (.int .i64 ((shr (tl s) (tl t) : Nat) : Int)) := by
  refine Fn.intro (c := codeOf Try.f13) [.tmp 4] 26 Try.func13 kr kr kr fun w => ?_
  have H0 := St.start w
  refine rS [.v] H0 kr fun gs1 w1 H1 => ?_
  clear H0
  refine rS [.v, .v, .v, .v, .e (v := .int .i64 (if (((ByteArray.size t : Nat) : Int) : Int) < (((ByteArray.size s : Nat) : Int) : Int) then (((ByteArray.size t : Nat) : Int) : Int) else (((ByteArray.size s : Nat) : Int) : Int))) (v' := .int .i64 ((min (ByteArray.size s) (ByteArray.size t) : Nat) : Int)) (int_eq (minN (ByteArray.size s) (ByteArray.size t))), .v] H1 kr fun gs2 w2 H2 => ?_
  clear H1
  refine g_seq kr ?_
  refine rS [.v, .v] H2 kr fun gs3 w3 H3 => ?_
  clear H2
  refine g_block 0 kr ?_
  have HL1 : St w.heap.size w w3 [] := H3.as kr
  clear H3
  refine g_loop kr (fun mz ρ ww => ∃ (i : Nat), min (ByteArray.size s) (ByteArray.size t) - i = mz ∧ (i ≤ ByteArray.size s ∧ i ≤ ByteArray.size t) ∧ (shr (tl s) (tl t) = i + shr ((tl s).drop i) ((tl t).drop i)) ∧ St w.heap.size w ww [] ∧ Is [(0, .string s), (1, .string t), (5, .int .i64 ((min (ByteArray.size s) (ByteArray.size t) : Nat) : Int)), (12, .int .i64 ((min (ByteArray.size s) (ByteArray.size t) : Nat) : Int)), (13, .int .i64 ((i : Nat) : Int))] ρ) (min (ByteArray.size s) (ByteArray.size t) - 0) ⟨0, rfl, (by omega), (by rw [List.drop_zero, List.drop_zero]; omega), HL1, (Is.of ⟨kr, kr, kr, kr, kr, trivial⟩)⟩ ?_
  clear HL1
  rintro _ _ w4 ⟨i, rfl, hi, hq, H4, _, rfl⟩
  by_cases hc2 : (i : Nat) < min (ByteArray.size s) (ByteArray.size t)
  · skip
    refine rS [.e (v := .bool (decide (((i : Nat) : Int) < ((min (ByteArray.size s) (ByteArray.size t) : Nat) : Int)))) (v' := .bool true) (bool_eq (decide_eq_true (by omega)))] H4 kr fun gs5 w5 H5 => ?_
    clear H4
    refine g_seq kr ?_
    refine g_cond_t kr kr ?_
    refine g_skip kr ?_
    show WP _ _ _ _ _ _
    refine g_seq kr ?_
    refine g_block 1 kr ?_
    refine rS [.v, .v] H5 kr fun gs6 w6 H6 => ?_
    clear H5
    by_cases hx3 : (by_ s i : Nat) ≠ by_ t i
    · skip
      refine dS [.v, .v, .o (ins := [((.tmp 16), .string s), ((.tmp 17), .int .i64 ((i : Nat) : Int))]) (v := .int .u8 ((by_ s i : Nat) : Int)) (fun ρ o w ho hi => sindex_run (t := 9) (kd := .i64) kr (x := (.tmp 16)) (y := (.tmp 17)) s i ho hi.1 hi.2.1 (by omega) w), .v, .v, .o (ins := [((.tmp 19), .string t), ((.tmp 20), .int .i64 ((i : Nat) : Int))]) (v := .int .u8 ((by_ t i : Nat) : Int)) (fun ρ o w ho hi => sindex_run (t := 9) (kd := .i64) kr (x := (.tmp 19)) (y := (.tmp 20)) t i ho hi.1 hi.2.1 (by omega) w), .e (v := .bool (!(((by_ s i : Nat) : Int) == ((by_ t i : Nat) : Int)))) (v' := .bool true) (bool_eq (by rw [beq_eq_false_iff_ne.2 (by omega)]; rfl))] H6 kr fun w7 H7 => ?_
      clear H6
      refine g_keep [0, 1, 5, 6, 12, 13, 14, 22] fun ρ1 => ?_
      have HK4 := H7.keep
      clear H7
      refine g_cond_t kr kr ?_
      refine rS [.v, .v] HK4 kr fun gs8 w8 H8 => ?_
      clear HK4
      refine g_ret kr ?_
      show ∃ vs, Res _ _ _ _ vs ∧ _
      refine ⟨[.int .i64 ((i : Nat) : Int)], (.tmp (.int .i64 ((i : Nat) : Int)) kr .nil), ?_, H8.below⟩
      refine int_eq ?_
      rw [hq, shr_stop (by omega) (by omega) (by omega)]; rfl
    · skip
      refine dS [.v, .v, .o (ins := [((.tmp 16), .string s), ((.tmp 17), .int .i64 ((i : Nat) : Int))]) (v := .int .u8 ((by_ s i : Nat) : Int)) (fun ρ o w ho hi => sindex_run (t := 9) (kd := .i64) kr (x := (.tmp 16)) (y := (.tmp 17)) s i ho hi.1 hi.2.1 (by omega) w), .v, .v, .o (ins := [((.tmp 19), .string t), ((.tmp 20), .int .i64 ((i : Nat) : Int))]) (v := .int .u8 ((by_ t i : Nat) : Int)) (fun ρ o w ho hi => sindex_run (t := 9) (kd := .i64) kr (x := (.tmp 19)) (y := (.tmp 20)) t i ho hi.1 hi.2.1 (by omega) w), .e (v := .bool (!(((by_ s i : Nat) : Int) == ((by_ t i : Nat) : Int)))) (v' := .bool false) (bool_eq (by rw [beq_iff_eq.2 (by omega)]; rfl))] H6 kr fun w9 H9 => ?_
      clear H6
      refine g_keep [0, 1, 5, 6, 12, 13, 14, 22] fun ρ2 => ?_
      have HK5 := H9.keep
      clear H9
      refine g_cond_f kr kr ?_
      refine g_skip kr ?_
      show WP _ _ _ _ _ _
      refine rL [.e (v := .int .i64 (IntKind.i64.wrap (((i : Nat) : Int) + 1))) (v' := .int .i64 ((i + 1 : Nat) : Int)) (int_eq (wrapAdd_i64 (a := i) (b := 1) (by omega))), .v] HK5 kr fun gs10 w10 H10 => ?_
      clear HK5
      have HL6 : St w.heap.size w w10 [] := H10.as kr
      clear H10
      show ∃ m, _ ∧ _
      exact ⟨_, (by omega), (i + 1), rfl, (by omega), (by rw [hq, shr_go (by omega) (by omega) (by omega)]; omega), HL6, (Is.of ⟨kr, kr, kr, kr, kr, trivial⟩)⟩
  · skip
    refine rS [.e (v := .bool (decide (((i : Nat) : Int) < ((min (ByteArray.size s) (ByteArray.size t) : Nat) : Int)))) (v' := .bool false) (bool_eq (decide_eq_false (by omega)))] H4 kr fun gs11 w11 H11 => ?_
    clear H4
    refine g_seq kr ?_
    refine g_cond_f kr kr ?_
    refine g_exit 0 kr ?_
    show WP _ _ _ _ _ _
    refine rS [.v, .v] H11 kr fun gs12 w12 H12 => ?_
    clear H11
    refine g_ret kr ?_
    show ∃ vs, Res _ _ _ _ vs ∧ _
    refine ⟨[.int .i64 ((min (ByteArray.size s) (ByteArray.size t) : Nat) : Int)], (.tmp (.int .i64 ((min (ByteArray.size s) (ByteArray.size t) : Nat) : Int)) kr .nil), ?_, H12.below⟩
    refine int_eq ?_
    rw [hq, shr_end (by omega)]; omega
set_option maxRecDepth 100000 in
set_option maxHeartbeats 2000000 in
theorem short_fn (s : ByteArray) (hs : ByteArray.size s ≤ 9223372036854775807) : Fn Try.prog 7 #[.string s] (.string (cut5 s)) := by
  refine Fn.intro (c := codeOf Try.f7) [.tmp 2] 8 Try.func7 kr kr kr fun w => ?_
  have H0 := St.start w
  refine rS [.v] H0 kr fun gs1 w1 H1 => ?_
  clear H0
  refine rS [.v, .v, .v, .e (v := .int .i64 (if (500 : Int) < (((ByteArray.size s : Nat) : Int) : Int) then (500 : Int) else (((ByteArray.size s : Nat) : Int) : Int))) (v' := .int .i64 ((min (ByteArray.size s) 500 : Nat) : Int)) (int_eq (minN (ByteArray.size s) 500)), .o (ins := [((.tmp 3), .string s), ((.tmp 6), .int .i64 ((min (ByteArray.size s) 500 : Nat) : Int))]) (v := .string (ByteArray.extract s 0 (min (ByteArray.size s) 500))) (fun ρ o w ho hi => scut_run (t := 9) (kd := .i64) kr (x := (.tmp 3)) (y := (.tmp 6)) s (min (ByteArray.size s) 500) ho hi.1 hi.2.1 (by omega) w), .v] H1 kr fun gs2 w2 H2 => ?_
  clear H1
  refine g_ret kr ?_
  show ∃ vs, Res _ _ _ _ vs ∧ _
  refine ⟨[.string (ByteArray.extract s 0 (min (ByteArray.size s) 500))], (.tmp (.string (ByteArray.extract s 0 (min (ByteArray.size s) 500))) kr .nil), ?_, H2.below⟩
  rfl
set_option maxRecDepth 100000 in
set_option maxHeartbeats 2000000 in
theorem alive_fn  : Fn Try.prog 10 #[] (.bool true) := by
  refine Fn.intro (c := codeOf Try.f10) [.tmp 0] 13 Try.func10 kr kr kr fun w => ?_
  have H0 := St.start w
  refine rS [.v] H0 kr fun gs1 w1 H1 => ?_
  clear H0
  refine rS [.c (pack_yes (⟨#[1, 2, 3]⟩) (by decide) false (by rfl)), .v, .v, .v, .v, .v] H1 kr fun gs2 w2 H2 => ?_
  clear H1
  refine rS [.v, .v, .v, .v, .e (v := .bool (ByteArray.toList (strB (pk (tl (⟨#[1, 2, 3]⟩)) false)) == ByteArray.toList (⟨#[17, 35]⟩))) (v' := .bool true) (bool_eq (str_same (strB (pk (tl (⟨#[1, 2, 3]⟩)) false)) (⟨#[17, 35]⟩) (by rfl))), .v, .v] H2 kr fun gs3 w3 H3 => ?_
  clear H2
  refine g_ret kr ?_
  show ∃ vs, Res _ _ _ _ vs ∧ _
  refine ⟨[.bool true], (.tmp (.bool true) kr .nil), ?_, H3.below⟩
  rfl
end Go.Proofs.Ytafamhkdklkfiaa

namespace Go.Proofs.Ytafamhkdklkfiaa
open Go Go.RowKit
set_option linter.unusedVariables false
set_option maxRecDepth 100000 in
set_option maxHeartbeats 2000000 in
theorem nibbleShared_fn (s0 s1 s2 : ByteArray) (hz0 : ByteArray.size s0 ≤ 9223372036854775807) (hz1 : ByteArray.size s1 ≤ 9223372036854775807) (hz2 : ByteArray.size s2 ≤ 9223372036854775807) : Fn Try.prog 6 #[.string s0, .string s1, .string s2] (.bool true) := by
  refine Fn.intro (c := codeOf Try.f6) [.tmp 6] 83 Try.func6 kr kr kr fun w => ?_
  have H0 := St.start w
  have hc0 := cut5_size s0
  have hc1 := cut5_size s1
  have hc2 := cut5_size s2
  have hle := shr_le (tl (cut5 s0)) (tl (cut5 s1))
  rw [tl_len, tl_len] at hle
  have hcm := shr_comm (tl (cut5 s1)) (tl (cut5 s0))
  have hah := shr_ahead (tl (cut5 s2)) (tl (cut5 s0)) (tl (cut5 s1))
  rw [← tl_add, ← tl_add, tl_len] at hah
  have hnx : shr (tl (cut5 s0)) (tl (cut5 s1)) < ByteArray.size (cut5 s0) → shr (tl (cut5 s0)) (tl (cut5 s1)) < ByteArray.size (cut5 s1) → ¬ by_ (cut5 s0) (shr (tl (cut5 s0)) (tl (cut5 s1))) = by_ (cut5 s1) (shr (tl (cut5 s0)) (tl (cut5 s1))) := fun h1 h2 h3 => shr_next _ _ (by rw [tl_len]; exact h1) (by rw [tl_len]; exact h2) (UInt8.toNat_inj.1 h3)
  have hlk : ByteArray.extract (cut5 s0) 0 (shr (tl (cut5 s0)) (tl (cut5 s1))) = ByteArray.extract (cut5 s1) 0 (shr (tl (cut5 s0)) (tl (cut5 s1))) := tl_inj (by rw [tl_extract, tl_extract, List.drop_zero, List.drop_zero]; exact shr_take _ _)
  have hs0 : ByteArray.size (cut5 s2 ++ cut5 s0) = ByteArray.size (cut5 s2) + ByteArray.size (cut5 s0) := by rw [← tl_len, tl_add, List.length_append, tl_len, tl_len]
  have hs1 : ByteArray.size (cut5 s2 ++ cut5 s1) = ByteArray.size (cut5 s2) + ByteArray.size (cut5 s1) := by rw [← tl_len, tl_add, List.length_append, tl_len, tl_len]
  refine rS [.v] H0 kr fun gs1 w1 H1 => ?_
  clear H0
  refine rS [.v, .c (short_fn s0 (by omega)), .v, .c (short_fn s1 (by omega)), .v, .c (short_fn s2 (by omega)), .v, .v, .v] H1 kr fun gs2 w2 H2 => ?_
  clear H1
  refine rS [.v, .v, .c (share_fn (cut5 s0) (cut5 s1) (by omega) (by omega)), .v] H2 kr fun gs3 w3 H3 => ?_
  clear H2
  refine g_seq kr ?_
  refine dS [.v, .e (v := .bool (decide (((shr (tl (cut5 s0)) (tl (cut5 s1)) : Nat) : Int) < 0))) (v' := .bool false) (bool_eq (decide_eq_false (by omega))), .v, .v, .v, .v, .v, .v, .e (v := .int .i64 (if (((ByteArray.size (cut5 s1) : Nat) : Int) : Int) < (((ByteArray.size (cut5 s0) : Nat) : Int) : Int) then (((ByteArray.size (cut5 s1) : Nat) : Int) : Int) else (((ByteArray.size (cut5 s0) : Nat) : Int) : Int))) (v' := .int .i64 ((min (ByteArray.size (cut5 s0)) (ByteArray.size (cut5 s1)) : Nat) : Int)) (int_eq (minN (ByteArray.size (cut5 s0)) (ByteArray.size (cut5 s1)))), .e (v := .bool (decide (((min (ByteArray.size (cut5 s0)) (ByteArray.size (cut5 s1)) : Nat) : Int) < ((shr (tl (cut5 s0)) (tl (cut5 s1)) : Nat) : Int)))) (v' := .bool false) (bool_eq (decide_eq_false (by omega))), .v, .v, .v, .v, .o (ins := [((.tmp 30), .string (cut5 s0)), ((.tmp 31), .int .i64 ((shr (tl (cut5 s0)) (tl (cut5 s1)) : Nat) : Int))]) (v := .string (ByteArray.extract (cut5 s0) 0 (shr (tl (cut5 s0)) (tl (cut5 s1))))) (fun ρ o w ho hi => scut_run (t := 9) (kd := .i64) kr (x := (.tmp 30)) (y := (.tmp 31)) (cut5 s0) (shr (tl (cut5 s0)) (tl (cut5 s1))) ho hi.1 hi.2.1 (by omega) w), .v, .v, .o (ins := [((.tmp 33), .string (cut5 s1)), ((.tmp 34), .int .i64 ((shr (tl (cut5 s0)) (tl (cut5 s1)) : Nat) : Int))]) (v := .string (ByteArray.extract (cut5 s1) 0 (shr (tl (cut5 s0)) (tl (cut5 s1))))) (fun ρ o w ho hi => scut_run (t := 9) (kd := .i64) kr (x := (.tmp 33)) (y := (.tmp 34)) (cut5 s1) (shr (tl (cut5 s0)) (tl (cut5 s1))) ho hi.1 hi.2.1 (by omega) w), .e (v := .bool (!(ByteArray.toList (ByteArray.extract (cut5 s0) 0 (shr (tl (cut5 s0)) (tl (cut5 s1)))) == ByteArray.toList (ByteArray.extract (cut5 s1) 0 (shr (tl (cut5 s0)) (tl (cut5 s1))))))) (v' := .bool false) (bool_eq (by rw [str_same (ByteArray.extract (cut5 s0) 0 (shr (tl (cut5 s0)) (tl (cut5 s1)))) (ByteArray.extract (cut5 s1) 0 (shr (tl (cut5 s0)) (tl (cut5 s1)))) hlk]; rfl)), .v] H3 kr fun w4 H4 => ?_
  clear H3
  refine g_keep [0, 1, 2, 6, 7, 37] fun ρ1 => ?_
  have HK1 := H4.keep
  clear H4
  refine g_cond_f kr kr ?_
  refine g_skip kr ?_
  show WP _ _ _ _ _ _
  by_cases hx2 : (shr (tl (cut5 s0)) (tl (cut5 s1)) : Nat) < ByteArray.size (cut5 s0)
  · skip
    by_cases hx3 : (shr (tl (cut5 s0)) (tl (cut5 s1)) : Nat) < ByteArray.size (cut5 s1)
    · skip
      refine dS [.v, .v, .v, .e (v := .bool (decide (((shr (tl (cut5 s0)) (tl (cut5 s1)) : Nat) : Int) < ((ByteArray.size (cut5 s0) : Nat) : Int)))) (v' := .bool true) (bool_eq (decide_eq_true (by omega))), .v, .v, .v, .v, .e (v := .bool (decide (((shr (tl (cut5 s0)) (tl (cut5 s1)) : Nat) : Int) < ((ByteArray.size (cut5 s1) : Nat) : Int)))) (v' := .bool true) (bool_eq (decide_eq_true (by omega))), .v, .v, .v, .v, .o (ins := [((.tmp 49), .string (cut5 s0)), ((.tmp 50), .int .i64 ((shr (tl (cut5 s0)) (tl (cut5 s1)) : Nat) : Int))]) (v := .int .u8 ((by_ (cut5 s0) (shr (tl (cut5 s0)) (tl (cut5 s1))) : Nat) : Int)) (fun ρ o w ho hi => sindex_run (t := 9) (kd := .i64) kr (x := (.tmp 49)) (y := (.tmp 50)) (cut5 s0) (shr (tl (cut5 s0)) (tl (cut5 s1))) ho hi.1 hi.2.1 (by omega) w), .v, .v, .o (ins := [((.tmp 52), .string (cut5 s1)), ((.tmp 53), .int .i64 ((shr (tl (cut5 s0)) (tl (cut5 s1)) : Nat) : Int))]) (v := .int .u8 ((by_ (cut5 s1) (shr (tl (cut5 s0)) (tl (cut5 s1))) : Nat) : Int)) (fun ρ o w ho hi => sindex_run (t := 9) (kd := .i64) kr (x := (.tmp 52)) (y := (.tmp 53)) (cut5 s1) (shr (tl (cut5 s0)) (tl (cut5 s1))) ho hi.1 hi.2.1 (by omega) w), .e (v := .bool (((by_ (cut5 s0) (shr (tl (cut5 s0)) (tl (cut5 s1))) : Nat) : Int) == ((by_ (cut5 s1) (shr (tl (cut5 s0)) (tl (cut5 s1))) : Nat) : Int))) (v' := .bool false) (bool_eq (beq_eq_false_iff_ne.2 (by have := hnx (by omega) (by omega); omega))), .v, .v] HK1 kr fun w5 H5 => ?_
      clear HK1
      refine g_keep [0, 1, 2, 6, 7, 8, 37] fun ρ2 => ?_
      have HK4 := H5.keep
      clear H5
      refine rS [.c alive_fn, .v, .v, .v, .v, .v, .v, .v, .c (share_fn (cut5 s1) (cut5 s0) (by omega) (by omega)), .v, .e (v := .bool (((shr (tl (cut5 s1)) (tl (cut5 s0)) : Nat) : Int) == ((shr (tl (cut5 s0)) (tl (cut5 s1)) : Nat) : Int))) (v' := .bool true) (bool_eq (beq_iff_eq.2 (by omega))), .v, .v, .v, .v, .o (ins := [((.tmp 70), .string (cut5 s2)), ((.tmp 71), .string (cut5 s0))]) (v := .string ((cut5 s2) ++ (cut5 s0))) (fun ρ o w ho hi => sadd_run (t := 9) (t' := 9) (x := (.tmp 70)) (y := (.tmp 71)) (cut5 s2) (cut5 s0) w ho hi.1 hi.2.1 (by omega)), .v, .v, .o (ins := [((.tmp 73), .string (cut5 s2)), ((.tmp 74), .string (cut5 s1))]) (v := .string ((cut5 s2) ++ (cut5 s1))) (fun ρ o w ho hi => sadd_run (t := 9) (t' := 9) (x := (.tmp 73)) (y := (.tmp 74)) (cut5 s2) (cut5 s1) w ho hi.1 hi.2.1 (by omega)), .c (share_fn ((cut5 s2) ++ (cut5 s0)) ((cut5 s2) ++ (cut5 s1)) (by omega) (by omega)), .v, .v, .v, .e (v := .int .i64 (IntKind.i64.wrap (((ByteArray.size (cut5 s2) : Nat) : Int) + ((shr (tl (cut5 s0)) (tl (cut5 s1)) : Nat) : Int)))) (v' := .int .i64 (((ByteArray.size (cut5 s2)) + (shr (tl (cut5 s0)) (tl (cut5 s1))) : Nat) : Int)) (int_eq (wrapAdd_i64 (a := ByteArray.size (cut5 s2)) (b := shr (tl (cut5 s0)) (tl (cut5 s1))) (by omega))), .e (v := .bool (((shr (tl ((cut5 s2) ++ (cut5 s0))) (tl ((cut5 s2) ++ (cut5 s1))) : Nat) : Int) == (((ByteArray.size (cut5 s2)) + (shr (tl (cut5 s0)) (tl (cut5 s1))) : Nat) : Int))) (v' := .bool true) (bool_eq (beq_iff_eq.2 (by omega))), .v, .v] HK4 kr fun gs6 w6 H6 => ?_
      clear HK4
      refine g_ret kr ?_
      show ∃ vs, Res _ _ _ _ vs ∧ _
      refine ⟨[.bool true], (.tmp (.bool true) kr .nil), ?_, H6.below⟩
      rfl
    · skip
      refine dS [.v, .v, .v, .e (v := .bool (decide (((shr (tl (cut5 s0)) (tl (cut5 s1)) : Nat) : Int) < ((ByteArray.size (cut5 s0) : Nat) : Int)))) (v' := .bool true) (bool_eq (decide_eq_true (by omega))), .v, .v, .v, .v, .e (v := .bool (decide (((shr (tl (cut5 s0)) (tl (cut5 s1)) : Nat) : Int) < ((ByteArray.size (cut5 s1) : Nat) : Int)))) (v' := .bool false) (bool_eq (decide_eq_false (by omega))), .v, .v, .n, .n, .n, .n, .n, .n, .n, .v, .v] HK1 kr fun w7 H7 => ?_
      clear HK1
      refine g_keep [0, 1, 2, 6, 7, 8, 37] fun ρ3 => ?_
      have HK5 := H7.keep
      clear H7
      refine rS [.c alive_fn, .v, .v, .v, .v, .v, .v, .v, .c (share_fn (cut5 s1) (cut5 s0) (by omega) (by omega)), .v, .e (v := .bool (((shr (tl (cut5 s1)) (tl (cut5 s0)) : Nat) : Int) == ((shr (tl (cut5 s0)) (tl (cut5 s1)) : Nat) : Int))) (v' := .bool true) (bool_eq (beq_iff_eq.2 (by omega))), .v, .v, .v, .v, .o (ins := [((.tmp 70), .string (cut5 s2)), ((.tmp 71), .string (cut5 s0))]) (v := .string ((cut5 s2) ++ (cut5 s0))) (fun ρ o w ho hi => sadd_run (t := 9) (t' := 9) (x := (.tmp 70)) (y := (.tmp 71)) (cut5 s2) (cut5 s0) w ho hi.1 hi.2.1 (by omega)), .v, .v, .o (ins := [((.tmp 73), .string (cut5 s2)), ((.tmp 74), .string (cut5 s1))]) (v := .string ((cut5 s2) ++ (cut5 s1))) (fun ρ o w ho hi => sadd_run (t := 9) (t' := 9) (x := (.tmp 73)) (y := (.tmp 74)) (cut5 s2) (cut5 s1) w ho hi.1 hi.2.1 (by omega)), .c (share_fn ((cut5 s2) ++ (cut5 s0)) ((cut5 s2) ++ (cut5 s1)) (by omega) (by omega)), .v, .v, .v, .e (v := .int .i64 (IntKind.i64.wrap (((ByteArray.size (cut5 s2) : Nat) : Int) + ((shr (tl (cut5 s0)) (tl (cut5 s1)) : Nat) : Int)))) (v' := .int .i64 (((ByteArray.size (cut5 s2)) + (shr (tl (cut5 s0)) (tl (cut5 s1))) : Nat) : Int)) (int_eq (wrapAdd_i64 (a := ByteArray.size (cut5 s2)) (b := shr (tl (cut5 s0)) (tl (cut5 s1))) (by omega))), .e (v := .bool (((shr (tl ((cut5 s2) ++ (cut5 s0))) (tl ((cut5 s2) ++ (cut5 s1))) : Nat) : Int) == (((ByteArray.size (cut5 s2)) + (shr (tl (cut5 s0)) (tl (cut5 s1))) : Nat) : Int))) (v' := .bool true) (bool_eq (beq_iff_eq.2 (by omega))), .v, .v] HK5 kr fun gs8 w8 H8 => ?_
      clear HK5
      refine g_ret kr ?_
      show ∃ vs, Res _ _ _ _ vs ∧ _
      refine ⟨[.bool true], (.tmp (.bool true) kr .nil), ?_, H8.below⟩
      rfl
  · skip
    by_cases hx6 : (shr (tl (cut5 s0)) (tl (cut5 s1)) : Nat) < ByteArray.size (cut5 s1)
    · skip
      refine dS [.v, .v, .v, .e (v := .bool (decide (((shr (tl (cut5 s0)) (tl (cut5 s1)) : Nat) : Int) < ((ByteArray.size (cut5 s0) : Nat) : Int)))) (v' := .bool false) (bool_eq (decide_eq_false (by omega))), .v, .n, .n, .n, .n, .v, .v, .n, .n, .n, .n, .n, .n, .n, .v, .v] HK1 kr fun w9 H9 => ?_
      clear HK1
      refine g_keep [0, 1, 2, 6, 7, 8, 37] fun ρ4 => ?_
      have HK7 := H9.keep
      clear H9
      refine rS [.c alive_fn, .v, .v, .v, .v, .v, .v, .v, .c (share_fn (cut5 s1) (cut5 s0) (by omega) (by omega)), .v, .e (v := .bool (((shr (tl (cut5 s1)) (tl (cut5 s0)) : Nat) : Int) == ((shr (tl (cut5 s0)) (tl (cut5 s1)) : Nat) : Int))) (v' := .bool true) (bool_eq (beq_iff_eq.2 (by omega))), .v, .v, .v, .v, .o (ins := [((.tmp 70), .string (cut5 s2)), ((.tmp 71), .string (cut5 s0))]) (v := .string ((cut5 s2) ++ (cut5 s0))) (fun ρ o w ho hi => sadd_run (t := 9) (t' := 9) (x := (.tmp 70)) (y := (.tmp 71)) (cut5 s2) (cut5 s0) w ho hi.1 hi.2.1 (by omega)), .v, .v, .o (ins := [((.tmp 73), .string (cut5 s2)), ((.tmp 74), .string (cut5 s1))]) (v := .string ((cut5 s2) ++ (cut5 s1))) (fun ρ o w ho hi => sadd_run (t := 9) (t' := 9) (x := (.tmp 73)) (y := (.tmp 74)) (cut5 s2) (cut5 s1) w ho hi.1 hi.2.1 (by omega)), .c (share_fn ((cut5 s2) ++ (cut5 s0)) ((cut5 s2) ++ (cut5 s1)) (by omega) (by omega)), .v, .v, .v, .e (v := .int .i64 (IntKind.i64.wrap (((ByteArray.size (cut5 s2) : Nat) : Int) + ((shr (tl (cut5 s0)) (tl (cut5 s1)) : Nat) : Int)))) (v' := .int .i64 (((ByteArray.size (cut5 s2)) + (shr (tl (cut5 s0)) (tl (cut5 s1))) : Nat) : Int)) (int_eq (wrapAdd_i64 (a := ByteArray.size (cut5 s2)) (b := shr (tl (cut5 s0)) (tl (cut5 s1))) (by omega))), .e (v := .bool (((shr (tl ((cut5 s2) ++ (cut5 s0))) (tl ((cut5 s2) ++ (cut5 s1))) : Nat) : Int) == (((ByteArray.size (cut5 s2)) + (shr (tl (cut5 s0)) (tl (cut5 s1))) : Nat) : Int))) (v' := .bool true) (bool_eq (beq_iff_eq.2 (by omega))), .v, .v] HK7 kr fun gs10 w10 H10 => ?_
      clear HK7
      refine g_ret kr ?_
      show ∃ vs, Res _ _ _ _ vs ∧ _
      refine ⟨[.bool true], (.tmp (.bool true) kr .nil), ?_, H10.below⟩
      rfl
    · skip
      refine dS [.v, .v, .v, .e (v := .bool (decide (((shr (tl (cut5 s0)) (tl (cut5 s1)) : Nat) : Int) < ((ByteArray.size (cut5 s0) : Nat) : Int)))) (v' := .bool false) (bool_eq (decide_eq_false (by omega))), .v, .n, .n, .n, .n, .v, .v, .n, .n, .n, .n, .n, .n, .n, .v, .v] HK1 kr fun w11 H11 => ?_
      clear HK1
      refine g_keep [0, 1, 2, 6, 7, 8, 37] fun ρ5 => ?_
      have HK8 := H11.keep
      clear H11
      refine rS [.c alive_fn, .v, .v, .v, .v, .v, .v, .v, .c (share_fn (cut5 s1) (cut5 s0) (by omega) (by omega)), .v, .e (v := .bool (((shr (tl (cut5 s1)) (tl (cut5 s0)) : Nat) : Int) == ((shr (tl (cut5 s0)) (tl (cut5 s1)) : Nat) : Int))) (v' := .bool true) (bool_eq (beq_iff_eq.2 (by omega))), .v, .v, .v, .v, .o (ins := [((.tmp 70), .string (cut5 s2)), ((.tmp 71), .string (cut5 s0))]) (v := .string ((cut5 s2) ++ (cut5 s0))) (fun ρ o w ho hi => sadd_run (t := 9) (t' := 9) (x := (.tmp 70)) (y := (.tmp 71)) (cut5 s2) (cut5 s0) w ho hi.1 hi.2.1 (by omega)), .v, .v, .o (ins := [((.tmp 73), .string (cut5 s2)), ((.tmp 74), .string (cut5 s1))]) (v := .string ((cut5 s2) ++ (cut5 s1))) (fun ρ o w ho hi => sadd_run (t := 9) (t' := 9) (x := (.tmp 73)) (y := (.tmp 74)) (cut5 s2) (cut5 s1) w ho hi.1 hi.2.1 (by omega)), .c (share_fn ((cut5 s2) ++ (cut5 s0)) ((cut5 s2) ++ (cut5 s1)) (by omega) (by omega)), .v, .v, .v, .e (v := .int .i64 (IntKind.i64.wrap (((ByteArray.size (cut5 s2) : Nat) : Int) + ((shr (tl (cut5 s0)) (tl (cut5 s1)) : Nat) : Int)))) (v' := .int .i64 (((ByteArray.size (cut5 s2)) + (shr (tl (cut5 s0)) (tl (cut5 s1))) : Nat) : Int)) (int_eq (wrapAdd_i64 (a := ByteArray.size (cut5 s2)) (b := shr (tl (cut5 s0)) (tl (cut5 s1))) (by omega))), .e (v := .bool (((shr (tl ((cut5 s2) ++ (cut5 s0))) (tl ((cut5 s2) ++ (cut5 s1))) : Nat) : Int) == (((ByteArray.size (cut5 s2)) + (shr (tl (cut5 s0)) (tl (cut5 s1))) : Nat) : Int))) (v' := .bool true) (bool_eq (beq_iff_eq.2 (by omega))), .v, .v] HK8 kr fun gs12 w12 H12 => ?_
      clear HK8
      refine g_ret kr ?_
      show ∃ vs, Res _ _ _ _ vs ∧ _
      refine ⟨[.bool true], (.tmp (.bool true) kr .nil), ?_, H12.below⟩
      rfl
theorem nibbleShared_at (s0 : ByteArray) (z0 : ByteArray.size s0 ≤ 9223372036854775807) (s1 : ByteArray) (z1 : ByteArray.size s1 ≤ 9223372036854775807) (s2 : ByteArray) (z2 : ByteArray.size s2 ≤ 9223372036854775807) : Fn Try.prog 6 #[.string s0, .string s1, .string s2] (.bool true) := nibbleShared_fn s0 s1 s2 z0 z1 z2
end Go.Proofs.Ytafamhkdklkfiaa
