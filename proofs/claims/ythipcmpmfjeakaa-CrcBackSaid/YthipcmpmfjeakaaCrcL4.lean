/-
  What the laws ask: no frames.
-/
import Derived.Test.YthipcmpmfjeakaaProg
import Derived.Test.YthipcmpmfjeakaaCrcF
import Derived.Test.YthipcmpmfjeakaaTxt
import Derived.Test.YthipcmpmfjeakaaCrcL3
namespace Go.Proofs.Ythipcmpmfjeakaa
open Go Go.RowKit Go.Proofs.Crc
set_option linter.unusedVariables false
set_option maxRecDepth 100000 in
set_option maxHeartbeats 2000000 in
theorem crcBack_fn0 (more : ByteArray) (ct : Int) : Fn Try.prog 5 #[.slice none 0 0, .string more, .int .i64 ct] (.bool true) := by
  refine Fn.intro (c := codeOf Try.f5) [.tmp 6] 110 Try.func5 (by kernel_rfl) (by kernel_rfl) (by kernel_rfl) fun w => ?_
  have H0 := St.start w
  refine g_sreg [0] (by kernel_rfl) (by kernel_rfl) ?_
  refine s_val (some 6) (.bool false) (fun w => by kernel_rfl) (by kernel_rfl) ?_
  refine s_nil ?_
  refine g_sreg [0, 1, 2, 3, 4, 5] (by kernel_rfl) (by kernel_rfl) ?_
  refine s_val (some 19) (.slice none 0 0) (fun w => by kernel_rfl) (by kernel_rfl) ?_
  refine s_val (some 20) (.slice none 0 0) (fun w => by kernel_rfl) (by kernel_rfl) ?_
  refine s_val (some 21) (.int .i64 0) (fun w => by kernel_rfl) (by kernel_rfl) ?_
  refine s_val (some 22) (.int .i64 0) (fun w => by kernel_rfl) (by kernel_rfl) ?_
  refine s_val (some 23) (.slice none 0 0) (fun w => by kernel_rfl) (by kernel_rfl) ?_
  refine s_val (some 0) (.slice none 0 0) (fun w => by kernel_rfl) (by kernel_rfl) ?_
  refine s_nil ?_
  refine g_sreg [0] (by kernel_rfl) (by kernel_rfl) ?_
  refine s_val (some 7) (.string (strB (flat []))) (fun w => by kernel_rfl) (by kernel_rfl) ?_
  refine s_nil ?_
  refine g_sreg [0] (by kernel_rfl) (by kernel_rfl) ?_
  refine s_val (some 8) (.slice none 0 0) (fun w => by kernel_rfl) (by kernel_rfl) ?_
  refine s_nil ?_
  refine g_seq (by kernel_rfl) ?_
  refine g_sreg [0, 1, 2] (by kernel_rfl) (by kernel_rfl) ?_
  refine s_val (some 24) (.slice none 0 0) (fun w => by kernel_rfl) (by kernel_rfl) ?_
  refine s_val (some 25) (.int .i64 0) (fun w => by kernel_rfl) (by kernel_rfl) ?_
  refine s_val (some 26) (.int .i64 0) (fun w => by kernel_rfl) (by kernel_rfl) ?_
  refine s_nil ?_
  refine g_block 0 (by kernel_rfl) ?_
  refine g_first (by kernel_rfl) ?_
  refine g_sreg [0] (by kernel_rfl) (by kernel_rfl) ?_
  refine s_val (some 27) (.bool false) (fun w => by kernel_rfl) (by kernel_rfl) ?_
  refine s_nil ?_
  refine g_seq (by kernel_rfl) ?_
  refine g_cond_f (by kernel_rfl) (by kernel_rfl) ?_
  refine g_exit 0 (by kernel_rfl) ?_
  show WP _ _ _ _ _ _
  refine g_sreg [0, 1, 2, 3, 4, 5, 6] (by kernel_rfl) (by kernel_rfl) ?_
  have hg0 : ByteArray.size (strB (flat [])) = 0 := rfl
  have hf0 : (flat []).length = 0 := rfl
  refine s_val (some 56) (.string (strB (flat []))) (fun w => by kernel_rfl) (by kernel_rfl) ?_
  refine s_callT H0 (some 57) 14 #[.string (strB (flat []))] (fun _ => True) 9 (fun rsZ pZ => Sc (tl (strB (flat []))) rsZ pZ) (scan_fn (strB (flat [])) (by omega)) trivial (by kernel_rfl) (by kernel_rfl) ?_ ?_
  · skip
    intro p_1 w1 H1 hs_2; clear H0
    obtain ⟨hl1, hp1⟩ := Sc.uniq hs_2 (sc_flat (X := strB (flat [])) (m := []) isR_nil (by rw [tl_strB, List.append_nil]) fst_nil)
    refine s_val (some 55) (.tuple #[.slice none 0 0, .int .i64 ((p_1 : Nat) : Int)]) (fun w => by kernel_rfl) (by kernel_rfl) ?_
    refine s_val (some 58) (.slice none 0 0) (fun w => by kernel_rfl) (by kernel_rfl) ?_
    refine s_val (some 59) (.int .i64 ((p_1 : Nat) : Int)) (fun w => by kernel_rfl) (by kernel_rfl) ?_
    refine s_val (some 13) (.slice none 0 0) (fun w => by kernel_rfl) (by kernel_rfl) ?_
    refine s_val (some 14) (.int .i64 ((p_1 : Nat) : Int)) (fun w => by kernel_rfl) (by kernel_rfl) ?_
    refine s_nil ?_
    refine g_seq (by kernel_rfl) ?_
    refine g_sreg [0, 1, 2, 3, 4, 5, 6, 7, 8, 9] (by kernel_rfl) (by kernel_rfl) ?_
    refine s_val (some 60) (.slice none 0 0) (fun w => by kernel_rfl) (by kernel_rfl) ?_
    refine s_val (some 61) (.slice none 0 0) (fun w => by kernel_rfl) (by kernel_rfl) ?_
    refine s_call H1 (some 62) 16 #[.slice none 0 0, .slice none 0 0] (.bool true) same_nn (fun w => by kernel_rfl) (by kernel_rfl) ?_
    intro w2 H2; clear H1
    refine s_val (some 63) (.bool false) (fun w => by kernel_rfl) (by kernel_rfl) ?_
    refine s_val (some 64) (.bool false) (fun w => by kernel_rfl) (by kernel_rfl) ?_
    refine s_val (some 65) (.int .i64 ((p_1 : Nat) : Int)) (fun w => by kernel_rfl) (by kernel_rfl) ?_
    refine s_val (some 66) (.string (strB (flat []))) (fun w => by kernel_rfl) (by kernel_rfl) ?_
    refine s_val (some 67) (.int .i64 ((ByteArray.size (strB (flat [])) : Nat) : Int)) (fun w => by kernel_rfl) (by kernel_rfl) ?_
    refine s_valE (some 68) (.bool (!(((p_1 : Nat) : Int) == ((ByteArray.size (strB (flat [])) : Nat) : Int)))) (.bool false) (fun w => by kernel_rfl) (bool_eq (by rw [beq_iff_eq.2 (by omega)]; rfl)) (by kernel_rfl) ?_
    refine s_val (some 69) (.bool false) (fun w => by kernel_rfl) (by kernel_rfl) ?_
    refine s_nil ?_
    refine g_cond_f (by kernel_rfl) (by kernel_rfl) ?_
    refine g_skip (by kernel_rfl) ?_
    show WP _ _ _ _ _ _
    refine g_sreg [0, 1, 2, 3, 4, 5, 6, 7, 8, 9, 10] (by kernel_rfl) (by kernel_rfl) ?_
    refine s_val (some 71) (.string more) (fun w => by kernel_rfl) (by kernel_rfl) ?_
    refine s_val (some 72) (.string more) (fun w => by kernel_rfl) (by kernel_rfl) ?_
    refine s_val (some 73) (.int .i64 ((ByteArray.size more : Nat) : Int)) (fun w => by kernel_rfl) (by kernel_rfl) ?_
    refine s_valE (some 74) (.int .i64 (if (300 : Int) < (((ByteArray.size more : Nat) : Int) : Int) then (300 : Int) else (((ByteArray.size more : Nat) : Int) : Int))) (.int .i64 ((min (ByteArray.size more) 300 : Nat) : Int)) (fun w => by kernel_rfl) (int_eq (minN (ByteArray.size more) 300)) (by kernel_rfl) ?_
    refine s_op (some 75) _ (.string (ByteArray.extract more 0 (min (ByteArray.size more) 300))) (by kernel_rfl) (by kernel_rfl) (fun o w ho => scut_run (t := 9) (kd := .i64) (by kernel_rfl) (x := (.tmp 71)) (y := (.tmp 74)) more (min (ByteArray.size more) 300) ho (by kernel_rfl) (by kernel_rfl) (by omega) w) ?_
    have hS300 : ByteArray.size (ByteArray.extract more 0 (min (ByteArray.size more) 300)) ≤ 300 := by rw [ext_size _ _ _ (Nat.min_le_left _ _)]; omega
    by_cases hx2 : 1 ≤ ByteArray.size (ByteArray.extract more 0 (min (ByteArray.size more) 300)) ∧ ByteArray.size (ByteArray.extract more 0 (min (ByteArray.size more) 300)) ≤ 4000
    · skip
      refine s_call H2 (some 76) 8 #[.string (ByteArray.extract more 0 (min (ByteArray.size more) 300))] (.tuple #[.string (strB (frB (tl (ByteArray.extract more 0 (min (ByteArray.size more) 300))))), .int .i64 0]) (frame_fn (ByteArray.extract more 0 (min (ByteArray.size more) 300)) (by omega)) (fun w => by kernel_rfl) (by kernel_rfl) ?_
      intro w3 H3; clear H2
      refine s_val (some 70) (.tuple #[.string (strB (frB (tl (ByteArray.extract more 0 (min (ByteArray.size more) 300))))), .int .i64 0]) (fun w => by kernel_rfl) (by kernel_rfl) ?_
      refine s_val (some 77) (.string (strB (frB (tl (ByteArray.extract more 0 (min (ByteArray.size more) 300)))))) (fun w => by kernel_rfl) (by kernel_rfl) ?_
      refine s_val (some 78) (.int .i64 0) (fun w => by kernel_rfl) (by kernel_rfl) ?_
      refine s_val (some 15) (.string (strB (frB (tl (ByteArray.extract more 0 (min (ByteArray.size more) 300)))))) (fun w => by kernel_rfl) (by kernel_rfl) ?_
      refine s_val (some 16) (.int .i64 0) (fun w => by kernel_rfl) (by kernel_rfl) ?_
      refine s_nil ?_
      refine g_seq (by kernel_rfl) ?_
      refine g_sreg [0, 1] (by kernel_rfl) (by kernel_rfl) ?_
      refine s_val (some 79) (.int .i64 0) (fun w => by kernel_rfl) (by kernel_rfl) ?_
      refine s_val (some 80) (.bool false) (fun w => by kernel_rfl) (by kernel_rfl) ?_
      refine s_nil ?_
      refine g_cond_f (by kernel_rfl) (by kernel_rfl) ?_
      refine g_skip (by kernel_rfl) ?_
      show WP _ _ _ _ _ _
      refine g_sreg [0, 1, 2, 3, 4, 5, 6, 7] (by kernel_rfl) (by kernel_rfl) ?_
      refine s_val (some 82) (.int .i64 ct) (fun w => by kernel_rfl) (by kernel_rfl) ?_
      refine s_valE (some 83) (.int .i64 (if (0 : Int) > (ct : Int) then (0 : Int) else (ct : Int))) (.int .i64 ((Int.toNat ct : Nat) : Int)) (fun w => by kernel_rfl) (int_eq (max0 ct)) (by kernel_rfl) ?_
      refine s_val (some 84) (.string (strB (frB (tl (ByteArray.extract more 0 (min (ByteArray.size more) 300)))))) (fun w => by kernel_rfl) (by kernel_rfl) ?_
      have hfz : ByteArray.size (strB (frB (tl (ByteArray.extract more 0 (min (ByteArray.size more) 300))))) = ByteArray.size (ByteArray.extract more 0 (min (ByteArray.size more) 300)) + 6 := by rw [frB_size, tl_len]
      refine s_val (some 85) (.int .i64 ((ByteArray.size (strB (frB (tl (ByteArray.extract more 0 (min (ByteArray.size more) 300))))) : Nat) : Int)) (fun w => by kernel_rfl) (by kernel_rfl) ?_
      refine s_valE (some 86) (.int .i64 (IntKind.i64.wrap (((ByteArray.size (strB (frB (tl (ByteArray.extract more 0 (min (ByteArray.size more) 300))))) : Nat) : Int) - 1))) (.int .i64 (((ByteArray.size (strB (frB (tl (ByteArray.extract more 0 (min (ByteArray.size more) 300)))))) - 1 : Nat) : Int)) (fun w => by kernel_rfl) (int_eq (wrapSub_i64 (a := ByteArray.size (strB (frB (tl (ByteArray.extract more 0 (min (ByteArray.size more) 300)))))) (b := 1) (by omega))) (by kernel_rfl) ?_
      refine s_valE (some 87) (.int .i64 (if (0 : Int) > ((((ByteArray.size (strB (frB (tl (ByteArray.extract more 0 (min (ByteArray.size more) 300)))))) - 1 : Nat) : Int) : Int) then (0 : Int) else ((((ByteArray.size (strB (frB (tl (ByteArray.extract more 0 (min (ByteArray.size more) 300)))))) - 1 : Nat) : Int) : Int))) (.int .i64 ((max ((ByteArray.size (strB (frB (tl (ByteArray.extract more 0 (min (ByteArray.size more) 300)))))) - 1) 0 : Nat) : Int)) (fun w => by kernel_rfl) (int_eq (maxN ((ByteArray.size (strB (frB (tl (ByteArray.extract more 0 (min (ByteArray.size more) 300)))))) - 1) 0)) (by kernel_rfl) ?_
      refine s_valE (some 88) (.int .i64 (if (((max ((ByteArray.size (strB (frB (tl (ByteArray.extract more 0 (min (ByteArray.size more) 300)))))) - 1) 0 : Nat) : Int) : Int) < (((Int.toNat ct : Nat) : Int) : Int) then (((max ((ByteArray.size (strB (frB (tl (ByteArray.extract more 0 (min (ByteArray.size more) 300)))))) - 1) 0 : Nat) : Int) : Int) else (((Int.toNat ct : Nat) : Int) : Int))) (.int .i64 ((min (Int.toNat ct) (max ((ByteArray.size (strB (frB (tl (ByteArray.extract more 0 (min (ByteArray.size more) 300)))))) - 1) 0) : Nat) : Int)) (fun w => by kernel_rfl) (int_eq (minN (Int.toNat ct) (max ((ByteArray.size (strB (frB (tl (ByteArray.extract more 0 (min (ByteArray.size more) 300)))))) - 1) 0))) (by kernel_rfl) ?_
      refine s_val (some 2) (.int .i64 ((min (Int.toNat ct) (max ((ByteArray.size (strB (frB (tl (ByteArray.extract more 0 (min (ByteArray.size more) 300)))))) - 1) 0) : Nat) : Int)) (fun w => by kernel_rfl) (by kernel_rfl) ?_
      refine s_nil ?_
      refine g_sreg [0, 1, 2, 3, 4, 5, 6, 7, 8, 9, 10] (by kernel_rfl) (by kernel_rfl) ?_
      refine s_val (some 90) (.string (strB (flat []))) (fun w => by kernel_rfl) (by kernel_rfl) ?_
      refine s_val (some 91) (.string (strB (frB (tl (ByteArray.extract more 0 (min (ByteArray.size more) 300)))))) (fun w => by kernel_rfl) (by kernel_rfl) ?_
      refine s_val (some 92) (.int .i64 ((min (Int.toNat ct) (max ((ByteArray.size (strB (frB (tl (ByteArray.extract more 0 (min (ByteArray.size more) 300)))))) - 1) 0) : Nat) : Int)) (fun w => by kernel_rfl) (by kernel_rfl) ?_
      refine s_op (some 93) _ (.string (ByteArray.extract (strB (frB (tl (ByteArray.extract more 0 (min (ByteArray.size more) 300))))) 0 (min (Int.toNat ct) (max ((ByteArray.size (strB (frB (tl (ByteArray.extract more 0 (min (ByteArray.size more) 300)))))) - 1) 0)))) (by kernel_rfl) (by kernel_rfl) (fun o w ho => scut_run (t := 9) (kd := .i64) (by kernel_rfl) (x := (.tmp 91)) (y := (.tmp 92)) (strB (frB (tl (ByteArray.extract more 0 (min (ByteArray.size more) 300))))) (min (Int.toNat ct) (max ((ByteArray.size (strB (frB (tl (ByteArray.extract more 0 (min (ByteArray.size more) 300)))))) - 1) 0)) ho (by kernel_rfl) (by kernel_rfl) (by omega) w) ?_
      have he3 : ByteArray.size (ByteArray.extract (strB (frB (tl (ByteArray.extract more 0 (min (ByteArray.size more) 300))))) 0 (min (Int.toNat ct) (max ((ByteArray.size (strB (frB (tl (ByteArray.extract more 0 (min (ByteArray.size more) 300)))))) - 1) 0))) = min (Int.toNat ct) (max ((ByteArray.size (strB (frB (tl (ByteArray.extract more 0 (min (ByteArray.size more) 300)))))) - 1) 0) := by rw [ext_size _ _ _ (by omega)]; omega
      have hs3 : ByteArray.size ((strB (flat [])) ++ (ByteArray.extract (strB (frB (tl (ByteArray.extract more 0 (min (ByteArray.size more) 300))))) 0 (min (Int.toNat ct) (max ((ByteArray.size (strB (frB (tl (ByteArray.extract more 0 (min (ByteArray.size more) 300)))))) - 1) 0)))) = ByteArray.size (strB (flat [])) + ByteArray.size (ByteArray.extract (strB (frB (tl (ByteArray.extract more 0 (min (ByteArray.size more) 300))))) 0 (min (Int.toNat ct) (max ((ByteArray.size (strB (frB (tl (ByteArray.extract more 0 (min (ByteArray.size more) 300)))))) - 1) 0))) := add_size _ _
      refine s_op (some 94) _ (.string ((strB (flat [])) ++ (ByteArray.extract (strB (frB (tl (ByteArray.extract more 0 (min (ByteArray.size more) 300))))) 0 (min (Int.toNat ct) (max ((ByteArray.size (strB (frB (tl (ByteArray.extract more 0 (min (ByteArray.size more) 300)))))) - 1) 0))))) (by kernel_rfl) (by kernel_rfl) (fun o w ho => sadd_run (t := 9) (t' := 9) (x := (.tmp 90)) (y := (.tmp 93)) (strB (flat [])) (ByteArray.extract (strB (frB (tl (ByteArray.extract more 0 (min (ByteArray.size more) 300))))) 0 (min (Int.toNat ct) (max ((ByteArray.size (strB (frB (tl (ByteArray.extract more 0 (min (ByteArray.size more) 300)))))) - 1) 0))) w ho (by kernel_rfl) (by kernel_rfl) (by omega)) ?_
      refine s_callT H3 (some 95) 14 #[.string ((strB (flat [])) ++ (ByteArray.extract (strB (frB (tl (ByteArray.extract more 0 (min (ByteArray.size more) 300))))) 0 (min (Int.toNat ct) (max ((ByteArray.size (strB (frB (tl (ByteArray.extract more 0 (min (ByteArray.size more) 300)))))) - 1) 0))))] (fun _ => True) 9 (fun rsZ pZ => Sc (tl ((strB (flat [])) ++ (ByteArray.extract (strB (frB (tl (ByteArray.extract more 0 (min (ByteArray.size more) 300))))) 0 (min (Int.toNat ct) (max ((ByteArray.size (strB (frB (tl (ByteArray.extract more 0 (min (ByteArray.size more) 300)))))) - 1) 0))))) rsZ pZ) (scan_fn ((strB (flat [])) ++ (ByteArray.extract (strB (frB (tl (ByteArray.extract more 0 (min (ByteArray.size more) 300))))) 0 (min (Int.toNat ct) (max ((ByteArray.size (strB (frB (tl (ByteArray.extract more 0 (min (ByteArray.size more) 300)))))) - 1) 0)))) (by omega)) trivial (by kernel_rfl) (by kernel_rfl) ?_ ?_
      · skip
        intro p_3 w4 H4 hs_4; clear H3
        obtain ⟨hl4, hp4⟩ := Sc.uniq hs_4 (sc_flat (X := ((strB (flat [])) ++ (ByteArray.extract (strB (frB (tl (ByteArray.extract more 0 (min (ByteArray.size more) 300))))) 0 (min (Int.toNat ct) (max ((ByteArray.size (strB (frB (tl (ByteArray.extract more 0 (min (ByteArray.size more) 300)))))) - 1) 0))))) (m := (frB (tl (ByteArray.extract more 0 (min (ByteArray.size more) 300)))).take (min (Int.toNat ct) (max ((ByteArray.size (strB (frB (tl (ByteArray.extract more 0 (min (ByteArray.size more) 300)))))) - 1) 0))) isR_nil (by rw [tl_add, tl_strB, tl_extract, tl_strB, List.drop_zero]) (fst_cut (tl (ByteArray.extract more 0 (min (ByteArray.size more) 300))) (isR_of (by omega)) (min (Int.toNat ct) (max ((ByteArray.size (strB (frB (tl (ByteArray.extract more 0 (min (ByteArray.size more) 300)))))) - 1) 0)) (by rw [frB_len, tl_len]; omega)))
        refine s_val (some 89) (.tuple #[.slice none 0 0, .int .i64 ((p_3 : Nat) : Int)]) (fun w => by kernel_rfl) (by kernel_rfl) ?_
        refine s_val (some 96) (.slice none 0 0) (fun w => by kernel_rfl) (by kernel_rfl) ?_
        refine s_val (some 97) (.int .i64 ((p_3 : Nat) : Int)) (fun w => by kernel_rfl) (by kernel_rfl) ?_
        refine s_val (some 17) (.slice none 0 0) (fun w => by kernel_rfl) (by kernel_rfl) ?_
        refine s_val (some 18) (.int .i64 ((p_3 : Nat) : Int)) (fun w => by kernel_rfl) (by kernel_rfl) ?_
        refine s_nil ?_
        refine g_sreg [0, 1, 2, 3, 4, 5, 6, 7, 8, 9, 10, 11, 12] (by kernel_rfl) (by kernel_rfl) ?_
        refine s_call H4 (some 98) 11 #[] (.bool true) alive_fn (fun w => by kernel_rfl) (by kernel_rfl) ?_
        intro w5 H5; clear H4
        refine s_val (some 99) (.bool true) (fun w => by kernel_rfl) (by kernel_rfl) ?_
        refine s_val (some 100) (.slice none 0 0) (fun w => by kernel_rfl) (by kernel_rfl) ?_
        refine s_val (some 101) (.slice none 0 0) (fun w => by kernel_rfl) (by kernel_rfl) ?_
        refine s_call H5 (some 102) 16 #[.slice none 0 0, .slice none 0 0] (.bool true) same_nn (fun w => by kernel_rfl) (by kernel_rfl) ?_
        intro w6 H6; clear H5
        refine s_val (some 103) (.bool true) (fun w => by kernel_rfl) (by kernel_rfl) ?_
        refine s_val (some 104) (.bool true) (fun w => by kernel_rfl) (by kernel_rfl) ?_
        refine s_val (some 105) (.int .i64 ((p_3 : Nat) : Int)) (fun w => by kernel_rfl) (by kernel_rfl) ?_
        refine s_val (some 106) (.string (strB (flat []))) (fun w => by kernel_rfl) (by kernel_rfl) ?_
        refine s_val (some 107) (.int .i64 ((ByteArray.size (strB (flat [])) : Nat) : Int)) (fun w => by kernel_rfl) (by kernel_rfl) ?_
        refine s_valE (some 108) (.bool (((p_3 : Nat) : Int) == ((ByteArray.size (strB (flat [])) : Nat) : Int))) (.bool true) (fun w => by kernel_rfl) (bool_eq (beq_iff_eq.2 (by omega))) (by kernel_rfl) ?_
        refine s_val (some 109) (.bool true) (fun w => by kernel_rfl) (by kernel_rfl) ?_
        refine s_val (some 6) (.bool true) (fun w => by kernel_rfl) (by kernel_rfl) ?_
        refine s_nil ?_
        refine g_ret (by kernel_rfl) ?_
        show ∃ vs, Res _ _ _ _ vs ∧ _
        refine ⟨[.bool true], (.tmp (.bool true) (by kernel_rfl) .nil), ?_, H6.below⟩
        rfl
      · skip
        intro b_5 cap_6 n_7 cur_8 rs_9 p_10 w7 H7 hs_11 hn_12 hr_13; clear H3
        obtain ⟨hl5, hp5⟩ := Sc.uniq hs_11 (sc_flat (X := ((strB (flat [])) ++ (ByteArray.extract (strB (frB (tl (ByteArray.extract more 0 (min (ByteArray.size more) 300))))) 0 (min (Int.toNat ct) (max ((ByteArray.size (strB (frB (tl (ByteArray.extract more 0 (min (ByteArray.size more) 300)))))) - 1) 0))))) (m := (frB (tl (ByteArray.extract more 0 (min (ByteArray.size more) 300)))).take (min (Int.toNat ct) (max ((ByteArray.size (strB (frB (tl (ByteArray.extract more 0 (min (ByteArray.size more) 300)))))) - 1) 0))) isR_nil (by rw [tl_add, tl_strB, tl_extract, tl_strB, List.drop_zero]) (fst_cut (tl (ByteArray.extract more 0 (min (ByteArray.size more) 300))) (isR_of (by omega)) (min (Int.toNat ct) (max ((ByteArray.size (strB (frB (tl (ByteArray.extract more 0 (min (ByteArray.size more) 300)))))) - 1) 0)) (by rw [frB_len, tl_len]; omega)))
        have hz5 := congrArg List.length hl5; simp only [List.length_nil] at hz5
        refine s_val (some 89) (.tuple #[.slice (some ⟨b_5, 0, none⟩) n_7 cap_6, .int .i64 ((p_10 : Nat) : Int)]) (fun w => by kernel_rfl) (by kernel_rfl) ?_
        refine s_val (some 96) (.slice (some ⟨b_5, 0, none⟩) n_7 cap_6) (fun w => by kernel_rfl) (by kernel_rfl) ?_
        refine s_val (some 97) (.int .i64 ((p_10 : Nat) : Int)) (fun w => by kernel_rfl) (by kernel_rfl) ?_
        refine s_val (some 17) (.slice (some ⟨b_5, 0, none⟩) n_7 cap_6) (fun w => by kernel_rfl) (by kernel_rfl) ?_
        refine s_val (some 18) (.int .i64 ((p_10 : Nat) : Int)) (fun w => by kernel_rfl) (by kernel_rfl) ?_
        refine s_nil ?_
        refine g_sreg [0, 1, 2, 3, 4, 5, 6, 7, 8, 9, 10, 11, 12] (by kernel_rfl) (by kernel_rfl) ?_
        refine s_call H7 (some 98) 11 #[] (.bool true) alive_fn (fun w => by kernel_rfl) (by kernel_rfl) ?_
        intro w8 H8; clear H7
        refine s_val (some 99) (.bool true) (fun w => by kernel_rfl) (by kernel_rfl) ?_
        refine s_val (some 100) (.slice (some ⟨b_5, 0, none⟩) n_7 cap_6) (fun w => by kernel_rfl) (by kernel_rfl) ?_
        refine s_val (some 101) (.slice none 0 0) (fun w => by kernel_rfl) (by kernel_rfl) ?_
        refine s_callP H8 (some 102) 16 #[.slice (some ⟨b_5, 0, none⟩) n_7 cap_6, .slice none 0 0] (fun _ => True) (.bool true) (same_bn n_7 b_5 cap_6 (by omega)) trivial (fun w => by kernel_rfl) (by kernel_rfl) ?_
        intro w9 H9; clear H8
        refine s_val (some 103) (.bool true) (fun w => by kernel_rfl) (by kernel_rfl) ?_
        refine s_val (some 104) (.bool true) (fun w => by kernel_rfl) (by kernel_rfl) ?_
        refine s_val (some 105) (.int .i64 ((p_10 : Nat) : Int)) (fun w => by kernel_rfl) (by kernel_rfl) ?_
        refine s_val (some 106) (.string (strB (flat []))) (fun w => by kernel_rfl) (by kernel_rfl) ?_
        refine s_val (some 107) (.int .i64 ((ByteArray.size (strB (flat [])) : Nat) : Int)) (fun w => by kernel_rfl) (by kernel_rfl) ?_
        refine s_valE (some 108) (.bool (((p_10 : Nat) : Int) == ((ByteArray.size (strB (flat [])) : Nat) : Int))) (.bool true) (fun w => by kernel_rfl) (bool_eq (beq_iff_eq.2 (by omega))) (by kernel_rfl) ?_
        refine s_val (some 109) (.bool true) (fun w => by kernel_rfl) (by kernel_rfl) ?_
        refine s_val (some 6) (.bool true) (fun w => by kernel_rfl) (by kernel_rfl) ?_
        refine s_nil ?_
        refine g_ret (by kernel_rfl) ?_
        show ∃ vs, Res _ _ _ _ vs ∧ _
        refine ⟨[.bool true], (.tmp (.bool true) (by kernel_rfl) .nil), ?_, H9.below⟩
        rfl
    · skip
      refine s_call H2 (some 76) 8 #[.string (ByteArray.extract more 0 (min (ByteArray.size more) 300))] (.tuple #[.string (⟨#[]⟩), .int .i64 1]) (frameNo_fn (ByteArray.extract more 0 (min (ByteArray.size more) 300)) (by omega)) (fun w => by kernel_rfl) (by kernel_rfl) ?_
      intro w10 H10; clear H2
      refine s_val (some 70) (.tuple #[.string (⟨#[]⟩), .int .i64 1]) (fun w => by kernel_rfl) (by kernel_rfl) ?_
      refine s_val (some 77) (.string (⟨#[]⟩)) (fun w => by kernel_rfl) (by kernel_rfl) ?_
      refine s_val (some 78) (.int .i64 1) (fun w => by kernel_rfl) (by kernel_rfl) ?_
      refine s_val (some 15) (.string (⟨#[]⟩)) (fun w => by kernel_rfl) (by kernel_rfl) ?_
      refine s_val (some 16) (.int .i64 1) (fun w => by kernel_rfl) (by kernel_rfl) ?_
      refine s_nil ?_
      refine g_seq (by kernel_rfl) ?_
      refine g_sreg [0, 1] (by kernel_rfl) (by kernel_rfl) ?_
      refine s_val (some 79) (.int .i64 1) (fun w => by kernel_rfl) (by kernel_rfl) ?_
      refine s_val (some 80) (.bool true) (fun w => by kernel_rfl) (by kernel_rfl) ?_
      refine s_nil ?_
      refine g_cond_t (by kernel_rfl) (by kernel_rfl) ?_
      refine g_sreg [0, 1] (by kernel_rfl) (by kernel_rfl) ?_
      refine s_call H10 (some 81) 11 #[] (.bool true) alive_fn (fun w => by kernel_rfl) (by kernel_rfl) ?_
      intro w11 H11; clear H10
      refine s_val (some 6) (.bool true) (fun w => by kernel_rfl) (by kernel_rfl) ?_
      refine s_nil ?_
      refine g_ret (by kernel_rfl) ?_
      show ∃ vs, Res _ _ _ _ vs ∧ _
      refine ⟨[.bool true], (.tmp (.bool true) (by kernel_rfl) .nil), ?_, H11.below⟩
      rfl
  · skip
    intro b_14 cap_15 n_16 cur_17 rs_18 p_19 w12 H12 hs_20 hn_21 hr_22; clear H0
    obtain ⟨hl6, hp6⟩ := Sc.uniq hs_20 (sc_flat (X := strB (flat [])) (m := []) isR_nil (by rw [tl_strB, List.append_nil]) fst_nil)
    have hz6 := congrArg List.length hl6; simp only [List.length_nil] at hz6
    refine s_val (some 55) (.tuple #[.slice (some ⟨b_14, 0, none⟩) n_16 cap_15, .int .i64 ((p_19 : Nat) : Int)]) (fun w => by kernel_rfl) (by kernel_rfl) ?_
    refine s_val (some 58) (.slice (some ⟨b_14, 0, none⟩) n_16 cap_15) (fun w => by kernel_rfl) (by kernel_rfl) ?_
    refine s_val (some 59) (.int .i64 ((p_19 : Nat) : Int)) (fun w => by kernel_rfl) (by kernel_rfl) ?_
    refine s_val (some 13) (.slice (some ⟨b_14, 0, none⟩) n_16 cap_15) (fun w => by kernel_rfl) (by kernel_rfl) ?_
    refine s_val (some 14) (.int .i64 ((p_19 : Nat) : Int)) (fun w => by kernel_rfl) (by kernel_rfl) ?_
    refine s_nil ?_
    refine g_seq (by kernel_rfl) ?_
    refine g_sreg [0, 1, 2, 3, 4, 5, 6, 7, 8, 9] (by kernel_rfl) (by kernel_rfl) ?_
    refine s_val (some 60) (.slice (some ⟨b_14, 0, none⟩) n_16 cap_15) (fun w => by kernel_rfl) (by kernel_rfl) ?_
    refine s_val (some 61) (.slice none 0 0) (fun w => by kernel_rfl) (by kernel_rfl) ?_
    refine s_callP H12 (some 62) 16 #[.slice (some ⟨b_14, 0, none⟩) n_16 cap_15, .slice none 0 0] (fun _ => True) (.bool true) (same_bn n_16 b_14 cap_15 (by omega)) trivial (fun w => by kernel_rfl) (by kernel_rfl) ?_
    intro w13 H13; clear H12
    refine s_val (some 63) (.bool false) (fun w => by kernel_rfl) (by kernel_rfl) ?_
    refine s_val (some 64) (.bool false) (fun w => by kernel_rfl) (by kernel_rfl) ?_
    refine s_val (some 65) (.int .i64 ((p_19 : Nat) : Int)) (fun w => by kernel_rfl) (by kernel_rfl) ?_
    refine s_val (some 66) (.string (strB (flat []))) (fun w => by kernel_rfl) (by kernel_rfl) ?_
    refine s_val (some 67) (.int .i64 ((ByteArray.size (strB (flat [])) : Nat) : Int)) (fun w => by kernel_rfl) (by kernel_rfl) ?_
    refine s_valE (some 68) (.bool (!(((p_19 : Nat) : Int) == ((ByteArray.size (strB (flat [])) : Nat) : Int)))) (.bool false) (fun w => by kernel_rfl) (bool_eq (by rw [beq_iff_eq.2 (by omega)]; rfl)) (by kernel_rfl) ?_
    refine s_val (some 69) (.bool false) (fun w => by kernel_rfl) (by kernel_rfl) ?_
    refine s_nil ?_
    refine g_cond_f (by kernel_rfl) (by kernel_rfl) ?_
    refine g_skip (by kernel_rfl) ?_
    show WP _ _ _ _ _ _
    refine g_sreg [0, 1, 2, 3, 4, 5, 6, 7, 8, 9, 10] (by kernel_rfl) (by kernel_rfl) ?_
    refine s_val (some 71) (.string more) (fun w => by kernel_rfl) (by kernel_rfl) ?_
    refine s_val (some 72) (.string more) (fun w => by kernel_rfl) (by kernel_rfl) ?_
    refine s_val (some 73) (.int .i64 ((ByteArray.size more : Nat) : Int)) (fun w => by kernel_rfl) (by kernel_rfl) ?_
    refine s_valE (some 74) (.int .i64 (if (300 : Int) < (((ByteArray.size more : Nat) : Int) : Int) then (300 : Int) else (((ByteArray.size more : Nat) : Int) : Int))) (.int .i64 ((min (ByteArray.size more) 300 : Nat) : Int)) (fun w => by kernel_rfl) (int_eq (minN (ByteArray.size more) 300)) (by kernel_rfl) ?_
    refine s_op (some 75) _ (.string (ByteArray.extract more 0 (min (ByteArray.size more) 300))) (by kernel_rfl) (by kernel_rfl) (fun o w ho => scut_run (t := 9) (kd := .i64) (by kernel_rfl) (x := (.tmp 71)) (y := (.tmp 74)) more (min (ByteArray.size more) 300) ho (by kernel_rfl) (by kernel_rfl) (by omega) w) ?_
    have hS300 : ByteArray.size (ByteArray.extract more 0 (min (ByteArray.size more) 300)) ≤ 300 := by rw [ext_size _ _ _ (Nat.min_le_left _ _)]; omega
    by_cases hx7 : 1 ≤ ByteArray.size (ByteArray.extract more 0 (min (ByteArray.size more) 300)) ∧ ByteArray.size (ByteArray.extract more 0 (min (ByteArray.size more) 300)) ≤ 4000
    · skip
      refine s_call H13 (some 76) 8 #[.string (ByteArray.extract more 0 (min (ByteArray.size more) 300))] (.tuple #[.string (strB (frB (tl (ByteArray.extract more 0 (min (ByteArray.size more) 300))))), .int .i64 0]) (frame_fn (ByteArray.extract more 0 (min (ByteArray.size more) 300)) (by omega)) (fun w => by kernel_rfl) (by kernel_rfl) ?_
      intro w14 H14; clear H13
      refine s_val (some 70) (.tuple #[.string (strB (frB (tl (ByteArray.extract more 0 (min (ByteArray.size more) 300))))), .int .i64 0]) (fun w => by kernel_rfl) (by kernel_rfl) ?_
      refine s_val (some 77) (.string (strB (frB (tl (ByteArray.extract more 0 (min (ByteArray.size more) 300)))))) (fun w => by kernel_rfl) (by kernel_rfl) ?_
      refine s_val (some 78) (.int .i64 0) (fun w => by kernel_rfl) (by kernel_rfl) ?_
      refine s_val (some 15) (.string (strB (frB (tl (ByteArray.extract more 0 (min (ByteArray.size more) 300)))))) (fun w => by kernel_rfl) (by kernel_rfl) ?_
      refine s_val (some 16) (.int .i64 0) (fun w => by kernel_rfl) (by kernel_rfl) ?_
      refine s_nil ?_
      refine g_seq (by kernel_rfl) ?_
      refine g_sreg [0, 1] (by kernel_rfl) (by kernel_rfl) ?_
      refine s_val (some 79) (.int .i64 0) (fun w => by kernel_rfl) (by kernel_rfl) ?_
      refine s_val (some 80) (.bool false) (fun w => by kernel_rfl) (by kernel_rfl) ?_
      refine s_nil ?_
      refine g_cond_f (by kernel_rfl) (by kernel_rfl) ?_
      refine g_skip (by kernel_rfl) ?_
      show WP _ _ _ _ _ _
      refine g_sreg [0, 1, 2, 3, 4, 5, 6, 7] (by kernel_rfl) (by kernel_rfl) ?_
      refine s_val (some 82) (.int .i64 ct) (fun w => by kernel_rfl) (by kernel_rfl) ?_
      refine s_valE (some 83) (.int .i64 (if (0 : Int) > (ct : Int) then (0 : Int) else (ct : Int))) (.int .i64 ((Int.toNat ct : Nat) : Int)) (fun w => by kernel_rfl) (int_eq (max0 ct)) (by kernel_rfl) ?_
      refine s_val (some 84) (.string (strB (frB (tl (ByteArray.extract more 0 (min (ByteArray.size more) 300)))))) (fun w => by kernel_rfl) (by kernel_rfl) ?_
      have hfz : ByteArray.size (strB (frB (tl (ByteArray.extract more 0 (min (ByteArray.size more) 300))))) = ByteArray.size (ByteArray.extract more 0 (min (ByteArray.size more) 300)) + 6 := by rw [frB_size, tl_len]
      refine s_val (some 85) (.int .i64 ((ByteArray.size (strB (frB (tl (ByteArray.extract more 0 (min (ByteArray.size more) 300))))) : Nat) : Int)) (fun w => by kernel_rfl) (by kernel_rfl) ?_
      refine s_valE (some 86) (.int .i64 (IntKind.i64.wrap (((ByteArray.size (strB (frB (tl (ByteArray.extract more 0 (min (ByteArray.size more) 300))))) : Nat) : Int) - 1))) (.int .i64 (((ByteArray.size (strB (frB (tl (ByteArray.extract more 0 (min (ByteArray.size more) 300)))))) - 1 : Nat) : Int)) (fun w => by kernel_rfl) (int_eq (wrapSub_i64 (a := ByteArray.size (strB (frB (tl (ByteArray.extract more 0 (min (ByteArray.size more) 300)))))) (b := 1) (by omega))) (by kernel_rfl) ?_
      refine s_valE (some 87) (.int .i64 (if (0 : Int) > ((((ByteArray.size (strB (frB (tl (ByteArray.extract more 0 (min (ByteArray.size more) 300)))))) - 1 : Nat) : Int) : Int) then (0 : Int) else ((((ByteArray.size (strB (frB (tl (ByteArray.extract more 0 (min (ByteArray.size more) 300)))))) - 1 : Nat) : Int) : Int))) (.int .i64 ((max ((ByteArray.size (strB (frB (tl (ByteArray.extract more 0 (min (ByteArray.size more) 300)))))) - 1) 0 : Nat) : Int)) (fun w => by kernel_rfl) (int_eq (maxN ((ByteArray.size (strB (frB (tl (ByteArray.extract more 0 (min (ByteArray.size more) 300)))))) - 1) 0)) (by kernel_rfl) ?_
      refine s_valE (some 88) (.int .i64 (if (((max ((ByteArray.size (strB (frB (tl (ByteArray.extract more 0 (min (ByteArray.size more) 300)))))) - 1) 0 : Nat) : Int) : Int) < (((Int.toNat ct : Nat) : Int) : Int) then (((max ((ByteArray.size (strB (frB (tl (ByteArray.extract more 0 (min (ByteArray.size more) 300)))))) - 1) 0 : Nat) : Int) : Int) else (((Int.toNat ct : Nat) : Int) : Int))) (.int .i64 ((min (Int.toNat ct) (max ((ByteArray.size (strB (frB (tl (ByteArray.extract more 0 (min (ByteArray.size more) 300)))))) - 1) 0) : Nat) : Int)) (fun w => by kernel_rfl) (int_eq (minN (Int.toNat ct) (max ((ByteArray.size (strB (frB (tl (ByteArray.extract more 0 (min (ByteArray.size more) 300)))))) - 1) 0))) (by kernel_rfl) ?_
      refine s_val (some 2) (.int .i64 ((min (Int.toNat ct) (max ((ByteArray.size (strB (frB (tl (ByteArray.extract more 0 (min (ByteArray.size more) 300)))))) - 1) 0) : Nat) : Int)) (fun w => by kernel_rfl) (by kernel_rfl) ?_
      refine s_nil ?_
      refine g_sreg [0, 1, 2, 3, 4, 5, 6, 7, 8, 9, 10] (by kernel_rfl) (by kernel_rfl) ?_
      refine s_val (some 90) (.string (strB (flat []))) (fun w => by kernel_rfl) (by kernel_rfl) ?_
      refine s_val (some 91) (.string (strB (frB (tl (ByteArray.extract more 0 (min (ByteArray.size more) 300)))))) (fun w => by kernel_rfl) (by kernel_rfl) ?_
      refine s_val (some 92) (.int .i64 ((min (Int.toNat ct) (max ((ByteArray.size (strB (frB (tl (ByteArray.extract more 0 (min (ByteArray.size more) 300)))))) - 1) 0) : Nat) : Int)) (fun w => by kernel_rfl) (by kernel_rfl) ?_
      refine s_op (some 93) _ (.string (ByteArray.extract (strB (frB (tl (ByteArray.extract more 0 (min (ByteArray.size more) 300))))) 0 (min (Int.toNat ct) (max ((ByteArray.size (strB (frB (tl (ByteArray.extract more 0 (min (ByteArray.size more) 300)))))) - 1) 0)))) (by kernel_rfl) (by kernel_rfl) (fun o w ho => scut_run (t := 9) (kd := .i64) (by kernel_rfl) (x := (.tmp 91)) (y := (.tmp 92)) (strB (frB (tl (ByteArray.extract more 0 (min (ByteArray.size more) 300))))) (min (Int.toNat ct) (max ((ByteArray.size (strB (frB (tl (ByteArray.extract more 0 (min (ByteArray.size more) 300)))))) - 1) 0)) ho (by kernel_rfl) (by kernel_rfl) (by omega) w) ?_
      have he8 : ByteArray.size (ByteArray.extract (strB (frB (tl (ByteArray.extract more 0 (min (ByteArray.size more) 300))))) 0 (min (Int.toNat ct) (max ((ByteArray.size (strB (frB (tl (ByteArray.extract more 0 (min (ByteArray.size more) 300)))))) - 1) 0))) = min (Int.toNat ct) (max ((ByteArray.size (strB (frB (tl (ByteArray.extract more 0 (min (ByteArray.size more) 300)))))) - 1) 0) := by rw [ext_size _ _ _ (by omega)]; omega
      have hs8 : ByteArray.size ((strB (flat [])) ++ (ByteArray.extract (strB (frB (tl (ByteArray.extract more 0 (min (ByteArray.size more) 300))))) 0 (min (Int.toNat ct) (max ((ByteArray.size (strB (frB (tl (ByteArray.extract more 0 (min (ByteArray.size more) 300)))))) - 1) 0)))) = ByteArray.size (strB (flat [])) + ByteArray.size (ByteArray.extract (strB (frB (tl (ByteArray.extract more 0 (min (ByteArray.size more) 300))))) 0 (min (Int.toNat ct) (max ((ByteArray.size (strB (frB (tl (ByteArray.extract more 0 (min (ByteArray.size more) 300)))))) - 1) 0))) := add_size _ _
      refine s_op (some 94) _ (.string ((strB (flat [])) ++ (ByteArray.extract (strB (frB (tl (ByteArray.extract more 0 (min (ByteArray.size more) 300))))) 0 (min (Int.toNat ct) (max ((ByteArray.size (strB (frB (tl (ByteArray.extract more 0 (min (ByteArray.size more) 300)))))) - 1) 0))))) (by kernel_rfl) (by kernel_rfl) (fun o w ho => sadd_run (t := 9) (t' := 9) (x := (.tmp 90)) (y := (.tmp 93)) (strB (flat [])) (ByteArray.extract (strB (frB (tl (ByteArray.extract more 0 (min (ByteArray.size more) 300))))) 0 (min (Int.toNat ct) (max ((ByteArray.size (strB (frB (tl (ByteArray.extract more 0 (min (ByteArray.size more) 300)))))) - 1) 0))) w ho (by kernel_rfl) (by kernel_rfl) (by omega)) ?_
      refine s_callT H14 (some 95) 14 #[.string ((strB (flat [])) ++ (ByteArray.extract (strB (frB (tl (ByteArray.extract more 0 (min (ByteArray.size more) 300))))) 0 (min (Int.toNat ct) (max ((ByteArray.size (strB (frB (tl (ByteArray.extract more 0 (min (ByteArray.size more) 300)))))) - 1) 0))))] (fun _ => True) 9 (fun rsZ pZ => Sc (tl ((strB (flat [])) ++ (ByteArray.extract (strB (frB (tl (ByteArray.extract more 0 (min (ByteArray.size more) 300))))) 0 (min (Int.toNat ct) (max ((ByteArray.size (strB (frB (tl (ByteArray.extract more 0 (min (ByteArray.size more) 300)))))) - 1) 0))))) rsZ pZ) (scan_fn ((strB (flat [])) ++ (ByteArray.extract (strB (frB (tl (ByteArray.extract more 0 (min (ByteArray.size more) 300))))) 0 (min (Int.toNat ct) (max ((ByteArray.size (strB (frB (tl (ByteArray.extract more 0 (min (ByteArray.size more) 300)))))) - 1) 0)))) (by omega)) trivial (by kernel_rfl) (by kernel_rfl) ?_ ?_
      · skip
        intro p_23 w15 H15 hs_24; clear H14
        obtain ⟨hl9, hp9⟩ := Sc.uniq hs_24 (sc_flat (X := ((strB (flat [])) ++ (ByteArray.extract (strB (frB (tl (ByteArray.extract more 0 (min (ByteArray.size more) 300))))) 0 (min (Int.toNat ct) (max ((ByteArray.size (strB (frB (tl (ByteArray.extract more 0 (min (ByteArray.size more) 300)))))) - 1) 0))))) (m := (frB (tl (ByteArray.extract more 0 (min (ByteArray.size more) 300)))).take (min (Int.toNat ct) (max ((ByteArray.size (strB (frB (tl (ByteArray.extract more 0 (min (ByteArray.size more) 300)))))) - 1) 0))) isR_nil (by rw [tl_add, tl_strB, tl_extract, tl_strB, List.drop_zero]) (fst_cut (tl (ByteArray.extract more 0 (min (ByteArray.size more) 300))) (isR_of (by omega)) (min (Int.toNat ct) (max ((ByteArray.size (strB (frB (tl (ByteArray.extract more 0 (min (ByteArray.size more) 300)))))) - 1) 0)) (by rw [frB_len, tl_len]; omega)))
        refine s_val (some 89) (.tuple #[.slice none 0 0, .int .i64 ((p_23 : Nat) : Int)]) (fun w => by kernel_rfl) (by kernel_rfl) ?_
        refine s_val (some 96) (.slice none 0 0) (fun w => by kernel_rfl) (by kernel_rfl) ?_
        refine s_val (some 97) (.int .i64 ((p_23 : Nat) : Int)) (fun w => by kernel_rfl) (by kernel_rfl) ?_
        refine s_val (some 17) (.slice none 0 0) (fun w => by kernel_rfl) (by kernel_rfl) ?_
        refine s_val (some 18) (.int .i64 ((p_23 : Nat) : Int)) (fun w => by kernel_rfl) (by kernel_rfl) ?_
        refine s_nil ?_
        refine g_sreg [0, 1, 2, 3, 4, 5, 6, 7, 8, 9, 10, 11, 12] (by kernel_rfl) (by kernel_rfl) ?_
        refine s_call H15 (some 98) 11 #[] (.bool true) alive_fn (fun w => by kernel_rfl) (by kernel_rfl) ?_
        intro w16 H16; clear H15
        refine s_val (some 99) (.bool true) (fun w => by kernel_rfl) (by kernel_rfl) ?_
        refine s_val (some 100) (.slice none 0 0) (fun w => by kernel_rfl) (by kernel_rfl) ?_
        refine s_val (some 101) (.slice none 0 0) (fun w => by kernel_rfl) (by kernel_rfl) ?_
        refine s_call H16 (some 102) 16 #[.slice none 0 0, .slice none 0 0] (.bool true) same_nn (fun w => by kernel_rfl) (by kernel_rfl) ?_
        intro w17 H17; clear H16
        refine s_val (some 103) (.bool true) (fun w => by kernel_rfl) (by kernel_rfl) ?_
        refine s_val (some 104) (.bool true) (fun w => by kernel_rfl) (by kernel_rfl) ?_
        refine s_val (some 105) (.int .i64 ((p_23 : Nat) : Int)) (fun w => by kernel_rfl) (by kernel_rfl) ?_
        refine s_val (some 106) (.string (strB (flat []))) (fun w => by kernel_rfl) (by kernel_rfl) ?_
        refine s_val (some 107) (.int .i64 ((ByteArray.size (strB (flat [])) : Nat) : Int)) (fun w => by kernel_rfl) (by kernel_rfl) ?_
        refine s_valE (some 108) (.bool (((p_23 : Nat) : Int) == ((ByteArray.size (strB (flat [])) : Nat) : Int))) (.bool true) (fun w => by kernel_rfl) (bool_eq (beq_iff_eq.2 (by omega))) (by kernel_rfl) ?_
        refine s_val (some 109) (.bool true) (fun w => by kernel_rfl) (by kernel_rfl) ?_
        refine s_val (some 6) (.bool true) (fun w => by kernel_rfl) (by kernel_rfl) ?_
        refine s_nil ?_
        refine g_ret (by kernel_rfl) ?_
        show ∃ vs, Res _ _ _ _ vs ∧ _
        refine ⟨[.bool true], (.tmp (.bool true) (by kernel_rfl) .nil), ?_, H17.below⟩
        rfl
      · skip
        intro b_25 cap_26 n_27 cur_28 rs_29 p_30 w18 H18 hs_31 hn_32 hr_33; clear H14
        obtain ⟨hl10, hp10⟩ := Sc.uniq hs_31 (sc_flat (X := ((strB (flat [])) ++ (ByteArray.extract (strB (frB (tl (ByteArray.extract more 0 (min (ByteArray.size more) 300))))) 0 (min (Int.toNat ct) (max ((ByteArray.size (strB (frB (tl (ByteArray.extract more 0 (min (ByteArray.size more) 300)))))) - 1) 0))))) (m := (frB (tl (ByteArray.extract more 0 (min (ByteArray.size more) 300)))).take (min (Int.toNat ct) (max ((ByteArray.size (strB (frB (tl (ByteArray.extract more 0 (min (ByteArray.size more) 300)))))) - 1) 0))) isR_nil (by rw [tl_add, tl_strB, tl_extract, tl_strB, List.drop_zero]) (fst_cut (tl (ByteArray.extract more 0 (min (ByteArray.size more) 300))) (isR_of (by omega)) (min (Int.toNat ct) (max ((ByteArray.size (strB (frB (tl (ByteArray.extract more 0 (min (ByteArray.size more) 300)))))) - 1) 0)) (by rw [frB_len, tl_len]; omega)))
        have hz10 := congrArg List.length hl10; simp only [List.length_nil] at hz10
        refine s_val (some 89) (.tuple #[.slice (some ⟨b_25, 0, none⟩) n_27 cap_26, .int .i64 ((p_30 : Nat) : Int)]) (fun w => by kernel_rfl) (by kernel_rfl) ?_
        refine s_val (some 96) (.slice (some ⟨b_25, 0, none⟩) n_27 cap_26) (fun w => by kernel_rfl) (by kernel_rfl) ?_
        refine s_val (some 97) (.int .i64 ((p_30 : Nat) : Int)) (fun w => by kernel_rfl) (by kernel_rfl) ?_
        refine s_val (some 17) (.slice (some ⟨b_25, 0, none⟩) n_27 cap_26) (fun w => by kernel_rfl) (by kernel_rfl) ?_
        refine s_val (some 18) (.int .i64 ((p_30 : Nat) : Int)) (fun w => by kernel_rfl) (by kernel_rfl) ?_
        refine s_nil ?_
        refine g_sreg [0, 1, 2, 3, 4, 5, 6, 7, 8, 9, 10, 11, 12] (by kernel_rfl) (by kernel_rfl) ?_
        refine s_call H18 (some 98) 11 #[] (.bool true) alive_fn (fun w => by kernel_rfl) (by kernel_rfl) ?_
        intro w19 H19; clear H18
        refine s_val (some 99) (.bool true) (fun w => by kernel_rfl) (by kernel_rfl) ?_
        refine s_val (some 100) (.slice (some ⟨b_25, 0, none⟩) n_27 cap_26) (fun w => by kernel_rfl) (by kernel_rfl) ?_
        refine s_val (some 101) (.slice none 0 0) (fun w => by kernel_rfl) (by kernel_rfl) ?_
        refine s_callP H19 (some 102) 16 #[.slice (some ⟨b_25, 0, none⟩) n_27 cap_26, .slice none 0 0] (fun _ => True) (.bool true) (same_bn n_27 b_25 cap_26 (by omega)) trivial (fun w => by kernel_rfl) (by kernel_rfl) ?_
        intro w20 H20; clear H19
        refine s_val (some 103) (.bool true) (fun w => by kernel_rfl) (by kernel_rfl) ?_
        refine s_val (some 104) (.bool true) (fun w => by kernel_rfl) (by kernel_rfl) ?_
        refine s_val (some 105) (.int .i64 ((p_30 : Nat) : Int)) (fun w => by kernel_rfl) (by kernel_rfl) ?_
        refine s_val (some 106) (.string (strB (flat []))) (fun w => by kernel_rfl) (by kernel_rfl) ?_
        refine s_val (some 107) (.int .i64 ((ByteArray.size (strB (flat [])) : Nat) : Int)) (fun w => by kernel_rfl) (by kernel_rfl) ?_
        refine s_valE (some 108) (.bool (((p_30 : Nat) : Int) == ((ByteArray.size (strB (flat [])) : Nat) : Int))) (.bool true) (fun w => by kernel_rfl) (bool_eq (beq_iff_eq.2 (by omega))) (by kernel_rfl) ?_
        refine s_val (some 109) (.bool true) (fun w => by kernel_rfl) (by kernel_rfl) ?_
        refine s_val (some 6) (.bool true) (fun w => by kernel_rfl) (by kernel_rfl) ?_
        refine s_nil ?_
        refine g_ret (by kernel_rfl) ?_
        show ∃ vs, Res _ _ _ _ vs ∧ _
        refine ⟨[.bool true], (.tmp (.bool true) (by kernel_rfl) .nil), ?_, H20.below⟩
        rfl
    · skip
      refine s_call H13 (some 76) 8 #[.string (ByteArray.extract more 0 (min (ByteArray.size more) 300))] (.tuple #[.string (⟨#[]⟩), .int .i64 1]) (frameNo_fn (ByteArray.extract more 0 (min (ByteArray.size more) 300)) (by omega)) (fun w => by kernel_rfl) (by kernel_rfl) ?_
      intro w21 H21; clear H13
      refine s_val (some 70) (.tuple #[.string (⟨#[]⟩), .int .i64 1]) (fun w => by kernel_rfl) (by kernel_rfl) ?_
      refine s_val (some 77) (.string (⟨#[]⟩)) (fun w => by kernel_rfl) (by kernel_rfl) ?_
      refine s_val (some 78) (.int .i64 1) (fun w => by kernel_rfl) (by kernel_rfl) ?_
      refine s_val (some 15) (.string (⟨#[]⟩)) (fun w => by kernel_rfl) (by kernel_rfl) ?_
      refine s_val (some 16) (.int .i64 1) (fun w => by kernel_rfl) (by kernel_rfl) ?_
      refine s_nil ?_
      refine g_seq (by kernel_rfl) ?_
      refine g_sreg [0, 1] (by kernel_rfl) (by kernel_rfl) ?_
      refine s_val (some 79) (.int .i64 1) (fun w => by kernel_rfl) (by kernel_rfl) ?_
      refine s_val (some 80) (.bool true) (fun w => by kernel_rfl) (by kernel_rfl) ?_
      refine s_nil ?_
      refine g_cond_t (by kernel_rfl) (by kernel_rfl) ?_
      refine g_sreg [0, 1] (by kernel_rfl) (by kernel_rfl) ?_
      refine s_call H21 (some 81) 11 #[] (.bool true) alive_fn (fun w => by kernel_rfl) (by kernel_rfl) ?_
      intro w22 H22; clear H21
      refine s_val (some 6) (.bool true) (fun w => by kernel_rfl) (by kernel_rfl) ?_
      refine s_nil ?_
      refine g_ret (by kernel_rfl) ?_
      show ∃ vs, Res _ _ _ _ vs ∧ _
      refine ⟨[.bool true], (.tmp (.bool true) (by kernel_rfl) .nil), ?_, H22.below⟩
      rfl
end Go.Proofs.Ythipcmpmfjeakaa
